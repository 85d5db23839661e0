import PyProof.Rows.All
import Wide.All
import OpenK.AllK
import Wide.FinOn
import Lean
import PyProof.EqAt
import PyProof.EqKinds
import PyProof.TupleCall
import PyProof.CompFree
import PyProof.Cells
import KE.KTryMore
import PyProof.ExcBaseAll.ValueError
import PyProof.ExcAttrAll.ValueError
import PyProof.EnumFor
import PyProof.EnumStmt
import PyProof.EnumMake
import PyProof.ZipIter
import PyProof.SumAny
import PyProof.MinMaxWalk
import PyProof.ConsumeWalk
import PyProof.Rows.EnumRows
import PyProof.Rows.FactsT2
import PyProof.Rows.SeqGen
import PyProof.ListRange
import PyProof.Rows.SortShell
import PyProof.Rows.SortWalk
import PyProof.Rows.CallKwBuiltin
import PyProof.Rows.SortRev
import PySem.Challenge.RW_quits_k31_no_answer
set_option compiler.extract_closed false
set_option bootstrap.genMatcherCode false
set_option Elab.async false
set_option linter.all false
set_option maxRecDepth 100000
namespace Internal
theorem aut0 (h : True := by first | exact .inl rfl | exact .inr rfl | assumption) : True := h
theorem aut1 (h : True := by decide) : True := h
theorem aut2 (h : True := by rfl) : True := h
theorem aut3 (h : True := by intro _; rfl) : True := h
open PySem PySem.Spec PyProof.Rows

noncomputable abbrev Key := Sum Int Str
noncomputable def keyIs : Key → Value → Bool
  | .inl k, v => Value.isInt k v
  | .inr x, v => Value.isStrOf x v
noncomputable def keyH (w : World) : Key → Int
  | .inl k => hashInt k
  | .inr x => hashStr w x
theorem keyIs_shape : ∀ {k : Key} {v : Value}, keyIs k v = true → (∃ i t, k = Sum.inl i ∧ v = Value.int i t) ∨ (∃ x t, k = Sum.inr x ∧ v = Value.str x t)
  | .inl i, v, h => by
    obtain ⟨t, e⟩ := Value.isInt_shape (k := i) (v := v) h
    exact .inl ⟨i, t, rfl, e⟩
  | .inr x, v, h => by
    obtain ⟨t, e⟩ := Value.isStrOf_shape (x := x) (v := v) h
    exact .inr ⟨x, t, rfl, e⟩
theorem key_ll (a b : Int) : decide ((Sum.inl a : Key) = Sum.inl b) = (a == b) := by
  by_cases e : a = b
  · subst e; simp
  · have h : ¬ (Sum.inl a : Key) = Sum.inl b := fun q => e (Sum.inl.inj q)
    rw [decide_eq_false h]
    exact (beq_eq_false_iff_ne.mpr e).symm
theorem key_rr (a b : Str) : decide ((Sum.inr a : Key) = Sum.inr b) = decide (a = b) := by
  by_cases e : a = b
  · subst e; simp
  · have h : ¬ (Sum.inr a : Key) = Sum.inr b := fun q => e (Sum.inr.inj q)
    rw [decide_eq_false h, decide_eq_false e]
theorem key_lr (a : Int) (b : Str) : decide ((Sum.inl a : Key) = Sum.inr b) = false := decide_eq_false (fun q => nomatch q)
theorem key_rl (a : Str) (b : Int) : decide ((Sum.inr a : Key) = Sum.inl b) = false := decide_eq_false (fun q => nomatch q)

noncomputable def mixKind (prog : Program) (w : World) : PySem.KeyKind prog w Key where
  is := keyIs
  hash := keyH w
  inj := fun v a b ha hb => by
    rcases keyIs_shape ha with ⟨i, t, rfl, rfl⟩ | ⟨x, t, rfl, rfl⟩
    · rcases keyIs_shape hb with ⟨j, u, rfl, e⟩ | ⟨y, u, rfl, e⟩
      · injection e with e1 _; rw [e1]
      · exact nomatch e
    · rcases keyIs_shape hb with ⟨j, u, rfl, e⟩ | ⟨y, u, rfl, e⟩
      · exact nomatch e
      · injection e with e1 _; rw [e1]
  byValue := fun k v h => by
    rcases keyIs_shape h with ⟨i, t, rfl, rfl⟩ | ⟨x, t, rfl, rfl⟩ <;> rfl
  pyHash := fun hv h => by
    rcases keyIs_shape hv with ⟨i, t, rfl, rfl⟩ | ⟨x, t, rfl, rfl⟩
    · exact wpAny_pyHash_int h
    · exact wpAny_pyHash_str h
  eqBool := fun hu hv h => by
    rcases keyIs_shape hu with ⟨i, t, rfl, rfl⟩ | ⟨x, t, rfl, rfl⟩
    · rcases keyIs_shape hv with ⟨j, u, rfl, rfl⟩ | ⟨y, u, rfl, rfl⟩
      · rw [key_ll] at h; exact wpAny_eqBool_int h
      · rw [key_lr] at h; exact SeqAt.EqAt.int_str i t y u _ _ _ _ h
    · rcases keyIs_shape hv with ⟨j, u, rfl, rfl⟩ | ⟨y, u, rfl, rfl⟩
      · rw [key_rl] at h; exact SeqAt.EqAt.str_int x t j u _ _ _ _ h
      · rw [key_rr] at h; exact wpAny_eqBool_str h
  «strs» := fun k x t v h => by
    rcases keyIs_shape h with ⟨i, u, rfl, e⟩ | ⟨y, u, rfl, e⟩
    · exact nomatch e
    · injection e with e1 _
      subst e1
      cases v <;> rfl

end Internal

namespace Internal
open PySem PySem.Spec PyProof.Rows

inductive V where
  | non | bl (b : Bool) | int (i : Int) | str (x : Str) | byt (b : Array UInt8) | flt (b : UInt64) | ref (a : Addr) | ty (n : String)
  deriving DecidableEq

noncomputable def RelV : V → Value → Prop
  | .non, u => u = Value.none
  | .bl b, u => u = Value.bool b
  | .int i, u => ∃ t, u = Value.int i t
  | .str x, u => ∃ t, u = Value.str x t
  | .byt b, u => ∃ t, u = Value.bytes b t
  | .flt b, u => ∃ t, u = Value.float b t
  | .ref a, u => u = Value.ref a
  | .ty n, u => u = Value.type n

noncomputable abbrev Vals : List V → List Value → Prop := Paired RelV
theorem Vals.length {xs : List V} {us : List Value} (r : Vals xs us) : xs.length = us.length := Paired.length r
theorem Vals.get : ∀ {xs : List V} {us : List Value} {i : Nat} {x : V}, Vals xs us → xs[i]? = some x → ∃ u, us[i]? = some u ∧ RelV x u
  | _, _, _, _, .nil, e => by simp at e
  | _, _, 0, _, .cons r _, e => by simp at e; subst e; exact ⟨_, rfl, r⟩
  | _, _, i + 1, x, .cons _ t, e => by
    obtain ⟨u, h1, h2⟩ := Vals.get (i := i) (x := x) t (by simpa using e)
    exact ⟨u, by simpa using h1, h2⟩
theorem Vals.set {x : V} {u : Value} (r : RelV x u) : ∀ {xs : List V} {us : List Value} (i : Nat), Vals xs us → Vals (xs.set i x) (us.set i u)
  | _, _, _, .nil => .nil
  | _, _, 0, .cons _ t => .cons r t
  | _, _, i + 1, .cons q t => .cons q (Vals.set r i t)
theorem Vals.append : ∀ {xs ys : List V} {us ws : List Value}, Vals xs us → Vals ys ws → Vals (xs ++ ys) (us ++ ws)
  | _, _, _, _, .nil, s => s
  | _, _, _, _, .cons r t, s => .cons r (Vals.append t s)
theorem Vals.take : ∀ {xs : List V} {us : List Value} (n : Nat), Vals xs us → Vals (xs.take n) (us.take n)
  | _, _, 0, _ => .nil
  | _, _, _ + 1, .nil => .nil
  | _, _, n + 1, .cons r t => .cons r (Vals.take n t)
theorem Vals.drop : ∀ {xs : List V} {us : List Value} (n : Nat), Vals xs us → Vals (xs.drop n) (us.drop n)
  | _, _, 0, r => r
  | _, _, _ + 1, .nil => .nil
  | _, _, n + 1, .cons _ t => Vals.drop n t
noncomputable def RelO : Option V → Option Value → Prop
  | some v, some u => RelV v u
  | none, none => True
  | _, _ => False
noncomputable def KV {κ : Type} : List (κ × V) → List (κ × Value) → Prop := Paired fun (p : κ × V) (q : κ × Value) => p.1 = q.1 ∧ RelV p.2 q.2

noncomputable def kV : Key → V
  | .inl i => .int i
  | .inr x => .str x

inductive HO where
  /-- a list -/
  | lst (xs : List V)
  /-- a tuple (never changes) -/
  | tup (xs : List V)
  /-- a dict whose keys are ints and texts; one whose keys are tuples of ints and texts (the empty one is both) -/
  | dK (kvs : List (Key × V)) | dT (kvs : List (List Key × V))
  /-- a set of ints: its members, its size -/
  | set (S : Int → Bool) (n : Nat)
  /-- an instance of the class at C, its dict at dx, its attributes -/
  | ins (C dx : Addr) (fs : List (Str × V))
  /-- the dict of the instance at x -/
  | own (x : Addr)
  /-- the dict of an exception -/
  | xd (fs : List (Str × V))
  /-- a bound method, f of x -/
  | met (f x : Addr)
  /-- a range object lo, lo + 1, .. below hi -/
  | rng (lo hi : Int)
  /-- a thing that is known to the object (the script; a dict while a loop walks it): read, never written while it is so -/
  | frz (o : Obj) (u : HO)
  /-- a code object's table -/
  | tbl (ps : Array Value)
  /-- any other thing, by what is true of its one object (a def of one's own: SetO a S n := HO.ext fun h => ..) -/
  | ext (φ : Heap → Prop)

noncomputable abbrev Hp := Addr → Option HO
noncomputable def upd (H : Hp) (a : Addr) (o : HO) : Hp := fun b => if b = a then some o else H b
theorem upd_same {H : Hp} {a : Addr} {o : HO} : upd H a o a = some o := by unfold upd; rw [if_pos rfl]
theorem upd_ne {H : Hp} {a b : Addr} {o : HO} (h : b ≠ a) : upd H a o b = H b := by unfold upd; rw [if_neg h]
theorem ne_of {H : Hp} {a b : Addr} {o u : HO} (h : H a = some o) (h' : H b = some u) (d : o ≠ u) : a ≠ b := by
  intro e; subst e; rw [h] at h'; exact d (Option.some.inj h')
theorem ne_of_none {H : Hp} {a b : Addr} {o : HO} (h : H a = some o) (h' : H b = none) : a ≠ b := by
  intro e; subst e; rw [h] at h'; cases h'

section
variable (P : Program) (w : World)
noncomputable def ObjOk (H : Hp) (h : Heap) (a : Addr) : HO → Prop
  | .lst xs => xs.length ≤ sizeLine ∧ ∃ (its : List Value) (n : Nat), Vals xs its ∧ h.get? a = some { cls := .type "list", data := .seq its.toArray n }
  | .tup xs => xs.length ≤ sizeLine ∧ ∃ its : List Value, Vals xs its ∧ IsTup h a its.toArray
  | .dK kvs => kvs.length ≤ sizeLine ∧ (a == sysModules) = false ∧ ∃ vs, KV kvs vs ∧ h.DictOf (mixKind P w) a vs
  | .dT kvs => kvs.length ≤ sizeLine ∧ (a == sysModules) = false ∧ ∃ xs : List (List Key × Addr × Value),
      Paired (fun (p : List Key × V) (q : List Key × Addr × Value) => p.1 = q.1 ∧ H q.2.1 = some (.tup (p.1.map kV)) ∧ RelV p.2 q.2.2) kvs xs ∧
      ∃ o es ep, h.get? a = some o ∧ o.ExactDict ∧ o.data = .dict es ep ∧ es.toList = xs.map (entryOfKey (tupleKind (mixKind P w))) ∧ (xs.map (·.1)).Nodup
  | .set S n => h.SetOf (intKind P w) a S n
  | .ins C dx fs => H dx = some (.own a) ∧ fs.length ≤ 1000 ∧ dx ≠ a ∧ h.get? a = some (PySem.W.instObj C dx) ∧
      ∃ mA, h.Ns1 dx mA ∧ (∀ f, RelO (fs.lookup f) (mA f)) ∧ PySem.Within mA (fs.map (·.1))
  | .own _ => ∃ o, h.get? a = some o
  | .xd fs => ∃ mA, h.Ns1 a mA ∧ ∀ f, RelO (fs.lookup f) (mA f)
  | .rng lo hi => ∃ t u v, h.get? a = some { cls := .type "range", data := .fields #[.int lo t, .int hi u, .int 1 v] }
  | .frz o u => h.get? a = some o ∧ ObjOk H h a u
  | .tbl ps => h.get? a = some { cls := .none, data := .fields ps }
  | .met f x => h.get? a = some (PySem.W.methodObj (.ref f) (.ref x))
  | .ext φ => φ h ∧ (∃ o, h.get? a = some o) ∧ ∀ h1 h2 : Heap, φ h1 → (∀ o, h1.get? a = some o → h2.get? a = some o) → φ h2
noncomputable def HOk (H : Hp) (h : Heap) : Prop := ∀ a o, H a = some o → ObjOk P w H h a o
end

section
variable {P : Program} {w : World} {H H' : Hp} {h h' : Heap} {a : Addr} {o : HO}
theorem ObjOk.lt (x : ObjOk P w H h a o) : a < h.objs.size := by
  cases o with
  | lst xs => obtain ⟨_, _, _, _, e⟩ := x; exact Heap.lt_size e
  | tup xs => obtain ⟨_, _, _, p⟩ := x; exact p.lt
  | dK kvs => obtain ⟨_, _, _, _, o, _, _, e, _⟩ := x; exact Heap.lt_size e
  | dT kvs => obtain ⟨_, _, _, _, o, _, _, e, _⟩ := x; exact Heap.lt_size e
  | set S n => obtain ⟨o, _, _, _, e, _⟩ := x; exact Heap.lt_size e
  | ins C dx fs => obtain ⟨_, _, _, e, _⟩ := x; exact Heap.lt_size e
  | own y => obtain ⟨_, e⟩ := x; exact Heap.lt_size e
  | xd fs => obtain ⟨_, ⟨_, _, _, e, _⟩, _⟩ := x; exact Heap.lt_size e
  | rng lo hi => obtain ⟨_, _, _, e⟩ := x; exact Heap.lt_size e
  | frz ob u => obtain ⟨e, _⟩ := x; exact Heap.lt_size e
  | tbl ps => exact Heap.lt_size (show h.get? a = some _ from x)
  | met f y => exact Heap.lt_size (show h.get? a = some _ from x)
  | ext φ => obtain ⟨_, ⟨_, e⟩, _⟩ := x; exact Heap.lt_size e
theorem Paired.mapP {α β : Type} {F G : α → β → Prop} : ∀ {l₁ : List α} {l₂ : List β}, Paired F l₁ l₂ → (∀ a b, F a b → G a b) → Paired G l₁ l₂
  | _, _, .nil, _ => .nil
  | _, _, .cons r t, f => .cons (f _ _ r) (Paired.mapP t f)
theorem ObjOk.stay (x : ObjOk P w H h a o) (k : ∀ b u, (b = a ∨ H b = some (.own a)) → h.get? b = some u → h'.get? b = some u)
    (ho : ∀ b, H b = some (.own a) → H' b = some (.own a)) (ht : ∀ b xs, H b = some (.tup xs) → H' b = some (.tup xs)) : ObjOk P w H' h' a o := by
  induction o with
  | lst xs => obtain ⟨z, its, n, r, e⟩ := x; exact ⟨z, its, n, r, k _ _ (.inl rfl) e⟩
  | tup xs => obtain ⟨z, its, r, ob, e, c⟩ := x; exact ⟨z, its, r, ob, k _ _ (.inl rfl) e, c⟩
  | dK kvs => obtain ⟨z, y, vs, r, ob, es, ep, e, c⟩ := x; exact ⟨z, y, vs, r, ob, es, ep, k _ _ (.inl rfl) e, c⟩
  | dT kvs =>
    obtain ⟨z, y, xs, r, ob, es, ep, e, c⟩ := x
    exact ⟨z, y, xs, Paired.mapP r fun p q z => ⟨z.1, ht _ _ z.2.1, z.2.2⟩, ob, es, ep, k _ _ (.inl rfl) e, c⟩
  | set S n => obtain ⟨ob, es, ep, t, e, c⟩ := x; exact ⟨ob, es, ep, t, k _ _ (.inl rfl) e, c⟩
  | ins C dx fs =>
    obtain ⟨d, z, ne, e, mA, ⟨od, es, ep, e2, c⟩, r⟩ := x
    exact ⟨ho _ d, z, ne, k _ _ (.inl rfl) e, mA, ⟨od, es, ep, k _ _ (.inr d) e2, c⟩, r⟩
  | own y => obtain ⟨ob, e⟩ := x; exact ⟨ob, k _ _ (.inl rfl) e⟩
  | xd fs => obtain ⟨mA, ⟨od, es, ep, e, c⟩, r⟩ := x; exact ⟨mA, ⟨od, es, ep, k _ _ (.inl rfl) e, c⟩, r⟩
  | rng lo hi => obtain ⟨t, u, v, e⟩ := x; exact ⟨t, u, v, k _ _ (.inl rfl) e⟩
  | frz ob u ih => obtain ⟨e, q⟩ := x; exact ⟨k _ _ (.inl rfl) e, ih q⟩
  | tbl ps =>
    have e : h.get? a = some { cls := .none, data := .fields ps } := x
    show h'.get? a = some { cls := .none, data := .fields ps }
    exact k a _ (.inl rfl) e
  | met f y =>
    have e : h.get? a = some (PySem.W.methodObj (.ref f) (.ref y)) := x
    show h'.get? a = some (PySem.W.methodObj (.ref f) (.ref y))
    exact k a _ (.inl rfl) e
  | ext φ => obtain ⟨p, ⟨o, e⟩, st⟩ := x; exact ⟨st _ _ p fun o q => k _ _ (.inl rfl) q, ⟨o, k _ _ (.inl rfl) e⟩, st⟩
theorem HOk.lt (x : HOk P w H h) (e : H a = some o) : a < h.objs.size := (x a o e).lt
theorem HOk.fresh (x : HOk P w H h) (e : h.objs.size ≤ a) : H a = none := by
  cases q : H a with
  | none => rfl
  | some u => exact absurd (Nat.lt_of_lt_of_le (x.lt q) e) (Nat.lt_irrefl _)
theorem HOk.kept (x : HOk P w H h) (k : ∀ b u, h.get? b = some u → h'.get? b = some u) : HOk P w H h' := fun a o e =>
  (x a o e).stay (fun b u _ q => k b u q) (fun _ q => q) fun _ _ q => q
theorem HOk.laid (x : HOk P w H h) (k : ∀ b u, h.get? b = some u → h'.get? b = some u) (hp : h.objs.size ≤ a) (new : ObjOk P w (upd H a o) h' a o) : HOk P w (upd H a o) h' := fun b u e => by
  have hn := x.fresh hp
  by_cases hb : b = a
  · subst hb; rw [upd_same] at e; cases e; exact new
  · rw [upd_ne hb] at e
    exact (x b u e).stay (fun c v _ q => k c v q) (fun c q => by rw [upd_ne (ne_of_none q hn)]; exact q) fun c xs q => by rw [upd_ne (ne_of_none q hn)]; exact q
end

noncomputable def Rd (H : Hp) (a : Addr) (u : HO) : Prop := H a = some u ∨ ∃ o, H a = some (.frz o u)
theorem Rd.ok {P : Program} {w : World} {H : Hp} {h : Heap} {a : Addr} {u : HO} (r : Rd H a u) (x : HOk P w H h) : ObjOk P w H h a u := by
  rcases r with r | ⟨o, r⟩
  · exact x a u r
  · obtain ⟨_, q⟩ := x a _ r
    exact q
noncomputable def Mut : Option HO → Prop
  | some (.lst _) => True
  | some (.dK _) => True
  | some (.dT _) => True
  | some (.set _ _) => True
  | some (.ins _ _ _) => True
  | some (.ext _) => True
  | _ => False
section
variable {P : Program} {w : World} {H : Hp} {h h' : Heap} {x e : Addr} {o' : HO}
theorem HOk.write (ok : HOk P w H h) (mu : Mut (H x)) (he : e = x ∨ H e = some (.own x)) (k : ∀ b u, b ≠ e → h.get? b = some u → h'.get? b = some u) (heo : ∃ u, h'.get? e = some u)
    (new : ObjOk P w (upd H x o') h' x o') : HOk P w (upd H x o') h' := fun b u q => by
  have nown : ∀ c y, H c = some (.own y) → c ≠ x := fun c y r z => by subst z; rw [r] at mu; exact mu
  have ntup : ∀ c xs, H c = some (.tup xs) → c ≠ x := fun c xs r z => by subst z; rw [r] at mu; exact mu
  by_cases hb : b = x
  · subst hb; rw [upd_same] at q; cases q; exact new
  · rw [upd_ne hb] at q
    by_cases hbe : b = e
    · have q' : H b = some (.own x) := by
        rcases he with z | z
        · exact absurd (hbe.trans z) hb
        · rw [hbe]; exact z
      rw [q] at q'; cases q'
      obtain ⟨v, hv⟩ := heo
      exact ⟨v, by rw [hbe]; exact hv⟩
    · refine (ok b u q).stay (fun c v hc r => k c v ?_ r) (fun c r => by rw [upd_ne (nown c b r)]; exact r) fun c xs r => by rw [upd_ne (ntup c xs r)]; exact r
      rcases hc with rfl | hc
      · exact hbe
      · rintro rfl
        rcases he with z | z
        · exact nown c b hc z
        · rw [hc] at z; cases z; exact hb rfl
end

set_option genInjectivity false in
set_option genSizeOf false in
structure Un (fs ex : List Addr) (H H' : Hp) (h h' : Heap) : Prop where
  keep : ∀ b o, h.get? b = some o → H b = none → b ∉ fs → b ∉ ex → h'.get? b = some o
  slot : ∀ b o, h.get? b = some o → H b = none → b ∈ fs → b ∉ ex → ∃ sl, h'.get? b = some { o with slots := sl }
  free : ∀ b o, h.get? b = some o → H b = none → b ∉ ex → H' b = none
  there : ∀ b o, h.get? b = some o → b ∉ ex → ∃ o', h'.get? b = some o'
  tups : ∀ b xs, H b = some (.tup xs) → H' b = some (.tup xs)
  frzs : ∀ b o u, H b = some (.frz o u) → H' b = some (.frz o u)
  tbls : ∀ b ps, H b = some (.tbl ps) → ∃ more, H' b = some (.tbl (ps ++ more))
section
variable {fs fs' ex ex' : List Addr} {H H1 H2 : Hp} {h h1 h2 h' : Heap} {a x e : Addr} {o : HO}
theorem Un.any (u : Un fs ex H H1 h h1) {b : Addr} {ob : Obj} (q : h.get? b = some ob) (n : H b = none) (hx : b ∉ ex) : ∃ sl, h1.get? b = some { ob with slots := sl } := by
  by_cases hb : b ∈ fs
  · exact u.slot b ob q n hb hx
  · exact ⟨ob.slots, u.keep b ob q n hb hx⟩
theorem Un.kept (k : ∀ b u, h.get? b = some u → h'.get? b = some u) : Un fs ex H H h h' :=
  ⟨fun b ob q _ _ _ => k b ob q, fun b ob q _ _ _ => ⟨ob.slots, k b ob q⟩, fun _ _ _ n _ => n, fun b ob q _ => ⟨ob, k b ob q⟩, fun _ _ q => q, fun _ _ _ q => q, fun _ ps q => ⟨#[], by rw [q]; simp⟩⟩
theorem Un.refl : Un fs ex H H h h := Un.kept fun _ _ q => q
theorem Un.laid (k : ∀ b u, h.get? b = some u → h'.get? b = some u) (hp : h.objs.size ≤ a) (hn : H a = none) : Un fs ex H (upd H a o) h h' where
  keep := fun b u q _ _ _ => k b u q
  slot := fun b u q _ _ _ => ⟨u.slots, k b u q⟩
  free := fun b u q n _ => by rw [upd_ne (Nat.ne_of_lt (Nat.lt_of_lt_of_le (Heap.lt_size q) hp))]; exact n
  there := fun b u q _ => ⟨u, k b u q⟩
  tups := fun b xs q => by rw [upd_ne (ne_of_none q hn)]; exact q
  frzs := fun b u xs q => by rw [upd_ne (ne_of_none q hn)]; exact q
  tbls := fun b ps q => ⟨#[], by rw [upd_ne (ne_of_none q hn), q]; simp⟩
theorem Un.write (mu : Mut (H x)) (he : e = x ∨ H e = some (.own x)) (k : ∀ b u, b ≠ e → h.get? b = some u → h'.get? b = some u) (heo : ∃ u, h'.get? e = some u) : Un fs ex H (upd H x o) h h' := by
  have hx : ∀ b, H b = none → b ≠ x := fun b n z => by subst z; rw [n] at mu; exact mu
  have hb : ∀ b, H b = none → b ≠ e := fun b n z => by
    subst z
    rcases he with r | r
    · exact hx b n r
    · rw [n] at r; cases r
  have hm : ∀ b u, H b = some u → ¬ Mut (some u) → b ≠ x := fun b u q nm z => by subst z; rw [q] at mu; exact nm mu
  refine ⟨fun b u q n _ _ => k b u (hb b n) q, fun b u q n _ _ => ⟨u.slots, k b u (hb b n) q⟩, fun b u q n _ => by rw [upd_ne (hx b n)]; exact n, fun b u q _ => ?_,
    fun b xs q => by rw [upd_ne (hm b _ q fun z => z)]; exact q, fun b u xs q => by rw [upd_ne (hm b _ q fun z => z)]; exact q, fun b ps q => ⟨#[], by rw [upd_ne (hm b _ q fun z => z), q]; simp⟩⟩
  by_cases hbe : b = e
  · subst hbe; exact heo
  · exact ⟨u, k b u hbe q⟩
end

noncomputable def trk (h : Heap) (H : Hp) : List Addr := (List.range h.objs.size).filter fun a => (H a).isSome
noncomputable def hidT (h : Heap) (H : Hp) : Heap := PySem.W.hideAll h (trk h H)
theorem hidT_size (h : Heap) (H : Hp) : (hidT h H).objs.size = h.objs.size := PySem.W.hideAll_size _ _
theorem hidT_get {h : Heap} {H : Hp} {b : Addr} {o : Obj} (e : h.get? b = some o) (n : H b = none) : (hidT h H).get? b = some o :=
  PySem.W.hideAll_get _ e fun hm => by
    have q : (H b).isSome = true := (List.mem_filter.mp hm).2
    rw [n] at q; simp at q
theorem of_hidT {h : Heap} {H : Hp} {b : Addr} {o : Obj} (e : (hidT h H).get? b = some o) : h.get? b = some o ∧ H b = none := by
  have e' : h.get? b = some o := PySem.W.of_hideAll (trk h H) e
  refine ⟨e', ?_⟩
  cases q : H b with
  | none => rfl
  | some x =>
    have hm : b ∈ trk h H := List.mem_filter.mpr ⟨List.mem_range.mpr (Heap.lt_size e'), by simp [q]⟩
    have z : (hidT h H).get? b = none := PySem.W.hideAll_none (trk h H) hm
    rw [z] at e; cases e

noncomputable def allNews (g h : Heap) (L : Addr) : List (Addr × Obj) := (List.range h.objs.size).filterMap fun a => if a = L ∨ (g.get? a).isSome = true then none else (h.get? a).map fun o => (a, o)
noncomputable def rest (g h : Heap) (L d : Addr) : List (Addr × Obj) := (allNews g h L).filter fun p => decide (p.1 ≠ d)
end Internal

namespace Internal
open PySem PySem.Spec PyProof.Rows

set_option genInjectivity false in
set_option genSizeOf false in
structure Mod (K : PySem.W.Frag) (mg : Str → Option Value) (base : Heap) : Prop where
  kin : K.In base
  glob : base.Ns mainGlobals mg
  blt : ∃ mb, base.Ns builtinsNs mb ∧ ∀ x : Str, x ≠ "__name__" → mb x = bootBuiltins x
  nolimit : base.NoLimit

set_option genSizeOf false in
structure Cx where
  prog : Program
  w : World
  K : PySem.W.Frag
  mg : Str → Option Value
  base : Heap
  A : Around
  N : List Str
  s₀ : Shared
  H₀ : Hp
  env : Env
  outer : List Env
  stack : List Env
  ex : List Addr
  fn : Str → Bool
  calm : Bool
  pn : List (Addr × Obj)
  xe : Value → Shared → Prop
noncomputable def frs (l : List Env) : List Addr := l.filterMap (·.frame)
noncomputable abbrev Cx.fs (X : Cx) : List Addr := frs X.outer

noncomputable def Vis (sc : Scope) (x : Str) : Prop := sc.names.lookup x = some .local ∨ sc.names.lookup x = some .cell ∨ sc.names.lookup x = some .free
noncomputable def Loc (sc : Scope) (x : Str) : Prop := sc.names.lookup x = some .local ∨ sc.names.lookup x = some .cell
noncomputable def Look (env : Env) (h : Heap) (m : Str → Option Value) (x : Str) (u : Value) : Prop :=
  (env.kindOf x = some .local ∧ m x = some u) ∨ ((env.kindOf x = some .cell ∨ env.kindOf x = some .free) ∧ ∃ c, env.cells.lookup x = some c ∧ h.IsCell c (some u))

set_option genSizeOf false in
structure Cx.Ok (X : Cx) : Prop where
  mod : Mod X.K X.mg X.base
  kind : X.env.scope.kind = .function
  glob : X.env.globals = mainGlobals
  blt : X.env.builtins = builtinsNs
  above : X.s₀.heap.objs.size ≤ X.env.locals
  inj : ∀ x y c, X.env.cells.lookup x = some c → X.env.cells.lookup y = some c → x = y
  has : ∀ x, (X.env.kindOf x = some .cell ∨ X.env.kindOf x = some .free) → ∃ c, X.env.cells.lookup x = some c
  cab : ∀ x c, X.fn x = true → X.env.cells.lookup x = some c → X.s₀.heap.objs.size ≤ c
  hd : X.calm = true → X.A.handled = none
  frames : X.A.frames = some X.stack
  stk : X.stack = X.outer ∨ (X.stack = X.env :: X.outer ∧ X.env.frame = some X.env.locals)
  exf : ∀ b ∈ X.ex, b ≠ X.env.locals ∧ ∀ x c, X.env.cells.lookup x = some c → c ≠ b
  bs : ∀ b o, X.base.get? b = some o → X.s₀.heap.get? b = some o ∧ X.H₀ b = none
  bsz : X.base.objs.size ≤ X.s₀.heap.objs.size
  noex : ∀ b o, X.base.get? b = some o → b ∉ X.ex
  exfs : ∀ b ∈ X.ex, b ∉ X.fs
  funs : X.s₀.heap.FunFrames X.base X.outer
  frf : ∀ b ∈ X.fs, X.H₀ b = none

set_option genInjectivity false in
set_option genSizeOf false in
structure Inv (X : Cx) (pins : List (Addr × Obj)) (σ : List (Option V)) (H : Hp) (s : Shared) : Prop where
  ok : X.Ok
  os : s.os = X.s₀.os
  bare : AllBare s.gens
  base : Un X.fs X.ex X.H₀ H X.s₀.heap s.heap
  loc : ∃ m, s.heap.Ns X.env.locals m ∧ ∀ (i : Nat) (x : Str) (v : V), X.N[i]? = some x → σ[i]? = some (some v) → Vis X.env.scope x → ∃ u, RelV v u ∧ Look X.env s.heap m x u
  cell : ∀ x c, X.env.cells.lookup x = some c → ∃ v, s.heap.IsCell c v
  free : H X.env.locals = none
  freeC : ∀ x c, X.env.cells.lookup x = some c → H c = none
  pin : ∀ p ∈ X.pn ++ pins, s.heap.get? p.1 = some p.2 ∧ H p.1 = none ∧ p.1 ≠ X.env.locals ∧ p.1 ∉ X.fs ∧ ∀ v, p.2.data ≠ .cell v
  hok : HOk X.prog X.w H s.heap
  len : σ.length = X.N.length

section
variable {X : Cx} {pins : List (Addr × Obj)} {σ : List (Option V)} {H H' : Hp} {s : Shared} {h' : Heap}

theorem Cx.Ok.nofr (ok : X.Ok) {b : Addr} {o : Obj} (e : X.base.get? b = some o) : b ∉ X.fs := fun hb => by
  have := (ok.funs.mem hb).1
  rw [e] at this; cases this
theorem Inv.bs (I : Inv X pins σ H s) : ∀ b o, X.base.get? b = some o → s.heap.get? b = some o ∧ H b = none := fun b o e =>
  ⟨I.base.keep b o (I.ok.bs b o e).1 (I.ok.bs b o e).2 (I.ok.nofr e) (I.ok.noex b o e), I.base.free b o (I.ok.bs b o e).1 (I.ok.bs b o e).2 (I.ok.noex b o e)⟩
theorem Inv.bk (I : Inv X pins σ H s) : ∀ b o, X.base.get? b = some o → s.heap.get? b = some o := fun b o e => (I.bs b o e).1
theorem Inv.mod (I : Inv X pins σ H s) : Mod X.K X.mg X.base := I.ok.mod
theorem Inv.kIn (I : Inv X pins σ H s) : X.K.In s.heap := I.ok.mod.kin.keeps I.bk
theorem Inv.lt (I : Inv X pins σ H s) : X.env.locals < s.heap.objs.size := let ⟨_, hn, _⟩ := I.loc; hn.lt
theorem Inv.sz (I : Inv X pins σ H s) : X.s₀.heap.objs.size ≤ s.heap.objs.size := Nat.le_trans I.ok.above (Nat.le_of_lt I.lt)
theorem Inv.nofs (I : Inv X pins σ H s) {a : Addr} (h : s.heap.objs.size ≤ a) : a ∉ X.fs := fun hb => by
  obtain ⟨_, o, ho, _⟩ := I.ok.funs.mem hb
  exact absurd (Nat.lt_of_lt_of_le (Heap.lt_size ho) (Nat.le_trans I.sz h)) (Nat.lt_irrefl _)
theorem Inv.cne (I : Inv X pins σ H s) : ∀ x c, X.env.cells.lookup x = some c → c ≠ X.env.locals := fun x c e z => by
  obtain ⟨v, o, ho, hd⟩ := I.cell x c e
  obtain ⟨m, ⟨o', es, ep, ho', hd', _⟩, _⟩ := I.loc
  rw [z, ho'] at ho; cases ho; rw [hd'] at hd; cases hd
theorem Inv.funs (I : Inv X pins σ H s) : s.heap.FunFrames X.base X.outer := by
  have all : ∀ (l : List Env), (∀ b ∈ frs l, b ∈ X.fs) → X.s₀.heap.FunFrames X.base l → s.heap.FunFrames X.base l := by
    intro l
    induction l with
    | nil => intro _ _; trivial
    | cons env r ih =>
      intro hs hl
      obtain ⟨hk, ⟨L, o, hf, hn, ho, hd⟩, hr⟩ := hl
      have hL : L ∈ X.fs := hs L (by unfold frs; rw [List.filterMap_cons, hf]; exact List.mem_cons_self)
      obtain ⟨sl, e⟩ := I.base.slot L o ho (I.ok.frf L hL) hL fun z => I.ok.exfs L z hL
      exact ⟨hk, ⟨L, _, hf, hn, e, hd⟩, ih (fun b hb => hs b (by unfold frs; rw [List.filterMap_cons, hf]; exact List.mem_cons_of_mem _ hb)) hr⟩
  exact all X.outer (fun _ hb => hb) I.ok.funs

theorem Inv.stack (I : Inv X pins σ H s) : s.heap.FunFrames X.base X.stack := by
  rcases I.ok.stk with e | ⟨e, hf⟩
  · rw [e]; exact I.funs
  · rw [e]
    obtain ⟨m, hn, _⟩ := I.loc
    refine .cons (by rw [I.ok.kind]; decide) hf hn ?_ I.funs
    exact Heap.get?_none_of_le (Nat.le_trans I.ok.bsz I.ok.above)
theorem Inv.stkSub (I : Inv X pins σ H s) : ∀ b ∈ frs X.stack, b ∈ X.env.locals :: X.fs := fun b hb => by
  rcases I.ok.stk with e | ⟨e, hf⟩
  · rw [e] at hb; exact List.mem_cons_of_mem _ hb
  · rw [e] at hb
    unfold frs at hb
    rw [List.filterMap_cons, hf] at hb
    exact hb
theorem Inv.stkFree (I : Inv X pins σ H s) : ∀ b ∈ frs X.stack, H b = none := fun b hb => by
  rcases List.mem_cons.mp (I.stkSub b hb) with e | hb
  · rw [e]; exact I.free
  · obtain ⟨_, o, ho, _⟩ := I.ok.funs.mem hb
    exact I.base.free b o ho (I.ok.frf b hb) fun z => I.ok.exfs b z hb

theorem Inv.step {g' : Array GenState} {t' : Nat} {d' : Drawn} {ch : List Addr} (I : Inv X pins σ H s)
    (hch : ∀ b ∈ ch, (b ∈ X.ex ∨ X.s₀.heap.objs.size ≤ b) ∧ b ≠ X.env.locals ∧ (∀ x c, X.env.cells.lookup x = some c → c ≠ b) ∧ ∀ p ∈ X.pn ++ pins, p.1 ≠ b)
    (keep : ∀ b o, b ≠ X.env.locals → b ∉ X.fs → b ∉ ch → s.heap.get? b = some o → H b = none → h'.get? b = some o)
    (slot : ∀ b o, b ≠ X.env.locals → b ∈ X.fs → b ∉ ch → s.heap.get? b = some o → H b = none → ∃ sl, h'.get? b = some { o with slots := sl }) (free : ∀ b o, b ∉ ch → s.heap.get? b = some o → H b = none → H' b = none)
    (there : ∀ b o, b ∉ ch → s.heap.get? b = some o → ∃ o', h'.get? b = some o')
    (tups : ∀ b xs, H b = some (.tup xs) → H' b = some (.tup xs)) (frzs : ∀ b o u, H b = some (.frz o u) → H' b = some (.frz o u)) (tbls : ∀ b ps, H b = some (.tbl ps) → ∃ more, H' b = some (.tbl (ps ++ more)))
    (ns : ∀ m, s.heap.Ns X.env.locals m → h'.Ns X.env.locals m) (hok : HOk X.prog X.w H' h') (hg : AllBare g') :
    Inv X pins σ H' { s with heap := h', gens := g', drawn := d', toks := t' } := by
  have neL : ∀ b o, X.s₀.heap.get? b = some o → b ≠ X.env.locals := fun b o e => Nat.ne_of_lt (Nat.lt_of_lt_of_le (Heap.lt_size e) I.ok.above)
  have neC : ∀ b o, X.s₀.heap.get? b = some o → b ∉ X.ex → b ∉ ch := fun b o e hx hb => by
    rcases (hch b hb).1 with z | z
    · exact hx z
    · exact absurd (Nat.lt_of_lt_of_le (Heap.lt_size e) z) (Nat.lt_irrefl _)
  have cellK : ∀ x c, X.env.cells.lookup x = some c → ∀ v, s.heap.IsCell c v → h'.IsCell c v := fun x c e v ⟨o, ho, hd⟩ => by
    have nch : c ∉ ch := fun z => (hch c z).2.2.1 x c e rfl
    by_cases hc : c ∈ X.fs
    · obtain ⟨sl, q⟩ := slot c o (I.cne x c e) hc nch ho (I.freeC x c e)
      exact ⟨_, q, hd⟩
    · exact ⟨o, keep c o (I.cne x c e) hc nch ho (I.freeC x c e), hd⟩
  refine ⟨I.ok, I.os, hg, ⟨fun b o e n hb hx => ?_, fun b o e n hb hx => ?_, fun b o e n hx => ?_, fun b o e hx => ?_, fun b xs e => tups b xs (I.base.tups b xs e), fun b o xs e => frzs b o xs (I.base.frzs b o xs e), fun b ps e => ?_⟩, ?_, fun x c e => ?_, ?_, fun x c e => ?_, fun p hp => ?_, hok, I.len⟩
  · exact keep b o (neL b o e) hb (neC b o e hx) (I.base.keep b o e n hb hx) (I.base.free b o e n hx)
  · obtain ⟨sl, e1⟩ := I.base.slot b o e n hb hx
    obtain ⟨sl', e2⟩ := slot b _ (neL b o e) hb (neC b o e hx) e1 (I.base.free b o e n hx)
    exact ⟨sl', e2⟩
  · obtain ⟨o', e1⟩ := I.base.there b o e hx
    exact free b o' (neC b o e hx) e1 (I.base.free b o e n hx)
  · obtain ⟨o', e1⟩ := I.base.there b o e hx
    exact there b o' (neC b o e hx) e1
  · obtain ⟨m1, e1⟩ := I.base.tbls b ps e
    obtain ⟨m2, e2⟩ := tbls b _ e1
    exact ⟨m1 ++ m2, by rw [e2, Array.append_assoc]⟩
  · obtain ⟨m, hn, hl⟩ := I.loc
    refine ⟨m, ns m hn, fun i x v e1 e2 e3 => ?_⟩
    obtain ⟨u, r, l⟩ := hl i x v e1 e2 e3
    refine ⟨u, r, ?_⟩
    rcases l with l | ⟨k, c, e, z⟩
    · exact .inl l
    · exact .inr ⟨k, c, e, cellK x c e _ z⟩
  · obtain ⟨v, z⟩ := I.cell x c e
    exact ⟨v, cellK x c e v z⟩
  · obtain ⟨m, ⟨o, _, _, ho, _⟩, _⟩ := I.loc
    exact free _ o (fun z => (hch _ z).2.1 rfl) ho I.free
  · obtain ⟨v, o, ho, hd⟩ := I.cell x c e
    exact free c o (fun z => (hch c z).2.2.1 x c e rfl) ho (I.freeC x c e)
  · obtain ⟨e, n, ne, nf, d⟩ := I.pin p hp
    have nch : p.1 ∉ ch := fun z => (hch p.1 z).2.2.2 p hp rfl
    exact ⟨keep p.1 p.2 ne nf nch e n, free p.1 p.2 nch e n, ne, nf, d⟩
theorem Inv.un {t' : Nat} (I : Inv X pins σ H s) (u : Un X.fs [] H H' s.heap h') (hok : HOk X.prog X.w H' h') : Inv X pins σ H' { s with heap := h', toks := t' } := by
  obtain ⟨m, ⟨o, es, ep, ho, r⟩, _⟩ := id I.loc
  obtain ⟨sl, hL⟩ := u.any ho I.free (by simp)
  exact I.step (g' := s.gens) (d' := s.drawn) (ch := []) (fun _ z => nomatch z) (fun b o _ hb _ e n => u.keep b o e n hb (by simp)) (fun b o _ hb _ e n => u.slot b o e n hb (by simp)) (fun b o _ e n => u.free b o e n (by simp)) (fun b o _ e => u.there b o e (by simp)) u.tups u.frzs u.tbls (fun m' hm => by
    obtain ⟨o', es', ep', ho', r'⟩ := hm
    rw [ho] at ho'; cases ho'
    exact ⟨_, es', ep', hL, r'⟩) hok I.bare
theorem Inv.call {g' : Array GenState} {t' : Nat} {d' : Drawn} {ch : List Addr} (I : Inv X pins σ H s) (u : Un (frs X.stack) ch H H' s.heap h') (hok : HOk X.prog X.w H' h') (hg : AllBare g')
    (hch : ∀ b ∈ ch, (b ∈ X.ex ∨ X.s₀.heap.objs.size ≤ b) ∧ b ≠ X.env.locals ∧ (∀ x c, X.env.cells.lookup x = some c → c ≠ b) ∧ ∀ p ∈ X.pn ++ pins, p.1 ≠ b) :
    Inv X pins σ H' { s with heap := h', gens := g', drawn := d', toks := t' } := by
  obtain ⟨m, ⟨o, es, ep, ho, r⟩, _⟩ := id I.loc
  obtain ⟨sl, hL⟩ := u.any ho I.free fun z => (hch _ z).2.1 rfl
  exact I.step (ch := ch) hch (fun b o hL hb hc e n => u.keep b o e n (fun z => (List.mem_cons.mp (I.stkSub b z)).elim hL hb) hc) (fun b o _ _ hc e n => u.any e n hc) (fun b o hc e n => u.free b o e n hc) (fun b o hc e => u.there b o e hc) u.tups u.frzs u.tbls (fun m' hm => by
    obtain ⟨o', es', ep', ho', r'⟩ := hm
    rw [ho] at ho'; cases ho'
    exact ⟨_, es', ep', hL, r'⟩) hok hg
theorem Inv.turned {t' : Nat} {it : Addr} (I : Inv X pins σ H s) (k : ∀ b o, b ≠ it → s.heap.get? b = some o → h'.get? b = some o) (hn : H it = none) (hL : it ≠ X.env.locals)
    (h1 : it ∈ X.ex ∨ X.s₀.heap.objs.size ≤ it) (h2 : ∀ x c, X.env.cells.lookup x = some c → c ≠ it) (h3 : ∀ p ∈ X.pn ++ pins, p.1 ≠ it) : Inv X pins σ H { s with heap := h', toks := t' } := by
  have nit : ∀ b u, H b = some u → b ≠ it := fun b u e z => by rw [z, hn] at e; cases e
  refine I.step (g' := s.gens) (d' := s.drawn) (ch := [it]) (fun b hb => ?_) (fun b o _ _ hc e _ => k b o (fun z => hc (by simp [z])) e) (fun b o _ _ hc e _ => ⟨o.slots, k b o (fun z => hc (by simp [z])) e⟩) (fun _ _ _ _ n => n)
    (fun b o hc e => ⟨o, k b o (fun z => hc (by simp [z])) e⟩) (fun _ _ e => e) (fun _ _ _ e => e) (fun b ps e => ⟨#[], by rw [e]; simp⟩) (fun m hm => ?_) (fun b u e => ?_) I.bare
  · have e : b = it := by simpa using hb
    subst e
    exact ⟨h1, hL, h2, h3⟩
  · obtain ⟨o, es, ep, ho, r⟩ := hm
    exact ⟨o, es, ep, k _ o (Ne.symm hL) ho, r⟩
  · refine (I.hok b u e).stay (fun c v hc q => k c v ?_ q) (fun _ q => q) fun _ _ q => q
    rcases hc with z | z
    · rw [z]; exact nit b u e
    · exact nit c _ z
theorem Inv.tok (I : Inv X pins σ H s) (t : Nat) : Inv X pins σ H { s with toks := t } := I.un (h' := s.heap) (t' := t) Un.refl I.hok
theorem Inv.kept {t' : Nat} (I : Inv X pins σ H s) (k : ∀ b u, s.heap.get? b = some u → h'.get? b = some u) : Inv X pins σ H { s with heap := h', toks := t' } := I.un (Un.kept k) (I.hok.kept k)
theorem Inv.laid {a : Addr} {o : HO} {t' : Nat} (I : Inv X pins σ H s) (k : ∀ b u, s.heap.get? b = some u → h'.get? b = some u) (hp : s.heap.objs.size ≤ a) (new : ObjOk X.prog X.w (upd H a o) h' a o) :
    Inv X pins σ (upd H a o) { s with heap := h', toks := t' } := I.un (Un.laid k hp (I.hok.fresh hp)) (I.hok.laid k hp new)
theorem Inv.write {x e : Addr} {o : HO} {t' : Nat} (I : Inv X pins σ H s) (mu : Mut (H x)) (he : e = x ∨ H e = some (.own x)) (k : ∀ b u, b ≠ e → s.heap.get? b = some u → h'.get? b = some u) (heo : ∃ u, h'.get? e = some u)
    (new : ObjOk X.prog X.w (upd H x o) h' x o) : Inv X pins σ (upd H x o) { s with heap := h', toks := t' } := I.un (Un.write mu he k heo) (I.hok.write mu he k heo new)
theorem Inv.pins_of {pins' : List (Addr × Obj)} (I : Inv X pins σ H s) (h : ∀ p ∈ pins', s.heap.get? p.1 = some p.2 ∧ H p.1 = none ∧ p.1 ≠ X.env.locals ∧ p.1 ∉ X.fs ∧ ∀ v, p.2.data ≠ .cell v) : Inv X pins' σ H s :=
  ⟨I.ok, I.os, I.bare, I.base, I.loc, I.cell, I.free, I.freeC, fun p hp => (List.mem_append.mp hp).elim (fun z => I.pin p (List.mem_append_left _ z)) (h p), I.hok, I.len⟩

theorem nodup_ix {N : List Str} (hN : N.Nodup) {i j : Nat} {x : Str} (a : N[i]? = some x) (b : N[j]? = some x) : i = j := by
  obtain ⟨h1, e1⟩ := List.getElem?_eq_some_iff.mp a
  obtain ⟨h2, e2⟩ := List.getElem?_eq_some_iff.mp b
  exact (List.getElem_inj hN).mp (e1.trans e2.symm)

theorem store_ok2 {M : Model} {A : Around} {E : Value → Shared → Prop} {i : Nat} {x : Str} {v : V} {u : Value} {Q : Unit → Shared → Prop} (I : Inv X pins σ H s) (hN : X.N.Nodup) (hi : X.N[i]? = some x) (hx : Loc X.env.scope x) (r : RelV v u)
    (h : ∀ s', Inv X pins (σ.set i (some v)) H s' → (∃ a, Heap.SameBut a s.heap s'.heap ∧ (a = X.env.locals ∨ X.env.cells.lookup x = some a)) → Q () s') (hf : autoParam (X.fn x = true ∨ X.env.scope.names.lookup x = some .local) Internal.aut0._auto_1) : wpAny M A (storeName X.env x u) Q E s := by
  obtain ⟨m, hn, hl⟩ := id I.loc
  have hcls : (X.env.scope.kind == .class || (X.env.scope.kind == .module && X.env.locals != X.env.globals)) = false := by rw [I.ok.kind]; rfl
  have hiσ : i < σ.length := by rw [I.len]; exact (List.getElem?_eq_some_iff.mp hi).1
  have cne := I.cne
  have tracked : ∀ {a : Addr} {h' : Heap}, (∃ o, s.heap.get? a = some o ∧ H a = none) → Heap.SameBut a s.heap h' → HOk X.prog X.w H h' := fun {a h'} ha hs b ob e => by
    obtain ⟨_, _, hfree⟩ := ha
    refine (I.hok b ob e).stay (fun c w' hc q => (hs.2 c ?_).trans q) (fun _ q => q) fun _ _ q => q
    rintro rfl
    rcases hc with rfl | hc
    · rw [hfree] at e; cases e
    · rw [hfree] at hc; cases hc
  rcases hx with hk | hk
  · refine wpAny_storeName_local hk hn (fun h' hn' hs => ?_) hcls
    obtain ⟨oL, _, _, hoL, _⟩ := id hn
    refine h _ ⟨I.ok, I.os, I.bare, ⟨fun b o e n hb hx => ?_, fun b o e n hb hx => ?_, I.base.free, fun b o e hx => ?_, I.base.tups, I.base.frzs, I.base.tbls⟩, ⟨_, hn', fun j y v' e1 e2 e3 => ?_⟩, fun y c e => ?_, I.free, I.freeC, fun p hp => ?_, tracked ⟨oL, hoL, I.free⟩ hs, by simpa using I.len⟩ ⟨_, hs, .inl rfl⟩
    · exact (hs.2 b (Nat.ne_of_lt (Nat.lt_of_lt_of_le (Heap.lt_size e) I.ok.above))).trans (I.base.keep b o e n hb hx)
    · obtain ⟨sl, e1⟩ := I.base.slot b o e n hb hx
      exact ⟨sl, (hs.2 b (Nat.ne_of_lt (Nat.lt_of_lt_of_le (Heap.lt_size e) I.ok.above))).trans e1⟩
    · obtain ⟨o', e1⟩ := I.base.there b o e hx
      exact ⟨o', (hs.2 b (Nat.ne_of_lt (Nat.lt_of_lt_of_le (Heap.lt_size e) I.ok.above))).trans e1⟩
    · by_cases hj : j = i
      · subst hj
        rw [hi] at e1; cases e1
        rw [List.getElem?_set_self hiσ] at e2
        cases e2
        exact ⟨u, r, .inl ⟨hk, by simp⟩⟩
      · rw [List.getElem?_set_ne (Ne.symm hj)] at e2
        obtain ⟨u', r', q⟩ := hl j y v' e1 e2 e3
        refine ⟨u', r', ?_⟩
        rcases q with ⟨k, e⟩ | ⟨k, c, e, z⟩
        · refine .inl ⟨k, ?_⟩
          have : y ≠ x := fun e => hj (nodup_ix hN e1 (e ▸ hi))
          simp [this, e]
        · exact .inr ⟨k, c, e, z.sameBut hs (cne y c e)⟩
    · obtain ⟨w', z⟩ := I.cell y c e
      exact ⟨w', z.sameBut hs (cne y c e)⟩
    · obtain ⟨e, n, ne, nf, d⟩ := I.pin p hp
      exact ⟨(hs.2 p.1 ne).trans e, n, ne, nf, d⟩
  · have hfn : X.fn x = true := by
      rcases hf with z | z
      · exact z
      · rw [z] at hk; cases hk
    obtain ⟨c, hc⟩ := I.ok.has x (.inl hk)
    obtain ⟨w', z⟩ := I.cell x c hc
    refine wpAny_storeName_cell I.ok.kind hk hc z (fun h' hc' hs => ?_)
    obtain ⟨oc, hoc, hocd⟩ := id z
    refine h { s with heap := h' } ⟨I.ok, I.os, I.bare, ⟨fun b o e n hb hx => ?_, fun b o e n hb hx => ?_, I.base.free, fun b o e hx => ?_, I.base.tups, I.base.frzs, I.base.tbls⟩, ⟨m, hn.sameBut hs (Ne.symm (cne x c hc)), fun j y v' e1 e2 e3 => ?_⟩, fun y c' e => ?_, I.free, I.freeC, fun p hp => ?_, tracked ⟨oc, hoc, I.freeC x c hc⟩ hs, by simpa using I.len⟩ ⟨c, hs, .inr hc⟩
    · exact (hs.2 b (Nat.ne_of_lt (Nat.lt_of_lt_of_le (Heap.lt_size e) (I.ok.cab x c hfn hc)))).trans (I.base.keep b o e n hb hx)
    · obtain ⟨sl, e1⟩ := I.base.slot b o e n hb hx
      exact ⟨sl, (hs.2 b (Nat.ne_of_lt (Nat.lt_of_lt_of_le (Heap.lt_size e) (I.ok.cab x c hfn hc)))).trans e1⟩
    · obtain ⟨o', e1⟩ := I.base.there b o e hx
      exact ⟨o', (hs.2 b (Nat.ne_of_lt (Nat.lt_of_lt_of_le (Heap.lt_size e) (I.ok.cab x c hfn hc)))).trans e1⟩
    · by_cases hj : j = i
      · subst hj
        rw [hi] at e1; cases e1
        rw [List.getElem?_set_self hiσ] at e2
        cases e2
        exact ⟨u, r, .inr ⟨.inl hk, c, hc, hc'⟩⟩
      · rw [List.getElem?_set_ne (Ne.symm hj)] at e2
        obtain ⟨u', r', q⟩ := hl j y v' e1 e2 e3
        refine ⟨u', r', ?_⟩
        rcases q with q | ⟨k, c', e, z'⟩
        · exact .inl q
        · refine .inr ⟨k, c', e, z'.sameBut hs ?_⟩
          rintro rfl
          exact hj (nodup_ix hN e1 (I.ok.inj _ _ _ e hc ▸ hi))
    · by_cases hcc : c' = c
      · subst hcc; exact ⟨_, hc'⟩
      · obtain ⟨w2, z2⟩ := I.cell y c' e
        exact ⟨w2, z2.sameBut hs hcc⟩
    · obtain ⟨e, n, ne, nf, d⟩ := I.pin p hp
      refine ⟨(hs.2 p.1 ?_).trans e, n, ne, nf, d⟩
      intro q
      rw [q, hoc] at e
      have q' : oc = p.2 := Option.some.inj e
      exact d w' (by rw [← q']; exact hocd)
theorem store_ok {M : Model} {A : Around} {E : Value → Shared → Prop} {i : Nat} {x : Str} {v : V} {u : Value} {Q : Unit → Shared → Prop} (I : Inv X pins σ H s) (hN : X.N.Nodup) (hi : X.N[i]? = some x) (hx : Loc X.env.scope x) (r : RelV v u)
    (h : ∀ s', Inv X pins (σ.set i (some v)) H s' → Q () s') (hf : autoParam (X.fn x = true ∨ X.env.scope.names.lookup x = some .local) Internal.aut0._auto_1) : wpAny M A (storeName X.env x u) Q E s :=
  store_ok2 I hN hi hx r (fun s' I' _ => h s' I') hf
theorem Inv.call' {s' : Shared} {ch : List Addr} (I : Inv X pins σ H s) (ho : s'.os = s.os) (u : Un (frs X.stack) ch H H' s.heap s'.heap) (hok : HOk X.prog X.w H' s'.heap) (hg : AllBare s'.gens)
    (hch : ∀ b ∈ ch, (b ∈ X.ex ∨ X.s₀.heap.objs.size ≤ b) ∧ b ≠ X.env.locals ∧ (∀ x c, X.env.cells.lookup x = some c → c ≠ b) ∧ ∀ p ∈ X.pn ++ pins, p.1 ≠ b) : Inv X pins σ H' s' := by
  obtain ⟨h', g', d', t', o'⟩ := s'
  have e : o' = s.os := ho
  subst e
  exact I.call (g' := g') (t' := t') (d' := d') u hok hg hch
end

noncomputable abbrev XK := Value → Option Addr → Hp → Prop
noncomputable abbrev St := List (Option V)
noncomputable abbrev VK := V → Hp → Prop
noncomputable abbrev TE := St → Hp → VK → Prop
noncomputable abbrev TT := St → Hp → (Bool → Hp → Prop) → Prop
noncomputable abbrev TA := St → Hp → (List V → Hp → Prop) → Prop
set_option genInjectivity false in
set_option genSizeOf false in
structure Ends where
  nx : St → Hp → Prop
  rt : VK
  bk : St → Hp → Prop := fun _ _ => False
  ct : St → Hp → Prop := fun _ _ => False
noncomputable abbrev TS := Ends → St → Hp → Prop

noncomputable def EP (X : Cx) (pins : List (Addr × Obj)) (σ : St) (Q : VK) (u : Value) (s' : Shared) : Prop := ∃ v H', Inv X pins σ H' s' ∧ RelV v u ∧ Q v H'
noncomputable def TP (X : Cx) (pins : List (Addr × Obj)) (σ : St) (Q : Bool → Hp → Prop) (b : Bool) (s' : Shared) : Prop := ∃ H', Inv X pins σ H' s' ∧ Q b H'
noncomputable def AP (X : Cx) (pins : List (Addr × Obj)) (σ : St) (Q : List V → Hp → Prop) (us : List Value) (s' : Shared) : Prop := ∃ vs H', Inv X pins σ H' s' ∧ Vals vs us ∧ Q vs H'
noncomputable def SP (X : Cx) (pins : List (Addr × Obj)) (D : Ends) (f : Flow) (s' : Shared) : Prop :=
  match f with
  | .next => ∃ σ' H', Inv X pins σ' H' s' ∧ D.nx σ' H'
  | .brk => ∃ σ' H', Inv X pins σ' H' s' ∧ D.bk σ' H'
  | .cont => ∃ σ' H', Inv X pins σ' H' s' ∧ D.ct σ' H'
  | .ret u => ∃ v σ' H', Inv X pins σ' H' s' ∧ RelV v u ∧ D.rt v H'

noncomputable def PE (X : Cx) (e : Expr) (t : TE) : Prop :=
  ∀ (pins : List (Addr × Obj)) (s : Shared) (σ : St) (H : Hp) (Q : VK), Inv X pins σ H s → t σ H Q → wpAny (model X.prog X.w) X.A (eval e X.env) (EP X pins σ Q) X.xe s
noncomputable def PT (X : Cx) (e : Expr) (t : TT) : Prop :=
  ∀ (pins : List (Addr × Obj)) (s : Shared) (σ : St) (H : Hp) (Q : Bool → Hp → Prop), Inv X pins σ H s → t σ H Q → wpAny (model X.prog X.w) X.A (isTrue e X.env (eval e X.env)) (TP X pins σ Q) X.xe s
noncomputable def PW (X : Cx) (e : Expr) (t : TT) : Prop :=
  ∀ (whole : Sem Value) (pins : List (Addr × Obj)) (s : Shared) (σ : St) (H : Hp) (Q : Bool → Hp → Prop), Inv X pins σ H s → t σ H Q → wpAny (model X.prog X.w) X.A (isTrue e X.env whole) (TP X pins σ Q) X.xe s
theorem PW.pt {X : Cx} {e : Expr} {t : TT} (h : PW X e t) : PT X e t := h _
noncomputable def PA (X : Cx) (es : List Expr) (t : TA) : Prop :=
  ∀ (pos : Pos) (pins : List (Addr × Obj)) (s : Shared) (σ : St) (H : Hp) (Q : List V → Hp → Prop), Inv X pins σ H s → t σ H Q → wpAny (model X.prog X.w) X.A (spliced (backTo pos (starEach es X.env))) (AP X pins σ Q) X.xe s
noncomputable def PS (X : Cx) (st : Stmt) (t : TS) : Prop :=
  ∀ (pins : List (Addr × Obj)) (s : Shared) (σ : St) (H : Hp) (D : Ends), Inv X pins σ H s → t D σ H → wpAny (model X.prog X.w) X.A (exec st X.env) (SP X pins D) X.xe s
noncomputable def PSs (X : Cx) (st : List Stmt) (t : TS) : Prop :=
  ∀ (pins : List (Addr × Obj)) (s : Shared) (σ : St) (H : Hp) (D : Ends), Inv X pins σ H s → t D σ H → wpAny (model X.prog X.w) X.A (execs st X.env) (SP X pins D) X.xe s
theorem thn {α : Type} {t : Sem α} {Q Q' : α → Shared → Prop} {M : Model} {A : Around} {E : Value → Shared → Prop} {s : Shared} (h : wpAny M A t Q E s) (hQ : ∀ a s, Q a s → Q' a s) : wpAny M A t Q' E s := wpAny_mono h hQ fun _ _ x => x
end Internal

namespace Internal
open PySem PySem.Spec PyProof.Rows
section
variable {X : Cx}

noncomputable def tVar (i : Nat) : TE := fun σ H Q => ∃ v, σ[i]? = some (some v) ∧ Q v H
noncomputable abbrev tC (v : V) : TE := fun _ H Q => Q v H
theorem pe_var {i : Nat} {x : Str} {pos : Pos} (hN : X.N[i]? = some x) (hv : Vis X.env.scope x) (hd : autoParam ((x == ("__debug__" : Str)) = false) Internal.aut1._auto_1) (hcd : autoParam ((x == ("__classdict__" : Str)) = false) Internal.aut1._auto_1) : PE X (.Name x pos) (tVar i) := by
  intro pins s σ H Q I h
  obtain ⟨v, e, h⟩ := h
  obtain ⟨m, hn, hl⟩ := I.loc
  obtain ⟨u, r, l⟩ := hl i x v hN e hv
  have fin : EP X pins σ Q u s := ⟨v, H, I, r, h⟩
  rcases l with ⟨hk, hm⟩ | ⟨hk, c, hc, hcell⟩
  · exact wpAny_Name (wpAny_loadName_local I.ok.kind hk hn hm fin) hd
  · rcases hk with hk | hk
    · exact wpAny_Name (wpAny_loadName_cell I.ok.kind hk hc hcell fin) hd
    · exact wpAny_Name (wpAny_loadName_free I.ok.kind hk hc hcell fin hcd) hd
theorem pe_int {i j pos} : PE X (.Constant (.int i) j pos) (tC (.int i)) := fun _ _ _ H _ I h => wpAny_Constant_int ⟨.int i, H, I.tok _, ⟨_, rfl⟩, h⟩
theorem pe_bl {b j pos} : PE X (.Constant (.bool b) j pos) (tC (.bl b)) := fun _ _ _ H _ I h => Constant_bool ⟨.bl b, H, I, rfl, h⟩
theorem pe_non {j pos} : PE X (.Constant .none j pos) (tC .non) := fun _ _ _ H _ I h => Constant_none ⟨.non, H, I, rfl, h⟩
theorem pe_str {x j pos} : PE X (.Constant (.str x) j pos) (tC (.str x)) := fun _ _ _ H _ I h => Calls.Constant_str ⟨.str x, H, I.tok _, ⟨_, rfl⟩, h⟩

noncomputable def Gl (X : Cx) (x : Str) : Prop := X.env.kindOf x = some .globalImplicit
theorem ld_glob {E : Value → Shared → Prop} {pins : List (Addr × Obj)} {s : Shared} {σ : St} {H : Hp} {x : Str} {u : Value} {pos : Pos} {Q : Value → Shared → Prop} (I : Inv X pins σ H s) (hg : Gl X x) (hm : X.mg x = some u) (h : Q u s)
    (hd : autoParam ((x == ("__debug__" : Str)) = false) Internal.aut1._auto_1) : wpAny (model X.prog X.w) X.A (eval (.Name x pos) X.env) Q E s :=
  Calls.Name_function_global I.ok.kind hg (Calls.loadGlobal_global (by rw [I.ok.glob]; exact I.mod.glob.keeps I.bk) hm h) hd
theorem ld_blt {E : Value → Shared → Prop} {pins : List (Addr × Obj)} {s : Shared} {σ : St} {H : Hp} {x : Str} {u : Value} {pos : Pos} {Q : Value → Shared → Prop} (I : Inv X pins σ H s) (hg : Gl X x) (hm : X.mg x = none) (hv : bootBuiltins x = some u) (h : Q u s)
    (hn : autoParam (x ≠ "__name__") Internal.aut1._auto_1) (hd : autoParam ((x == ("__debug__" : Str)) = false) Internal.aut1._auto_1) : wpAny (model X.prog X.w) X.A (eval (.Name x pos) X.env) Q E s := by
  obtain ⟨mb, h1, h2⟩ := I.mod.blt
  exact Calls.Name_function_global I.ok.kind hg (Calls.loadGlobal_builtin (by rw [I.ok.glob]; exact I.mod.glob.keeps I.bk) hm (by rw [I.ok.blt]; exact h1.keeps I.bk) ((h2 x hn).trans hv) h) hd
theorem pe_glob {x : Str} {v : V} {u : Value} {pos : Pos} (hg : Gl X x) (hm : X.mg x = some u) (r : RelV v u) (hd : autoParam ((x == ("__debug__" : Str)) = false) Internal.aut1._auto_1) : PE X (.Name x pos) (tC v) :=
  fun _ _ _ H _ I h => ld_glob I hg hm ⟨v, H, I, r, h⟩ hd
theorem pe_bltn {x : Str} {v : V} {u : Value} {pos : Pos} (hg : Gl X x) (hm : X.mg x = none) (hv : bootBuiltins x = some u) (r : RelV v u) (hn : autoParam (x ≠ "__name__") Internal.aut1._auto_1) (hd : autoParam ((x == ("__debug__" : Str)) = false) Internal.aut1._auto_1) : PE X (.Name x pos) (tC v) :=
  fun _ _ _ H _ I h => ld_blt I hg hm hv ⟨v, H, I, r, h⟩ hn hd

noncomputable def t2I (ta tb : TE) (k : Int → Int → Hp → Prop) : St → Hp → Prop := fun σ H => ta σ H fun x H1 => tb σ H1 fun y H2 => ∃ i j, x = .int i ∧ y = .int j ∧ k i j H2
variable {a b : Expr} {ta tb : TE} {pos : Pos}
noncomputable def tCmp (p : Int → Int → Bool) (ta tb : TE) : TE := fun σ H Q => t2I ta tb (fun i j H2 => Q (.bl (p i j)) H2) σ H
noncomputable abbrev tLt : TE → TE → TE := tCmp fun i j => decide (i < j)
noncomputable abbrev tLe : TE → TE → TE := tCmp fun i j => decide (i ≤ j)
noncomputable abbrev tGt : TE → TE → TE := tCmp fun i j => decide (j < i)
noncomputable abbrev tGe : TE → TE → TE := tCmp fun i j => decide (j ≤ i)
noncomputable abbrev tEqI : TE → TE → TE := tCmp fun i j => decide (i = j)
noncomputable abbrev tNeI : TE → TE → TE := tCmp fun i j => !decide (i = j)
variable {tA tB' : TT} {rest : List Expr}
noncomputable abbrev tAnd (t u : TT) : TT := fun σ H Q => t σ H fun c H1 => if c = true then u σ H1 Q else Q false H1
noncomputable abbrev tOr (t u : TT) : TT := fun σ H Q => t σ H fun c H1 => if c = true then Q true H1 else u σ H1 Q
noncomputable abbrev tNot (t : TT) : TT := fun σ H Q => t σ H fun c H1 => Q (!c) H1
theorem pw_or1 (ha : PT X a tA) : PW X (.BoolOp .Or [a] pos) tA := by
  intro wh pins s σ H Q I h
  refine isTrue_or (thn (ha pins s σ H Q I h) fun c s1 e => ?_)
  cases c with
  | false => exact isTrue_or_nil e
  | true => exact e
theorem pw_or (ha : PT X a tA) (hb : PW X (.BoolOp .Or (b :: rest) pos) tB') : PW X (.BoolOp .Or (a :: b :: rest) pos) (tOr tA tB') := by
  intro wh pins s σ H Q I h
  refine isTrue_or (thn (ha pins s σ H _ I h) fun c s1 ⟨H1, I1, q1⟩ => ?_)
  cases c with
  | true => exact ⟨H1, I1, q1⟩
  | false => exact hb wh pins s1 σ H1 Q I1 q1
theorem pt_not (ha : PT X a tA) : PT X (.UnaryOp .Not a pos) (tNot tA) := by
  intro pins s σ H Q I h
  exact isTrue_not (ha pins s σ H (fun c H1 => Q (!c) H1) I h)
noncomputable def tAndV (ta tb : TE) : TE := fun σ H Q => ta σ H fun x H1 => ∃ c, x = .bl c ∧ if c = true then tb σ H1 Q else Q (.bl false) H1
noncomputable def tOrV (ta tb : TE) : TE := fun σ H Q => ta σ H fun x H1 => ∃ c, x = .bl c ∧ if c = true then Q (.bl true) H1 else tb σ H1 Q
theorem pe_one {op} {t : TE} (h : PE X a t) : PE X (.BoolOp op [a] pos) t := fun pins s σ H Q I hw => BoolOp_one (h pins s σ H Q I hw)
theorem pe_and (ha : PE X a ta) (hb : PE X (.BoolOp .And (b :: rest) pos) tb) : PE X (.BoolOp .And (a :: b :: rest) pos) (tAndV ta tb) := by
  intro pins s σ H Q I h
  refine BoolOp_and (thn (ha pins s σ H _ I h) fun v s1 zz => ?_)
  obtain ⟨x, H1, I1, r1, q1⟩ := zz
  obtain ⟨c, rfl, q1⟩ := q1
  cases r1
  refine wpAny_truthy_bool ?_
  cases c with
  | true => exact hb pins s1 σ H1 Q I1 q1
  | false => exact ⟨.bl false, H1, I1, rfl, q1⟩
theorem pe_or (ha : PE X a ta) (hb : PE X (.BoolOp .Or (b :: rest) pos) tb) : PE X (.BoolOp .Or (a :: b :: rest) pos) (tOrV ta tb) := by
  intro pins s σ H Q I h
  refine BoolOp_or (thn (ha pins s σ H _ I h) fun v s1 zz => ?_)
  obtain ⟨x, H1, I1, r1, q1⟩ := zz
  obtain ⟨c, rfl, q1⟩ := q1
  cases r1
  refine wpAny_truthy_bool ?_
  cases c with
  | false => exact hb pins s1 σ H1 Q I1 q1
  | true => exact ⟨.bl true, H1, I1, rfl, q1⟩
noncomputable abbrev tIf (t : TT) (ta tb : TE) : TE := fun σ H Q => t σ H fun c H1 => if c = true then ta σ H1 Q else tb σ H1 Q
end
end Internal

namespace Internal
open PySem PySem.Spec PyProof.Rows

noncomputable def SqL (K : PySem.W.Frag) (H : Hp) (a : Addr) (xs : List V) : Prop :=
  Rd H a (.lst xs) ∨
    ∃ (o : Obj) (its : Array Value) (n : Nat), K.lookup a = some o ∧ o.cls = .type "list" ∧ o.dict = none ∧ o.data = .seq its n ∧ its.size ≤ sizeLine ∧ Vals xs its.toList
noncomputable def SqT (K : PySem.W.Frag) (H : Hp) (a : Addr) (xs : List V) : Prop :=
  Rd H a (.tup xs) ∨
    ∃ (o : Obj) (its : Array Value) (n : Nat), K.lookup a = some o ∧ o.cls = .type "tuple" ∧ o.data = .seq its n ∧ its.size ≤ sizeLine ∧ Vals xs its.toList
noncomputable def absV : Value → Option V
  | .none => some .non
  | .bool b => some (.bl b)
  | .int i _ => some (.int i)
  | .str x _ => some (.str x)
  | .bytes b _ => some (.byt b)
  | .float b _ => some (.flt b)
  | .ref a => some (.ref a)
  | .type n => some (.ty n)
  | _ => none
theorem RelV.abs {x : V} {u : Value} (r : RelV x u) : absV u = some x := by
  cases x with
  | non => cases r; rfl
  | bl _ => cases r; rfl
  | int _ => obtain ⟨t, rfl⟩ := r; rfl
  | str _ => obtain ⟨t, rfl⟩ := r; rfl
  | byt _ => obtain ⟨t, rfl⟩ := r; rfl
  | flt _ => obtain ⟨t, rfl⟩ := r; rfl
  | ref _ => cases r; rfl
  | ty _ => cases r; rfl
theorem RelV.inj {x y : V} {u : Value} (r : RelV x u) (q : RelV y u) : x = y := Option.some.inj (r.abs.symm.trans q.abs)
theorem Vals.inj : ∀ {xs ys : List V} {us : List Value}, Vals xs us → Vals ys us → xs = ys
  | _, _, _, .nil, .nil => rfl
  | _, _, _, .cons r t, .cons r' t' => by rw [r.inj r', Vals.inj t t']
section
variable {X : Cx} {pins : List (Addr × Obj)} {σ : St} {H : Hp} {s : Shared} {a : Addr} {xs ys : List V}
theorem SqL.of {K : PySem.W.Frag} (h : H a = some (.lst xs)) : SqL K H a xs := .inl (.inl h)
theorem SqT.of {K : PySem.W.Frag} (h : H a = some (.tup xs)) : SqT K H a xs := .inl (.inl h)
theorem Inv.list (I : Inv X pins σ H s) (h : SqL X.K H a xs) : ∃ its : List Value, Vals xs its ∧ PlainL s.heap a its.toArray ∧ xs.length ≤ sizeLine := by
  rcases h with h | ⟨o, its, n, hk, hc, hd, hs, hz, r⟩
  · obtain ⟨z, its, n, r, e⟩ := h.ok I.hok
    exact ⟨its, r, ⟨_, n, e, rfl, rfl, rfl⟩, z⟩
  · refine ⟨its.toList, r, ⟨o, n, I.kIn a o hk, hc, hd, by simpa using hs⟩, ?_⟩
    have e := r.length
    simp only [Array.length_toList] at e
    omega
theorem Inv.tuple (I : Inv X pins σ H s) (h : SqT X.K H a xs) : ∃ its : List Value, Vals xs its ∧ IsTup s.heap a its.toArray ∧ xs.length ≤ sizeLine := by
  rcases h with h | ⟨o, its, n, hk, hc, hs, hz, r⟩
  · obtain ⟨z, its, r, p⟩ := h.ok I.hok
    exact ⟨its, r, p, z⟩
  · refine ⟨its.toList, r, ⟨o, I.kIn a o hk, hc, n, by simpa using hs⟩, ?_⟩
    have e := r.length
    simp only [Array.length_toList] at e
    omega
theorem Inv.list_inj (I : Inv X pins σ H s) (h : SqL X.K H a xs) (h' : SqL X.K H a ys) : xs = ys := by
  obtain ⟨its, r, ⟨o, n, e, _, _, d⟩, _⟩ := I.list h
  obtain ⟨its', r', ⟨o', n', e', _, _, d'⟩, _⟩ := I.list h'
  rw [e] at e'; cases e'
  rw [d] at d'
  injection d' with d1 _
  have : its = its' := by simpa using congrArg Array.toList d1
  subst this
  exact r.inj r'
end

noncomputable abbrev Cx.wish (X : Cx) (E : Value → Shared → Prop) : Cx := { X with xe := E }
noncomputable abbrev Cx.nox (X : Cx) : Cx := X.wish fun _ _ => False
theorem Cx.Ok.wish {X : Cx} (ok : X.Ok) (E : Value → Shared → Prop) : (X.wish E).Ok :=
  ⟨ok.mod, ok.kind, ok.glob, ok.blt, ok.above, ok.inj, ok.has, ok.cab, ok.hd, ok.frames, ok.stk, ok.exf, ok.bs, ok.bsz, ok.noex, ok.exfs, ok.funs, ok.frf⟩
theorem Cx.Ok.unwish {X : Cx} {E : Value → Shared → Prop} (ok : (X.wish E).Ok) : X.Ok :=
  ⟨ok.mod, ok.kind, ok.glob, ok.blt, ok.above, ok.inj, ok.has, ok.cab, ok.hd, ok.frames, ok.stk, ok.exf, ok.bs, ok.bsz, ok.noex, ok.exfs, ok.funs, ok.frf⟩
section
variable {X : Cx} {pins : List (Addr × Obj)} {σ : St} {H : Hp} {s : Shared} {E : Value → Shared → Prop}
theorem Inv.wish (I : Inv X pins σ H s) (E : Value → Shared → Prop) : Inv (X.wish E) pins σ H s := ⟨I.ok.wish E, I.os, I.bare, I.base, I.loc, I.cell, I.free, I.freeC, I.pin, I.hok, I.len⟩
theorem Inv.unwish (I : Inv (X.wish E) pins σ H s) : Inv X pins σ H s := ⟨I.ok.unwish, I.os, I.bare, I.base, I.loc, I.cell, I.free, I.freeC, I.pin, I.hok, I.len⟩
theorem SP.unwish {D : Ends} {f : Flow} {s' : Shared} (h : SP (X.wish E) pins D f s') : SP X pins D f s' := by
  cases f with
  | next => obtain ⟨σ', H', I, q⟩ := h; exact ⟨σ', H', I.unwish, q⟩
  | brk => obtain ⟨σ', H', I, q⟩ := h; exact ⟨σ', H', I.unwish, q⟩
  | cont => obtain ⟨σ', H', I, q⟩ := h; exact ⟨σ', H', I.unwish, q⟩
  | ret u => obtain ⟨v, σ', H', I, r, q⟩ := h; exact ⟨v, σ', H', I.unwish, r, q⟩
theorem PSs.nox {st : List Stmt} {t : TS} (h : PSs X.nox st t) : PSs X st t := fun pins s σ H D I hw =>
  wpAny_mono (h pins s σ H D (I.wish _) hw) (fun _ _ q => q.unwish) fun _ _ z => False.elim z
end

section
variable {X : Cx} {st : Stmt} {rest : List Stmt} {t u : TS} {e : Expr} {te : TE} {pos : Pos}
noncomputable abbrev tNext : TS := fun D σ H => D.nx σ H
noncomputable abbrev tSeq (t u : TS) : TS := fun D σ H => t { D with nx := u D } σ H
theorem pss_nil : PSs X [] tNext := fun _ _ σ H _ I h => wpAny_execs_nil ⟨σ, H, I, h⟩
theorem pss_cons (h1 : PS X st t) (h2 : PSs X rest u) : PSs X (st :: rest) (tSeq t u) := by
  intro pins s σ H D I h
  refine wpAny_execs_cons (thn (h1 pins s σ H { D with nx := u D } I h) fun f s1 q => ?_)
  cases f with
  | next =>
    obtain ⟨σ', H', I', q⟩ := q
    exact h2 pins s1 σ' H' D I' q
  | ret v => exact q
  | brk => exact q
  | cont => exact q
theorem pss_one (h1 : PS X st t) : PSs X [st] t := by
  intro pins s σ H D I h
  refine wpAny_execs_cons (thn (h1 pins s σ H D I h) fun f s1 q => ?_)
  cases f with
  | next => exact wpAny_execs_nil q
  | ret v => exact q
  | brk => exact q
  | cont => exact q
noncomputable abbrev tBreak : TS := fun D σ H => D.bk σ H
noncomputable abbrev tCont : TS := fun D σ H => D.ct σ H
theorem Inv.quiet {pins : List (Addr × Obj)} {σ : St} {H : Hp} {s : Shared} (I : Inv X pins σ H s) : interactive X.env = false := by simp [interactive, I.ok.kind]
noncomputable abbrev tDrop (te : TE) : TS := fun D σ H => te σ H fun _ H1 => D.nx σ H1
theorem ps_expr (he : PE X e te) (hs : autoParam (swapsWith e none pos.line X.env = pure false) Internal.aut2._auto_1) : PS X (.Expr e pos) (tDrop te) := by
  intro pins s σ H D I h
  exact wpAny_Expr_any (thn (he pins s σ H _ I h) fun v s1 ⟨x, H1, I1, r1, q1⟩ => ⟨σ, H1, I1, q1⟩) I.quiet hs
noncomputable abbrev tRet (te : TE) : TS := fun D σ H => te σ H D.rt
theorem ps_ret (he : PE X e te) : PS X (.Return (some e) pos) (tRet te) := by
  intro pins s σ H D I h
  exact wpAny_Return_some (thn (he pins s σ H _ I h) fun v s1 ⟨x, H1, I1, r1, q1⟩ => ⟨x, σ, H1, I1, r1, q1⟩)
noncomputable abbrev tRetN : TS := fun D _ H => D.rt .non H
noncomputable abbrev tIfS (c : TT) (t u : TS) : TS := fun D σ H => c σ H fun b H1 => if b = true then t D σ H1 else u D σ H1
theorem ps_if {c : Expr} {a b : List Stmt} {tc : TT} (hc : PT X c tc) (ha : PSs X a t) (hb : PSs X b u) : PS X (.If c a b pos) (tIfS tc t u) := by
  intro pins s σ H D I h
  refine wpAny_If (thn (hc pins s σ H _ I h) fun d s1 ⟨H1, I1, q1⟩ => ?_)
  cases d with
  | true => exact ha pins s1 σ H1 D I1 q1
  | false => exact hb pins s1 σ H1 D I1 q1
end

noncomputable abbrev TG := V → St → Hp → (St → Hp → Prop) → Prop
noncomputable abbrev TGs := List V → St → Hp → (St → Hp → Prop) → Prop
noncomputable def PG (X : Cx) (target : Expr) (t : TG) : Prop :=
  ∀ (pins : List (Addr × Obj)) (s : Shared) (σ : St) (H : Hp) (v : V) (u : Value) (Q : St → Hp → Prop), Inv X pins σ H s → RelV v u → t v σ H Q →
    wpAny (model X.prog X.w) X.A (assign target X.env u) (fun _ s' => ∃ σ' H', Inv X pins σ' H' s' ∧ Q σ' H') X.xe s
noncomputable def PGs (X : Cx) (ts : List Expr) (t : TGs) : Prop :=
  ∀ (pins : List (Addr × Obj)) (s : Shared) (σ : St) (H : Hp) (vs : List V) (us : List Value) (Q : St → Hp → Prop), Inv X pins σ H s → Vals vs us → t vs σ H Q →
    wpAny (model X.prog X.w) X.A (assignInOrder ((assignEach ts X.env).map (·.2)) us) (fun _ s' => ∃ σ' H', Inv X pins σ' H' s' ∧ Q σ' H') X.xe s
noncomputable abbrev TSet := V → V → V → Hp → (Hp → Prop) → Prop
noncomputable def PSet (X : Cx) (t : TSet) : Prop :=
  ∀ (pins : List (Addr × Obj)) (s : Shared) (σ : St) (H : Hp) (o i v : V) (ov iv u : Value) (Q : Hp → Prop), Inv X pins σ H s → RelV o ov → RelV i iv → RelV v u → t o i v H Q →
    wpAny (model X.prog X.w) X.A (setItem ov iv u) (fun _ s' => ∃ H', Inv X pins σ H' s' ∧ Q H') X.xe s
noncomputable abbrev TIp := V → V → Hp → VK → Prop
section
variable {X : Cx} {pos : Pos}
noncomputable abbrev gName (i : Nat) : TG := fun v σ H Q => Q (σ.set i (some v)) H
theorem pg_name {i : Nat} {x : Str} (hN : X.N.Nodup) (hi : X.N[i]? = some x) (hx : Loc X.env.scope x) (hf : autoParam (X.fn x = true ∨ X.env.scope.names.lookup x = some .local) Internal.aut0._auto_1) : PG X (.Name x pos) (gName i) := by
  intro pins s σ H v u Q I r h
  exact wpAny_assign_Name (store_ok I hN hi hx r (fun s' I' => ⟨_, H, I', h⟩) hf)
noncomputable def gNil : TGs := fun vs σ H Q => vs = [] ∧ Q σ H
noncomputable def gCons (t : TG) (u : TGs) : TGs := fun vs σ H Q => ∃ v r, vs = v :: r ∧ t v σ H fun σ' H' => u r σ' H' Q
theorem pgs_nil : PGs X [] gNil := by
  intro pins s σ H vs us Q I r h
  obtain ⟨e, h⟩ := h
  subst e
  cases r
  exact assignInOrder_nil ⟨σ, H, I, h⟩
theorem pgs_cons {e : Expr} {es : List Expr} {t : TG} {u : TGs} (h1 : PG X e t) (h2 : PGs X es u)
    (hs : autoParam ((assignEach (e :: es) X.env).map (·.2) = assign e X.env :: (assignEach es X.env).map (·.2)) Internal.aut2._auto_1) : PGs X (e :: es) (gCons t u) := by
  intro pins s σ H vs us Q I r h
  obtain ⟨v, vr, e1, h⟩ := h
  subst e1
  cases r with
  | cons r rr =>
    rw [hs]
    refine assignInOrder_cons (thn (h1 pins s σ H _ _ _ I r h) fun _ s1 zz => ?_)
    obtain ⟨σ1, H1, I1, q1⟩ := zz
    exact h2 pins s1 σ1 H1 _ _ Q I1 rr q1
noncomputable def gTup (K : PySem.W.Frag) (n : Nat) (t : TGs) : TG := fun v σ H Q => ∃ a xs, v = .ref a ∧ SqT K H a xs ∧ xs.length = n ∧ t xs σ H Q
theorem pg_tup {es : List Expr} {k : Nat} {t : TGs} {n : Nat} (hc : X.calm = true) (h : PGs X es t)
    (hn : autoParam ((assignEach es X.env).length = n) Internal.aut2._auto_1) (hst : autoParam ((assignEach es X.env).findIdx? (·.1) = none) Internal.aut2._auto_1) : PG X (.Tuple es k pos) (gTup X.K n t) := by
  intro pins s σ H v u Q I r hw
  obtain ⟨a, xs, e1, hq, hl, hw⟩ := hw
  subst e1
  cases r
  obtain ⟨its, rv, ht, hz⟩ := I.tuple hq
  refine assign_Tuple_tuple (I.ok.hd hc) ht (by simp [hn, ← hl, rv.length]) hst fun h' hx => ?_
  have I1 : Inv X pins σ H { s with heap := h' } := I.kept (t' := s.toks) fun b o e => hx b o (Nat.ne_of_lt (Heap.lt_size e)) e
  exact h pins _ σ H xs _ Q I1 (by simpa using rv) hw
noncomputable abbrev gSub (to ti : TE) (t : TSet) : TG := fun v σ H Q => to σ H fun o H1 => ti σ H1 fun i H2 => t o i v H2 fun H3 => Q σ H3
theorem pg_sub {o i : Expr} {to ti : TE} {t : TSet} (ho : PE X o to) (hi : PE X i ti) (hs : PSet X t)
    (ha : autoParam (∀ v, assign (.Subscript o i pos) X.env v = (do
      let ov ← holding [v] (eval o X.env)
      let iv ← holding [v, ov] (eval i X.env)
      standAt pos
      holding [v, ov, iv] (setItem ov iv v)
      release [v, ov, iv] [])) Internal.aut3._auto_1) : PG X (.Subscript o i pos) (gSub to ti t) := by
  intro pins s σ H v u Q I r h
  rw [ha]
  refine wpAny_bind (wpAny_holding (thn (ho pins s σ H _ I h) fun ov s1 zz => ?_))
  obtain ⟨x, H1, I1, r1, q1⟩ := zz
  refine wpAny_bind (wpAny_holding (thn (hi pins s1 σ H1 _ I1 q1) fun iv s2 zz => ?_))
  obtain ⟨y, H2, I2, r2, q2⟩ := zz
  refine wpAny_bind (wpAny_standAt (wpAny_bind (wpAny_holding (thn (hs pins s2 σ H2 x y v ov iv u _ I2 r1 r2 r q2) fun _ s3 ⟨H3, I3, q3⟩ => ?_))))
  exact wpAny_release ⟨σ, H3, I3, q3⟩
noncomputable abbrev tAsg (te : TE) (g : TG) : TS := fun D σ H => te σ H fun x H1 => g x σ H1 D.nx
theorem ps_asg {tg e : Expr} {te : TE} {g : TG} (he : PE X e te) (hg : PG X tg g) (hs : autoParam (swapsWithSole [tg] e pos.line X.env = pure false) Internal.aut2._auto_1) (hw : autoParam (swappedStores [tg] e X.env = pure none) Internal.aut2._auto_1)
    (h1 : autoParam ((assignEach [tg] X.env).map (·.2) = [assign tg X.env]) Internal.aut2._auto_1) : PS X (.Assign [tg] e pos) (tAsg te g) := by
  intro pins s σ H D I h
  refine wpAny_Assign_stores (thn (he pins s σ H _ I h) fun v s1 zz => ?_) hs hw
  obtain ⟨x, H1, I1, r1, q1⟩ := zz
  rw [h1]
  exact thn (hg pins s1 σ H1 x v _ I1 r1 q1) fun _ s2 q => q
theorem ps_set {i : Nat} {x : Str} {e : Expr} {te : TE} {pos' : Pos} (hN : X.N.Nodup) (hi : X.N[i]? = some x) (hx : Loc X.env.scope x) (he : PE X e te) (hs : autoParam (swapsWith e (some (.Name x pos')) pos.line X.env = pure false) Internal.aut2._auto_1) (hf : autoParam (X.fn x = true ∨ X.env.scope.names.lookup x = some .local) Internal.aut0._auto_1) :
    PS X (.Assign [.Name x pos'] e pos) (tAsg te (gName i)) := by
  intro pins s σ H D I h
  refine wpAny_Assign_Name (thn (he pins s σ H _ I h) fun v s1 zz => ?_) hs
  obtain ⟨y, H1, I1, r1, q1⟩ := zz
  exact store_ok I1 hN hi hx r1 (fun s2 I2 => ⟨_, H1, I2, q1⟩) hf
end

section
variable {X : Cx} {pos : Pos}
noncomputable def tWhile (c : TT) (tb : TS) : TS := fun D σ H => ∃ W : Nat → St → Hp → Prop, (∃ m, W m σ H) ∧ ∀ m σ H, W m σ H →
  c σ H fun b H1 => if b = true then ∃ N : St → Hp → Prop, (∀ σ' H', N σ' H' → ∃ m', m' < m ∧ W m' σ' H') ∧ tb { D with nx := N, ct := N, bk := D.nx } σ H1 else D.nx σ H1
theorem ps_while {c : Expr} {body : List Stmt} {tc : TT} {tb : TS} (hp : PassesOwn (model X.prog X.w) X.A X.env X.xe) (hc : PT X c tc) (hb : PSs X body tb) : PS X (.While c body [] pos) (tWhile tc tb) := by
  intro pins s σ H D I h
  obtain ⟨W, ⟨m0, w0⟩, turn⟩ := h
  refine wpAny_While (codeAny_whileLoop (fun n s' => ∃ σ' H', Inv X pins σ' H' s' ∧ W n σ' H') ?_ m0 ⟨σ, H, I, w0⟩)
  rintro n s1 ⟨σ1, H1, I1, w1⟩
  refine wpAny_passesOwn hp (thn (hc pins s1 σ1 H1 _ I1 (turn n σ1 H1 w1)) fun b s2 ⟨H2, I2, q2⟩ => ?_)
  cases b with
  | true =>
    obtain ⟨N, hN, q2⟩ := q2
    rw [if_pos rfl]
    refine wpAny_passesOwn hp (thn (hb pins s2 σ1 H2 _ I2 q2) fun f s3 q3 => ?_)
    cases f with
    | next =>
      obtain ⟨σ3, H3, I3, n3⟩ := q3
      obtain ⟨m', hm, w3⟩ := hN σ3 H3 n3
      exact ⟨m', hm, σ3, H3, I3, w3⟩
    | cont =>
      obtain ⟨σ3, H3, I3, n3⟩ := q3
      obtain ⟨m', hm, w3⟩ := hN σ3 H3 n3
      exact ⟨m', hm, σ3, H3, I3, w3⟩
    | brk => exact q3
    | ret v => exact q3
  | false =>
    rw [if_neg Bool.false_ne_true]
    exact wpAny_execs_nil ⟨σ1, H2, I2, q2⟩
end

set_option genInjectivity false in
set_option genSizeOf false in
structure It where
  go : Nat → Hp → Prop
  yld : Nat → Hp → V → Hp → Prop
  stop : Nat → Hp → Prop
noncomputable def FpOk (X : Cx) (pins : List (Addr × Obj)) (H : Hp) (b : Addr) : Prop :=
  H b = none ∧ b ≠ X.env.locals ∧ b ∉ X.fs ∧ (b ∈ X.ex ∨ X.s₀.heap.objs.size ≤ b) ∧ (∀ x c, X.env.cells.lookup x = some c → c ≠ b) ∧ ∀ p ∈ X.pn ++ pins, p.1 ≠ b
theorem Inv.fpOk {X : Cx} {pins : List (Addr × Obj)} {σ : St} {H H' : Hp} {s : Shared} {b : Addr} (I : Inv X pins σ H s) (hb : s.heap.objs.size ≤ b) (hn : H' b = none) : FpOk X pins H' b := by
  refine ⟨hn, Nat.ne_of_gt (Nat.lt_of_lt_of_le I.lt hb), I.nofs hb, .inr (Nat.le_trans I.sz hb), fun x c e z => ?_, fun p hp z => ?_⟩
  · obtain ⟨v, q⟩ := I.cell x c e
    exact absurd (Nat.lt_of_lt_of_le q.lt (by rw [z]; exact hb)) (Nat.lt_irrefl _)
  · exact absurd (Nat.lt_of_lt_of_le (Heap.lt_size (I.pin p hp).1) (by rw [z]; exact hb)) (Nat.lt_irrefl _)
set_option genInjectivity false in
set_option genSizeOf false in
structure Turn (P : Program) (w : World) (K : PySem.W.Frag) (tg : Expr) (J : It) (fp : List Addr) (it : Addr) (tn : Nat → Heap → Prop) : Prop where
  mem : it ∈ fp
  obj : ∀ i h, tn i h → ∀ b ∈ fp, ∃ o, h.get? b = some o ∧ ∀ v, o.data ≠ .cell v
  keep : ∀ i h h', tn i h → (∀ b ∈ fp, ∀ o, h.get? b = some o → h'.get? b = some o) → tn i h'
  item : ∀ (X : Cx), X.prog = P → X.w = w → X.K = K → X.calm = true → ∀ (i : Nat) (pins : List (Addr × Obj)) (s : Shared) (σ : St) (H : Hp) (E : Value → Shared → Prop), Inv X pins σ H s → (∀ b ∈ fp, FpOk X pins H b) → tn i s.heap → J.go i H →
    wpAny (model P w) X.A (pyNext (.ref it)) (fun r s1 => ∃ u, r = some u ∧
      wpAny (model P w) X.A (letOwnedTupleGo tg (.ref it) u) (fun _ s2 => ∃ x H', Inv X pins σ H' s2 ∧ RelV x u ∧ J.yld i H x H' ∧ tn (i + 1) s2.heap ∧ ∀ b ∈ fp, H' b = none) E s1) E s
  done : ∀ (X : Cx), X.prog = P → X.w = w → X.K = K → X.calm = true → ∀ (i : Nat) (pins : List (Addr × Obj)) (s : Shared) (σ : St) (H : Hp) (E : Value → Shared → Prop), Inv X pins σ H s → (∀ b ∈ fp, FpOk X pins H b) → tn i s.heap → J.stop i H →
    wpAny (model P w) X.A (pyNext (.ref it)) (fun r s1 => r = none ∧ Inv X pins σ H s1) E s
  self : ∀ (A : Around) (i : Nat) (s : Shared) (Q : Value → Shared → Prop) (E : Value → Shared → Prop), tn i s.heap → Q (.ref it) s → wpAny (model P w) A (pyIter (.ref it)) Q E s
noncomputable abbrev TI := St → Hp → (It → Hp → Prop) → Prop
noncomputable def PIE (X : Cx) (pins : List (Addr × Obj)) (σ : St) (tg : Expr) (R : It → Hp → Prop) (itv : Value) (s2 : Shared) : Prop :=
  ∃ (it : Addr) (fp : List Addr) (tn : Nat → Heap → Prop) (J : It) (H' : Hp), itv = .ref it ∧ Inv X pins σ H' s2 ∧ Turn X.prog X.w X.K tg J fp it tn ∧ tn 0 s2.heap ∧ (∀ b ∈ fp, FpOk X pins H' b) ∧ R J H'
noncomputable def PI (X : Cx) (tg iter : Expr) (wi : TI) : Prop :=
  ∀ (pins : List (Addr × Obj)) (s : Shared) (σ : St) (H : Hp) (R : It → Hp → Prop), Inv X pins σ H s → wi σ H R →
    wpAny (model X.prog X.w) X.A (eval iter X.env) (fun v s1 => wpAny (model X.prog X.w) X.A (pyIter v) (PIE X pins σ tg R) X.xe s1) X.xe s

theorem go_of {M : Model} {A : Around} {E : Value → Shared → Prop} {s : Shared} {tg : Expr} {it : Addr} {u : Value} {o : Obj} {n : String} {vs : Array Value} {Q : Unit → Shared → Prop} (ho : s.heap.get? it = some o) (hc : o.cls = .type n) (hd : o.data = .fields vs)
    (hn : ["enumerate", "zip", "dict_itemiterator", "dict_reverseitemiterator", "odict_iterator", "itertools.zip_longest", "itertools.pairwise"].contains n = false) (hQ : Q () s) : wpAny M A (letOwnedTupleGo tg (.ref it) u) Q E s := by
  unfold letOwnedTupleGo
  cases tg <;> first
    | exact wpAny_pure hQ
    | (cases u <;> first
        | exact wpAny_pure hQ
        | (refine wpAny_bind (wpAny_load ho ?_)
           rw [hc, hd]
           show wpAny M A (if (["enumerate", "zip", "dict_itemiterator", "dict_reverseitemiterator", "odict_iterator", "itertools.zip_longest", "itertools.pairwise"].contains n && vs[0]? == some (rawInt _)) = true then _ else _) Q E s
           rw [if_neg (by intro h; rw [hn, Bool.false_and] at h; cases h)]
           exact wpAny_pure hQ))

noncomputable def Itl (K : PySem.W.Frag) (a : Addr) : It :=
  ⟨fun i H => ∃ xs x, SqL K H a xs ∧ xs[i]? = some x, fun i H x H' => H' = H ∧ ∀ xs, SqL K H a xs → xs[i]? = some x, fun i H => ∃ xs, SqL K H a xs ∧ xs.length ≤ i⟩
noncomputable def Itr (lo : Int) (n : Nat) : It := ⟨fun i _ => i < n, fun i H x H' => H' = H ∧ x = .int (lo + i), fun i _ => n ≤ i⟩
theorem turn_list {P : Program} {w : World} {K : PySem.W.Frag} {tg : Expr} (a it : Addr) : Turn P w K tg (Itl K a) [it] it (fun i h => h.IsListIter it a i) where
  mem := by simp
  obj := fun i h st b hb => by
    have e : b = it := by simpa using hb
    subst e
    obtain ⟨o, e, c, d⟩ := st
    exact ⟨o, e, fun v z => by rw [d] at z; cases z⟩
  keep := fun i h h' st k => st.at fun o e => k it (by simp) o e
  item := by
    intro X hP hw hK hc i pins s σ H E I hf st hg
    subst hP hw hK
    obtain ⟨xs, x, hq, hx⟩ := hg
    obtain ⟨its, rv, p, hz⟩ := I.list hq
    obtain ⟨u, hu, ru⟩ := rv.get hx
    obtain ⟨f0, f1, f2, f3, f4, f5⟩ := hf it (by simp)
    refine wpAny_pyNext_list_item st p.isList (x := u) (by simpa using hu) fun h' st' sb => ?_
    have I1 : Inv X pins σ H { s with heap := h' } := I.turned (t' := s.toks) (fun b o hb e => (sb.2 b hb).trans e) f0 f1 f3 f4 f5
    obtain ⟨o, e, c, d⟩ := id st'
    exact ⟨u, rfl, go_of (s := { s with heap := h' }) e c d (by decide) ⟨x, H, I1, ru, ⟨rfl, fun ys hy => by rw [I.list_inj hy hq]; exact hx⟩, st', fun b hb => (hf b hb).1⟩⟩
  done := by
    intro X hP hw hK hc i pins s σ H E I hf st hg
    subst hP hw hK
    obtain ⟨xs, hq, hx⟩ := hg
    obtain ⟨its, rv, p, hz⟩ := I.list hq
    obtain ⟨f0, f1, f2, f3, f4, f5⟩ := hf it (by simp)
    have hl := rv.length
    exact wpAny_pyNext_list_end (I.ok.hd hc) st p.isList (by simp; omega) fun h' eb => ⟨rfl, I.turned (t' := s.toks) (fun b o hb e => eb b o hb e) f0 f1 f3 f4 f5⟩
  self := fun _ _ _ _ _ st h => wpAny_pyIter_listiter st h
theorem turn_range {P : Program} {w : World} {K : PySem.W.Frag} {tg : Expr} (it : Addr) (lo : Int) (n : Nat) : Turn P w K tg (Itr lo n) [it] it (fun i h => IsRangeIter h it (lo + (i : Nat) * 1) ((n : Int) - (i : Nat)) 1) where
  mem := by simp
  obj := fun i h st b hb => by
    have e : b = it := by simpa using hb
    subst e
    exact ⟨_, st, fun v z => by
      have z' : Data.fields _ = Data.cell v := z
      cases z'⟩
  keep := fun i h h' st k => k it (by simp) _ st
  item := by
    intro X hP hw hK hc i pins s σ H E I hf st hg
    subst hP hw hK
    obtain ⟨f0, f1, f2, f3, f4, f5⟩ := hf it (by simp)
    have W := Walks.range (prog := X.prog) (w := X.w) (I.ok.hd hc) it lo 1 n
    refine W.item i s _ _ hg st fun v h' tk hv st' kk => ?_
    obtain ⟨t, rfl⟩ := hv
    have I1 : Inv X pins σ H { s with heap := h', toks := tk } := I.turned (fun b o hb e => kk b o (by simpa using hb) e) f0 f1 f3 f4 f5
    refine ⟨_, rfl, go_of (s := { s with heap := h', toks := tk }) (n := "range_iterator") st' rfl rfl (by decide) ⟨.int (lo + i), H, I1, ⟨t, ?_⟩, ⟨rfl, rfl⟩, st', fun b hb => (hf b hb).1⟩⟩
    rw [Int.mul_one]
  done := by
    intro X hP hw hK hc i pins s σ H E I hf st hg
    subst hP hw hK
    obtain ⟨f0, f1, f2, f3, f4, f5⟩ := hf it (by simp)
    exact wpAny_pyNext_range_end (I.ok.hd hc) st (by have : n ≤ i := hg; omega) fun h' eb => ⟨rfl, I.turned (t' := s.toks) (fun b o hb e => eb b o hb e) f0 f1 f3 f4 f5⟩
  self := fun _ _ _ _ _ st h => wpAny_pyIter_rangeiter st h
end Internal

namespace Internal
open PySem PySem.Spec PyProof.Rows
section
variable {X : Cx} {tg : Expr}
noncomputable def iList (K : PySem.W.Frag) (tl : TE) : TI := fun σ H R => tl σ H fun x H1 => ∃ a, x = .ref a ∧ (∃ xs, SqL K H1 a xs) ∧ R (Itl K a) H1
theorem pi_list {l : Expr} {tl : TE} (hl : PE X l tl) : PI X tg l (iList X.K tl) := by
  intro pins s σ H R I h
  refine thn (hl pins s σ H _ I h) fun v s1 zz => ?_
  obtain ⟨x, H1, I1, r1, q1⟩ := zz
  obtain ⟨a, e, ⟨xs, hq⟩, q⟩ := q1
  subst e
  cases r1
  obtain ⟨its, rv, p, hz⟩ := I1.list hq
  refine wpAny_pyIter_list p.isList ?_
  refine ⟨s1.heap.objs.size, [s1.heap.objs.size], _, _, H1, rfl, I1.kept (t' := s1.toks) fun b o e => Heap.get?_push_of_some _ e, turn_list a _, ⟨_, Heap.get?_push_size _ rfl, rfl, rfl⟩, fun b hb => ?_, q⟩
  have e : b = s1.heap.objs.size := by simpa using hb
  subst e
  exact I1.fpOk (Nat.le_refl _) (I1.hok.fresh (Nat.le_refl _))
theorem range_it {pins : List (Addr × Obj)} {σ : St} {H : Hp} {s : Shared} {R : It → Hp → Prop} {E : Value → Shared → Prop} {lo hi : Int} {t u v : Tok} {tk : Nat} (I : Inv X pins σ H s) (h1 : -(2 ^ 62) ≤ lo) (h2 : lo < 2 ^ 62) (h3 : -(2 ^ 62) ≤ hi) (h4 : hi < 2 ^ 62)
    (q : R (Itr lo (hi - lo).toNat) H) : wpAny (model X.prog X.w) X.A (pyIter (.ref s.heap.objs.size)) (PIE X pins σ tg R) E { s with heap := s.heap.push { cls := .type "range", data := .fields #[.int lo t, .int hi u, .int 1 v] }, toks := tk } := by
  refine wpAny_pyIter_range (IsRange.new ..) (small_one h1 h2 h3 h4) ?_
  have I1 : Inv X pins σ H { s with heap := s.heap.push { cls := .type "range", data := .fields #[.int lo t, .int hi u, .int 1 v] }, toks := tk } := I.kept fun b o e => Heap.get?_push_of_some _ e
  refine ⟨(s.heap.push { cls := .type "range", data := .fields #[.int lo t, .int hi u, .int 1 v] }).objs.size, [(s.heap.push { cls := .type "range", data := .fields #[.int lo t, .int hi u, .int 1 v] }).objs.size], _, _, H, rfl,
    I1.kept (t' := tk) fun b o e => Heap.get?_push_of_some _ e, turn_range _ lo (hi - lo).toNat, ?_, fun b hb => ?_, q⟩
  · have e1 : lo + ((0 : Nat) : Int) * 1 = lo := by simp
    have e2 : (((hi - lo).toNat : Nat) : Int) - ((0 : Nat) : Int) = Builtin.Range.rangeSize lo hi 1 := by rw [rangeSize_one]; split <;> omega
    show IsRangeIter _ _ (lo + ((0 : Nat) : Int) * 1) ((((hi - lo).toNat : Nat) : Int) - ((0 : Nat) : Int)) 1
    rw [e1, e2]
    exact Heap.get?_push_size _ rfl
  · have e : b = (s.heap.push { cls := .type "range", data := .fields #[.int lo t, .int hi u, .int 1 v] }).objs.size := by simpa using hb
    subst e
    exact I1.fpOk (Nat.le_refl _) (I1.hok.fresh (Nat.le_refl _))
noncomputable def iRng1 (ta : TA) : TI := fun σ H R => ta σ H fun vs H1 => ∃ j : Int, vs = [.int j] ∧ -(2 ^ 62) ≤ j ∧ j < 2 ^ 62 ∧ R (Itr 0 j.toNat) H1
noncomputable def iRng2 (ta : TA) : TI := fun σ H R => ta σ H fun vs H1 => ∃ i j : Int, vs = [.int i, .int j] ∧ (-(2 ^ 62) ≤ i ∧ i < 2 ^ 62 ∧ -(2 ^ 62) ≤ j ∧ j < 2 ^ 62) ∧ R (Itr i (j - i).toNat) H1
theorem pi_range1 {a : Expr} {ta : TA} {p pos : Pos} (hg : Gl X "range") (hm : X.mg "range" = none) (ha : PA X [a] ta) (hs : autoParam (starEach [a] X.env = [(false, eval a X.env)]) Internal.aut2._auto_1) : PI X tg (.Call (.Name "range" p) [a] [] pos) (iRng1 ta) := by
  intro pins s σ H R I h
  refine Call_ (ld_blt I hg hm boot_range (PyProof.Rows.callWith_type1 (thn (ha pos pins s σ H _ I h) fun us s1 ⟨vs, H1, I1, r1, q1⟩ => ?_) hs rfl))
  obtain ⟨j, e, q1, q2, q⟩ := q1
  subst e
  cases r1 with
  | cons r rr =>
    cases rr
    obtain ⟨t, rfl⟩ := r
    exact call_range_1 (range_it I1 (by omega) (by omega) q1 q2 (by simpa using q))
theorem pi_range2 {a b : Expr} {ta : TA} {p pos : Pos} (hg : Gl X "range") (hm : X.mg "range" = none) (ha : PA X [a, b] ta) (hs : autoParam (starEach [a, b] X.env = [(false, eval a X.env), (false, eval b X.env)]) Internal.aut2._auto_1) (hs2 : autoParam (starEach [b] X.env = [(false, eval b X.env)]) Internal.aut2._auto_1) :
    PI X tg (.Call (.Name "range" p) [a, b] [] pos) (iRng2 ta) := by
  intro pins s σ H R I h
  refine Call_ (ld_blt I hg hm boot_range (PyProof.Rows.callWith_type1 (thn (ha pos pins s σ H _ I h) fun us s1 ⟨vs, H1, I1, r1, q1⟩ => ?_) (by rw [hs, hs2]) (by rw [hs2]; rfl)))
  obtain ⟨i, j, e, ⟨q1, q2, q3, q4⟩, q⟩ := q1
  subst e
  cases r1 with
  | cons r rr =>
    cases rr with
    | cons r' rr =>
      cases rr
      obtain ⟨t, rfl⟩ := r
      obtain ⟨t', rfl⟩ := r'
      exact call_range_2 (range_it I1 q1 q2 q3 q4 q)

noncomputable def tFor (wi : TI) (g : TG) (tb : TS) : TS := fun D σ H => wi σ H fun J H1 => ∃ W : Nat → Nat → St → Hp → Prop, (∃ m, W 0 m σ H1) ∧ ∀ i m σ H, W i m σ H →
  (J.stop i H ∧ D.nx σ H) ∨ (J.go i H ∧ ∃ N : St → Hp → Prop, (∀ σ' H', N σ' H' → ∃ m', m' < m ∧ W (i + 1) m' σ' H') ∧ ∀ x H', J.yld i H x H' → g x σ H' fun σ2 H2 => tb { D with nx := N, ct := N, bk := D.nx } σ2 H2)
noncomputable def pinsAt (fp : List Addr) (h : Heap) : List (Addr × Obj) := fp.filterMap fun b => (h.get? b).map fun o => (b, o)
theorem mem_pinsAt {fp : List Addr} {h : Heap} {b : Addr} {o : Obj} (hb : b ∈ fp) (e : h.get? b = some o) : (b, o) ∈ pinsAt fp h := List.mem_filterMap.mpr ⟨b, hb, by rw [e]; rfl⟩
theorem of_pinsAt {fp : List Addr} {h : Heap} {p : Addr × Obj} (hp : p ∈ pinsAt fp h) : p.1 ∈ fp ∧ h.get? p.1 = some p.2 := by
  obtain ⟨b, hb, e⟩ := List.mem_filterMap.mp hp
  cases q : h.get? b with
  | none => rw [q] at e; cases e
  | some o =>
    rw [q] at e
    have e' : (b, o) = p := Option.some.inj e
    subst e'
    exact ⟨hb, q⟩
theorem Inv.pinned {pins : List (Addr × Obj)} {σ : St} {H : Hp} {s : Shared} {fp : List Addr} (I : Inv X pins σ H s) (hf : ∀ b ∈ fp, FpOk X pins H b) (ho : ∀ b ∈ fp, ∃ o, s.heap.get? b = some o ∧ ∀ v, o.data ≠ .cell v) : Inv X (pins ++ pinsAt fp s.heap) σ H s :=
  I.pins_of fun p hp => (List.mem_append.mp hp).elim (fun z => I.pin p (List.mem_append_right _ z)) fun z => by
    obtain ⟨hb, e⟩ := of_pinsAt z
    obtain ⟨f0, f1, f2, _⟩ := hf p.1 hb
    obtain ⟨o, e', d⟩ := ho p.1 hb
    rw [e] at e'; cases e'
    exact ⟨e, f0, f1, f2, d⟩
theorem Inv.unpinned {pins pl : List (Addr × Obj)} {σ : St} {H : Hp} {s : Shared} (I : Inv X (pins ++ pl) σ H s) : Inv X pins σ H s := I.pins_of fun p hp => I.pin p (List.mem_append_right _ (List.mem_append_left _ hp))
theorem ps_for {iter : Expr} {body : List Stmt} {wi : TI} {g : TG} {tb : TS} {pos : Pos} (hp : PassesOwn (model X.prog X.w) X.A X.env X.xe) (hc : X.calm = true) (hi : PI X tg iter wi) (hg : PG X tg g) (hb : PSs X body tb)
    (hs : autoParam (∀ x, foldedSetIterable iter X.env x = pure x) Internal.aut3._auto_1) : PS X (.For tg iter body [] pos) (tFor wi g tb) := by
  intro pins s σ H D I h
  refine wpAny_For (thn (hi pins s σ H _ I h) fun v s1 h1 => thn h1 fun itv s2 h2 => ?_) hs
  obtain ⟨it, fp, tn, J, H2, e, I2, T, st2, f2, W, ⟨m0, w0⟩, turn⟩ := h2
  subst e
  -- what stays true of the iterator's objects through the loop
  have stat : ∀ {H' : Hp}, (∀ b ∈ fp, H' b = none) → ∀ b ∈ fp, FpOk X pins H' b := fun hn b hb => ⟨hn b hb, (f2 b hb).2⟩
  refine codeAny_forLoop_any (fun n s' => ∃ i σ' H', Inv X pins σ' H' s' ∧ tn i s'.heap ∧ (∀ b ∈ fp, H' b = none) ∧ W i n σ' H') ?_ m0 ⟨0, σ, H2, I2, st2, fun b hb => (f2 b hb).1, w0⟩
  rintro n s3 ⟨i, σ3, H3, I3, st3, fr3, w3⟩
  rcases turn i n σ3 H3 w3 with ⟨stop, qn⟩ | ⟨go, N, hN, step⟩
  · refine wpAny_passesOwn hp (thn (T.done X rfl rfl rfl hc i pins s3 σ3 H3 X.xe I3 (stat fr3) st3 stop) fun r s4 ⟨hr, I4⟩ => ?_)
    subst hr
    exact wpAny_execs_nil ⟨σ3, H3, I4, qn⟩
  · refine wpAny_passesOwn hp (thn (T.item X rfl rfl rfl hc i pins s3 σ3 H3 X.xe I3 (stat fr3) st3 go) fun r s4 ⟨u, hr, h4⟩ => ?_)
    subst hr
    refine wpAny_passesOwn hp (thn h4 fun _ s5 zz => ?_)
    obtain ⟨x, H5, I5, r5, y5, st5, fr5⟩ := zz
    have I5' := I5.pinned (stat fr5) (T.obj _ _ st5)
    refine wpAny_passesOwn hp (thn (hg _ s5 σ3 H5 x u _ I5' r5 (step x H5 y5)) fun _ s6 zz => ?_)
    obtain ⟨σ6, H6, I6, q6⟩ := zz
    refine wpAny_passesOwn hp (thn (hb _ s6 σ6 H6 _ I6 q6) fun f s7 q7 => ?_)
    have again : ∀ {σ7 : St} {H7 : Hp}, Inv X (pins ++ pinsAt fp s5.heap) σ7 H7 s7 → N σ7 H7 → ∃ m, m < n ∧ ∃ i σ' H', Inv X pins σ' H' s7 ∧ tn i s7.heap ∧ (∀ b ∈ fp, H' b = none) ∧ W i m σ' H' := fun {σ7 H7} I7 n7 => by
      obtain ⟨m', hm, w7⟩ := hN σ7 H7 n7
      refine ⟨m', hm, i + 1, σ7, H7, I7.unpinned, T.keep _ _ _ st5 fun b hb o e => (I7.pin (b, o) (List.mem_append_right _ (List.mem_append_right _ (mem_pinsAt hb e)))).1, fun b hb => ?_, w7⟩
      obtain ⟨o, e, d⟩ := T.obj _ _ st5 b hb
      exact (I7.pin (b, o) (List.mem_append_right _ (List.mem_append_right _ (mem_pinsAt hb e)))).2.1
    cases f with
    | next => obtain ⟨σ7, H7, I7, n7⟩ := q7; exact again I7 n7
    | cont => obtain ⟨σ7, H7, I7, n7⟩ := q7; exact again I7 n7
    | brk => obtain ⟨σ7, H7, I7, q7⟩ := q7; exact ⟨σ7, H7, I7.unpinned, q7⟩
    | ret v => obtain ⟨x7, σ7, H7, I7, r7, q7⟩ := q7; exact ⟨x7, σ7, H7, I7.unpinned, r7, q7⟩
end

theorem for_list {K : PySem.W.Frag} {a : Addr} {xs : List V} {g : TG} {tb : TS} {D : Ends} {σ : St} {H : Hp} (Pv : Nat → St → Hp → Prop) (h0 : Pv 0 σ H) (hl : ∀ i σ H, i ≤ xs.length → Pv i σ H → SqL K H a xs)
    (hs : ∀ i x σ H, xs[i]? = some x → Pv i σ H → g x σ H fun σ2 H2 => tb { D with nx := Pv (i + 1), ct := Pv (i + 1), bk := D.nx } σ2 H2) (hd : ∀ σ H, Pv xs.length σ H → D.nx σ H) :
    ∃ W : Nat → Nat → St → Hp → Prop, (∃ m, W 0 m σ H) ∧ ∀ i m σ H, W i m σ H →
      ((Itl K a).stop i H ∧ D.nx σ H) ∨ ((Itl K a).go i H ∧ ∃ N : St → Hp → Prop, (∀ σ' H', N σ' H' → ∃ m', m' < m ∧ W (i + 1) m' σ' H') ∧ ∀ x H', (Itl K a).yld i H x H' → g x σ H' fun σ2 H2 => tb { D with nx := N, ct := N, bk := D.nx } σ2 H2) := by
  refine ⟨fun i m σ H => m = xs.length - i ∧ i ≤ xs.length ∧ Pv i σ H, ⟨xs.length, by simp, Nat.zero_le _, h0⟩, ?_⟩
  rintro i m σ H ⟨rfl, hi, p⟩
  have q := hl i σ H hi p
  by_cases hlt : i < xs.length
  · refine .inr ⟨⟨xs, xs[i], q, by simp [hlt]⟩, Pv (i + 1), fun σ' H' p' => ⟨xs.length - (i + 1), by omega, rfl, hlt, p'⟩, fun x H' y => ?_⟩
    obtain ⟨e, y⟩ := y
    subst e
    exact hs i x σ _ (y xs q) p
  · have e : i = xs.length := by omega
    subst e
    exact .inl ⟨⟨xs, q, Nat.le_refl _⟩, hd σ H p⟩
theorem for_range {lo : Int} {n : Nat} {g : TG} {tb : TS} {D : Ends} {σ : St} {H : Hp} (Pv : Nat → St → Hp → Prop) (h0 : Pv 0 σ H)
    (hs : ∀ i σ H, i < n → Pv i σ H → g (.int (lo + i)) σ H fun σ2 H2 => tb { D with nx := Pv (i + 1), ct := Pv (i + 1), bk := D.nx } σ2 H2) (hd : ∀ σ H, Pv n σ H → D.nx σ H) :
    ∃ W : Nat → Nat → St → Hp → Prop, (∃ m, W 0 m σ H) ∧ ∀ i m σ H, W i m σ H →
      ((Itr lo n).stop i H ∧ D.nx σ H) ∨ ((Itr lo n).go i H ∧ ∃ N : St → Hp → Prop, (∀ σ' H', N σ' H' → ∃ m', m' < m ∧ W (i + 1) m' σ' H') ∧ ∀ x H', (Itr lo n).yld i H x H' → g x σ H' fun σ2 H2 => tb { D with nx := N, ct := N, bk := D.nx } σ2 H2) := by
  refine ⟨fun i m σ H => m = n - i ∧ i ≤ n ∧ Pv i σ H, ⟨n, by simp, Nat.zero_le _, h0⟩, ?_⟩
  rintro i m σ H ⟨rfl, hi, p⟩
  by_cases hlt : i < n
  · refine .inr ⟨hlt, Pv (i + 1), fun σ' H' p' => ⟨n - (i + 1), by omega, rfl, hlt, p'⟩, fun x H' y => ?_⟩
    obtain ⟨e, y⟩ := y
    subst e y
    exact hs i σ _ hlt p
  · have e : i = n := by omega
    subst e
    exact .inl ⟨Nat.le_refl _, hd σ H p⟩
end Internal

namespace Internal
open PySem PySem.Spec PyProof.Rows

noncomputable abbrev R2 := V → V → Hp → VK → Prop
noncomputable def OpR (X : Cx) (f : Value → Value → Sem Value) (r : R2) : Prop :=
  ∀ (pins : List (Addr × Obj)) (s : Shared) (σ : St) (H : Hp) (x y : V) (v u : Value) (Q : VK), Inv X pins σ H s → RelV x v → RelV y u → r x y H Q →
    wpAny (model X.prog X.w) X.A (f v u) (EP X pins σ Q) X.xe s
noncomputable def UnR (X : Cx) (f : Value → Sem Value) (r : V → Hp → VK → Prop) : Prop :=
  ∀ (pins : List (Addr × Obj)) (s : Shared) (σ : St) (H : Hp) (x : V) (v : Value) (Q : VK), Inv X pins σ H s → RelV x v → r x H Q →
    wpAny (model X.prog X.w) X.A (f v) (EP X pins σ Q) X.xe s
noncomputable def CallR (X : Cx) (f : Value) (r : List V → Hp → VK → Prop) : Prop :=
  ∀ (pins : List (Addr × Obj)) (s : Shared) (σ : St) (H : Hp) (xs : List V) (us : List Value) (Q : VK), Inv X pins σ H s → Vals xs us → r xs H Q →
    wpAny (model X.prog X.w) X.A (call f us) (EP X pins σ Q) X.xe s
noncomputable def TruR (X : Cx) (r : V → Hp → (Bool → Hp → Prop) → Prop) : Prop :=
  ∀ (pins : List (Addr × Obj)) (s : Shared) (σ : St) (H : Hp) (x : V) (v : Value) (Q : Bool → Hp → Prop), Inv X pins σ H s → RelV x v → r x H Q →
    wpAny (model X.prog X.w) X.A (truthy v) (TP X pins σ Q) X.xe s

noncomputable abbrev tOp (r : R2) (ta tb : TE) : TE := fun σ H Q => ta σ H fun x H1 => tb σ H1 fun y H2 => r x y H2 Q
noncomputable abbrev tUn (r : V → Hp → VK → Prop) (ta : TE) : TE := fun σ H Q => ta σ H fun x H1 => r x H1 Q
noncomputable def rI (C : Int → Int → Prop) (g : Int → Int → V) : R2 := fun x y H Q => ∃ i j, x = .int i ∧ y = .int j ∧ C i j ∧ Q (g i j) H
noncomputable def rI0 (g : Int → Int → V) : R2 := fun x y H Q => ∃ i j, x = .int i ∧ y = .int j ∧ Q (g i j) H
noncomputable def rU (g : Int → V) : V → Hp → VK → Prop := fun x H Q => ∃ i, x = .int i ∧ Q (g i) H

section
variable {X : Cx} {a b c : Expr} {ta tb tc : TE} {pos : Pos}

theorem binT (ha : PE X a ta) (hb : PE X b tb) {pins : List (Addr × Obj)} {s : Shared} {σ : St} {H : Hp} {R : V → V → Hp → Prop} (I : Inv X pins σ H s)
    (h : ta σ H fun x H1 => tb σ H1 fun y H2 => R x y H2) {Q : Value → Shared → Prop} {f : Value → Value → Sem Value}
    (hf : ∀ v u s2 x y H2, Inv X pins σ H2 s2 → RelV x v → RelV y u → R x y H2 → wpAny (model X.prog X.w) X.A (f v u) Q X.xe s2) :
    wpAny (model X.prog X.w) X.A (eval a X.env) (fun v s₁ => wpAny (model X.prog X.w) X.A (eval b X.env) (fun u s₂ => wpAny (model X.prog X.w) X.A (f v u) Q X.xe s₂) X.xe s₁) X.xe s := by
  refine thn (ha pins s σ H _ I h) fun v s1 zz => ?_
  obtain ⟨x, H1, I1, r1, q1⟩ := zz
  refine thn (hb pins s1 σ H1 _ I1 q1) fun u s2 zz => ?_
  obtain ⟨y, H2, I2, r2, q2⟩ := zz
  exact hf v u s2 x y H2 I2 r1 r2 q2

theorem pe_op {op : Operator} {r : R2} (ho : OpR X (binaryOp op) r) (ha : PE X a ta) (hb : PE X b tb) : PE X (.BinOp a op b pos) (tOp r ta tb) := by
  intro pins s σ H Q I h
  exact wpAny_BinOp (binT ha hb I h fun v u s2 x y H2 I2 rx ry q => ho pins s2 σ H2 x y v u Q I2 rx ry q)
theorem pe_un {op : UnaryOp} {r : V → Hp → VK → Prop} (ho : UnR X (unaryOp op) r) (ha : PE X a ta) : PE X (.UnaryOp op a pos) (tUn r ta) := by
  intro pins s σ H Q I h
  exact UnaryOp_ (thn (ha pins s σ H _ I h) fun v s1 ⟨x, H1, I1, r1, q1⟩ => ho pins s1 σ H1 x v Q I1 r1 q1)
theorem opI {f : Value → Value → Sem Value} {C : Int → Int → Prop} {g : Int → Int → Int}
    (rule : ∀ (i j : Int) (t u : Tok) (s : Shared) (Q : Value → Shared → Prop) (E : Value → Shared → Prop), C i j → Q (.int (g i j) s.toks) { s with toks := s.toks + 1 } → wpAny (model X.prog X.w) X.A (f (.int i t) (.int j u)) Q E s) :
    OpR X f (rI C fun i j => .int (g i j)) := by
  intro pins s σ H x y v u Q I rx ry h
  obtain ⟨i, j, rfl, rfl, hc, q⟩ := h
  obtain ⟨t, rfl⟩ := rx
  obtain ⟨t', rfl⟩ := ry
  exact rule i j t t' s _ _ hc ⟨.int (g i j), H, I.tok _, ⟨_, rfl⟩, q⟩
theorem opI0 {f : Value → Value → Sem Value} {g : Int → Int → Int}
    (rule : ∀ (i j : Int) (t u : Tok) (s : Shared) (Q : Value → Shared → Prop) (E : Value → Shared → Prop), Q (.int (g i j) s.toks) { s with toks := s.toks + 1 } → wpAny (model X.prog X.w) X.A (f (.int i t) (.int j u)) Q E s) :
    OpR X f (rI0 fun i j => .int (g i j)) := by
  intro pins s σ H x y v u Q I rx ry h
  obtain ⟨i, j, rfl, rfl, q⟩ := h
  obtain ⟨t, rfl⟩ := rx
  obtain ⟨t', rfl⟩ := ry
  exact rule i j t t' s _ _ ⟨.int (g i j), H, I.tok _, ⟨_, rfl⟩, q⟩
theorem opB0 {f : Value → Value → Sem Value} {g : Int → Int → Bool}
    (rule : ∀ (i j : Int) (t u : Tok) (s : Shared) (Q : Value → Shared → Prop) (E : Value → Shared → Prop), Q (.bool (g i j)) s → wpAny (model X.prog X.w) X.A (f (.int i t) (.int j u)) Q E s) :
    OpR X f (rI0 fun i j => .bl (g i j)) := by
  intro pins s σ H x y v u Q I rx ry h
  obtain ⟨i, j, rfl, rfl, q⟩ := h
  obtain ⟨t, rfl⟩ := rx
  obtain ⟨t', rfl⟩ := ry
  exact rule i j t t' s _ _ ⟨.bl (g i j), H, I, rfl, q⟩

theorem op_add : OpR X (binaryOp .Add) (rI0 fun i j => .int (i + j)) := opI0 fun _ _ _ _ _ _ _ q => add_int q
theorem op_sub : OpR X (binaryOp .Sub) (rI0 fun i j => .int (i - j)) := opI0 fun _ _ _ _ _ _ _ q => sub_int q
theorem op_modN : OpR X (binaryOp .Mod) (rI (fun _ j => j ≠ 0) fun i j => .int (i.fmod j)) := opI fun _ _ _ _ _ _ _ hc q => mod_int' hc q
theorem unI {f : Value → Sem Value} {g : Int → Int}
    (rule : ∀ (i : Int) (t : Tok) (s : Shared) (Q : Value → Shared → Prop) (E : Value → Shared → Prop), Q (.int (g i) s.toks) { s with toks := s.toks + 1 } → wpAny (model X.prog X.w) X.A (f (.int i t)) Q E s) :
    UnR X f (rU fun i => .int (g i)) := by
  intro pins s σ H x v Q I rx h
  obtain ⟨i, rfl, q⟩ := h
  obtain ⟨t, rfl⟩ := rx
  exact rule i t s _ _ ⟨.int (g i), H, I.tok _, ⟨_, rfl⟩, q⟩
theorem un_neg : UnR X (unaryOp .USub) (rU fun i => .int (-i)) := unI fun _ _ _ _ _ q => neg_int q
end

noncomputable def scal : V → V → Bool
  | .non, .non => true | .non, .int _ => true | .int _, .non => true | .non, .bl _ => true | .bl _, .non => true | .non, .str _ => true | .str _, .non => true
  | .int _, .int _ => true | .bl _, .bl _ => true | .str _, .str _ => true | .byt _, .byt _ => true
  | .int _, .str _ => true | .str _, .int _ => true | .bl _, .str _ => true | .str _, .bl _ => true
  | _, _ => false
noncomputable def rEq : R2 := fun x y H Q => scal x y = true ∧ Q (.bl (decide (x = y))) H
noncomputable def rNe : R2 := fun x y H Q => scal x y = true ∧ Q (.bl (!decide (x = y))) H

theorem dec_int {i j : Int} : decide (V.int i = V.int j) = (i == j) := by
  rw [Bool.eq_iff_iff]
  simp
theorem dec_bl {i j : Bool} : decide (V.bl i = V.bl j) = (i == j) := by
  rw [Bool.eq_iff_iff]
  simp
theorem dec_str {i j : Str} : decide (V.str i = V.str j) = (i == j) := by
  rw [Bool.eq_iff_iff]
  simp
theorem dec_byt {i j : Array UInt8} : decide (V.byt i = V.byt j) = (i.toList == j.toList) := by
  rw [Bool.eq_iff_iff]
  cases i
  cases j
  simp

section
variable {X : Cx} {a b c : Expr} {ta tb tc : TE} {pos : Pos}
theorem fin_bl {pins : List (Addr × Obj)} {σ : St} {H : Hp} {s : Shared} {Q : VK} {k k' : Bool} (I : Inv X pins σ H s) (q : Q (.bl k) H) (e : k = k') : EP X pins σ Q (.bool k') s := by
  subst e
  exact ⟨.bl k, H, I, rfl, q⟩
theorem op_eq : OpR X (compareOp .Eq) rEq := by
  intro pins s σ H x y v u Q I rx ry h
  obtain ⟨hs, q⟩ := h
  cases x with
  | non =>
    cases rx
    cases y with
    | non => cases ry; exact PySem.EqNone.eq_none_none (fin_bl I q (by simp))
    | bl j => cases ry; exact PySem.EqNone.eq_none_bool (fin_bl I q (by simp))
    | int j => obtain ⟨t', rfl⟩ := ry; exact PySem.EqNone.eq_none_int (fin_bl I q (by simp))
    | str j => obtain ⟨t', rfl⟩ := ry; exact PySem.EqNone.eq_none_str (fin_bl I q (by simp))
    | _ => exact absurd (show false = true from hs) Bool.false_ne_true
  | bl i =>
    cases rx
    cases y with
    | non => cases ry; exact PySem.EqNone.eq_bool_none (fin_bl I q (by simp))
    | bl j => cases ry; exact eq_bool (fin_bl I q dec_bl)
    | str j => obtain ⟨t', rfl⟩ := ry; exact PySem.EqMixed.eq_bool_str (fin_bl I q (by simp))
    | _ => exact absurd (show false = true from hs) Bool.false_ne_true
  | int i =>
    obtain ⟨t, rfl⟩ := rx
    cases y with
    | non => cases ry; exact PySem.EqNone.eq_int_none (fin_bl I q (by simp))
    | int j => obtain ⟨t', rfl⟩ := ry; exact eq_int (fin_bl I q dec_int)
    | str j => obtain ⟨t', rfl⟩ := ry; exact PySem.EqMixed.eq_int_str (fin_bl I q (by simp))
    | _ => exact absurd (show false = true from hs) Bool.false_ne_true
  | str i =>
    obtain ⟨t, rfl⟩ := rx
    cases y with
    | non => cases ry; exact PySem.EqNone.eq_str_none (fin_bl I q (by simp))
    | bl j => cases ry; exact PySem.EqMixed.eq_str_bool (fin_bl I q (by simp))
    | int j => obtain ⟨t', rfl⟩ := ry; exact PySem.EqMixed.eq_str_int (fin_bl I q (by simp))
    | str j => obtain ⟨t', rfl⟩ := ry; exact eq_str (fin_bl I q dec_str)
    | _ => exact absurd (show false = true from hs) Bool.false_ne_true
  | byt i =>
    obtain ⟨t, rfl⟩ := rx
    cases y with
    | byt j => obtain ⟨t', rfl⟩ := ry; exact PySem.W.eq_bytes (fin_bl I q dec_byt)
    | _ => exact absurd (show false = true from hs) Bool.false_ne_true
  | _ => cases y <;> exact absurd (show false = true from hs) Bool.false_ne_true
theorem op_ne : OpR X (compareOp .NotEq) rNe := by
  intro pins s σ H x y v u Q I rx ry h
  obtain ⟨hs, q⟩ := h
  cases x with
  | non =>
    cases rx
    cases y with
    | non => cases ry; exact PySem.EqNone.ne_none_none (fin_bl I q (by simp))
    | bl j => cases ry; exact PySem.EqNone.ne_none_bool (fin_bl I q (by simp))
    | int j => obtain ⟨t', rfl⟩ := ry; exact PySem.EqNone.ne_none_int (fin_bl I q (by simp))
    | str j => obtain ⟨t', rfl⟩ := ry; exact PySem.EqNone.ne_none_str (fin_bl I q (by simp))
    | _ => exact absurd (show false = true from hs) Bool.false_ne_true
  | bl i =>
    cases rx
    cases y with
    | non => cases ry; exact PySem.EqNone.ne_bool_none (fin_bl I q (by simp))
    | bl j => cases ry; exact ne_bool (fin_bl I q (congrArg not dec_bl))
    | str j => obtain ⟨t', rfl⟩ := ry; exact PySem.EqMixed.ne_bool_str (fin_bl I q (by simp))
    | _ => exact absurd (show false = true from hs) Bool.false_ne_true
  | int i =>
    obtain ⟨t, rfl⟩ := rx
    cases y with
    | non => cases ry; exact PySem.EqNone.ne_int_none (fin_bl I q (by simp))
    | int j => obtain ⟨t', rfl⟩ := ry; exact ne_int (fin_bl I q (congrArg not dec_int))
    | str j => obtain ⟨t', rfl⟩ := ry; exact PySem.EqMixed.ne_int_str (fin_bl I q (by simp))
    | _ => exact absurd (show false = true from hs) Bool.false_ne_true
  | str i =>
    obtain ⟨t, rfl⟩ := rx
    cases y with
    | non => cases ry; exact PySem.EqNone.ne_str_none (fin_bl I q (by simp))
    | bl j => cases ry; exact PySem.EqMixed.ne_str_bool (fin_bl I q (by simp))
    | int j => obtain ⟨t', rfl⟩ := ry; exact PySem.EqMixed.ne_str_int (fin_bl I q (by simp))
    | str j => obtain ⟨t', rfl⟩ := ry; exact ne_str (fin_bl I q (congrArg not dec_str))
    | _ => exact absurd (show false = true from hs) Bool.false_ne_true
  | byt i =>
    obtain ⟨t, rfl⟩ := rx
    cases y with
    | byt j => obtain ⟨t', rfl⟩ := ry; exact PySem.W.ne_bytes (fin_bl I q (congrArg not dec_byt))
    | _ => exact absurd (show false = true from hs) Bool.false_ne_true
  | _ => cases y <;> exact absurd (show false = true from hs) Bool.false_ne_true

theorem op_lt : OpR X (compareOp .Lt) (rI0 fun i j => .bl (decide (i < j))) := opB0 fun _ _ _ _ _ _ _ q => lt_int q
theorem op_gt : OpR X (compareOp .Gt) (rI0 fun i j => .bl (decide (j < i))) := opB0 fun _ _ _ _ _ _ _ q => gt_int q
theorem op_isN : OpR X (compareOp .Is) (fun x y H Q => y = .non ∧ Q (.bl (decide (x = .non))) H) := by
  intro pins s σ H x y v u Q I rx ry h
  obtain ⟨rfl, q⟩ := h
  cases ry
  refine is_none_gen (fin_bl I q ?_)
  cases x <;> first
    | (cases rx; rfl)
    | (obtain ⟨t, rfl⟩ := rx; rfl)
theorem OpR.or {f : Value → Value → Sem Value} {r r' : R2} (h : OpR X f r) (h' : OpR X f r') : OpR X f (fun x y H Q => r x y H Q ∨ r' x y H Q) := by
  intro pins s σ H x y v u Q I rx ry q
  rcases q with q | q
  · exact h pins s σ H x y v u Q I rx ry q
  · exact h' pins s σ H x y v u Q I rx ry q

theorem nomark (b : Expr) {op : CmpOp} (h : autoParam (op ≠ .In) Internal.aut1._auto_1) (h2 : autoParam (op ≠ .NotIn) Internal.aut1._auto_1) : behindInMarks op b = false := by
  have e1 : (op == CmpOp.In) = false := by cases op <;> first | rfl | exact absurd rfl h
  have e2 : (op == CmpOp.NotIn) = false := by cases op <;> first | rfl | exact absurd rfl h2
  cases b <;> simp [behindInMarks, e1, e2]
theorem pe_cmpR {op : CmpOp} {r : R2} (ho : OpR X (compareOp op) r) (ha : PE X a ta) (hb : PE X b tb) (hm : behindInMarks op b = false) : PE X (.Compare a [op] [b] pos) (tOp r ta tb) := by
  intro pins s σ H Q I h
  exact wpAny_Compare1 (binT ha hb I h fun v u s2 x y H2 I2 rx ry q => ho pins s2 σ H2 x y v u Q I2 rx ry q) hm
noncomputable abbrev tTest (t : TE) : TT := fun σ H Q => t σ H fun x H' => ∃ k, x = .bl k ∧ Q k H'
theorem pt_cmpR {op : CmpOp} {r : R2} (ho : OpR X (compareOp op) r) (ha : PE X a ta) (hb : PE X b tb) (hm : behindInMarks op b = false) : PT X (.Compare a [op] [b] pos) (tTest (tOp r ta tb)) := by
  intro pins s σ H Q I h
  refine wpAny_isTrue_Compare1 (thn (ha pins s σ H _ I h) fun v s1 ⟨x, H1, I1, r1, q1⟩ => thn (hb pins s1 σ H1 _ I1 q1) fun u s2 ⟨y, H2, I2, r2, q2⟩ =>
    thn (ho pins s2 σ H2 x y v u _ I2 r1 r2 q2) fun c s3 ⟨z, H3, I3, r3, k, e, q3⟩ => ?_) hm
  subst e
  cases r3
  exact wpAny_truthy_bool ⟨H3, I3, q3⟩
noncomputable def TruV (K : PySem.W.Frag) (x : V) (H : Hp) (k : Bool) : Prop :=
  match x with
  | .non => k = false
  | .bl b => k = b
  | .int i => k = (i != 0)
  | .str y => y.length ≤ sizeLine ∧ k = ((y.length : Int) != 0)
  | .byt y => y.size ≤ sizeLine ∧ k = ((y.size : Int) != 0)
  | .ref p => (∃ xs, SqL K H p xs ∧ k = !xs.isEmpty) ∨ (∃ xs, SqT K H p xs ∧ k = !xs.isEmpty) ∨ ∃ kvs, H p = some (.dK kvs) ∧ k = !kvs.isEmpty
  | _ => False
theorem isEmpty_kv {κ : Type} {kvs : List (κ × V)} {vs : List (κ × Value)} (r : KV kvs vs) : (!vs.isEmpty) = !kvs.isEmpty := by
  cases r <;> rfl
theorem isEmpty_of {xs : List V} {its : List Value} (r : Vals xs its) : (!its.toArray.isEmpty) = !xs.isEmpty := by
  cases r <;> simp
theorem line63 : (sizeLine : Nat) < 2 ^ 63 := by rw [sizeLine_eq]; decide
theorem tru_ok : TruR X (fun x H Q => ∃ k, TruV X.K x H k ∧ Q k H) := by
  intro pins s σ H x v Q I rx h
  obtain ⟨k, e, q⟩ := h
  have hl := line63
  have hs : sizeLine = 16777216 := sizeLine_eq
  cases x with
  | non =>
    cases rx
    have e' : k = false := e
    subst e'
    exact truthy_none ⟨H, I, q⟩
  | bl b =>
    cases rx
    have e' : k = b := e
    subst e'
    exact wpAny_truthy_bool ⟨H, I, q⟩
  | int i =>
    obtain ⟨t, rfl⟩ := rx
    have e' : k = (i != 0) := e
    subst e'
    exact PySem.P.truthy_int ⟨H, I, q⟩
  | str y =>
    obtain ⟨t, rfl⟩ := rx
    obtain ⟨hy, e'⟩ : y.length ≤ sizeLine ∧ k = ((y.length : Int) != 0) := e
    subst e'
    exact PySem.P.truthy_str (by omega) ⟨H, I.tok _, q⟩
  | byt y =>
    obtain ⟨t, rfl⟩ := rx
    obtain ⟨hy, e'⟩ : y.size ≤ sizeLine ∧ k = ((y.size : Int) != 0) := e
    subst e'
    exact PySem.W.truthy_bytes (by omega) ⟨H, I.tok _, q⟩
  | ref p =>
    cases rx
    have e' : (∃ xs, SqL X.K H p xs ∧ k = !xs.isEmpty) ∨ (∃ xs, SqT X.K H p xs ∧ k = !xs.isEmpty) ∨ ∃ kvs, H p = some (.dK kvs) ∧ k = !kvs.isEmpty := e
    rcases e' with ⟨xs, hx, e'⟩ | ⟨xs, hx, e'⟩ | ⟨kvs, hx, e'⟩
    · subst e'
      obtain ⟨its, r, pl, hz⟩ := I.list hx
      have hlen := r.length
      exact wpAny_truthy_list pl.isList (by simp only [List.size_toArray]; omega) ⟨H, I.tok _, by rw [isEmpty_of r]; exact q⟩
    · subst e'
      obtain ⟨its, r, pl, hz⟩ := I.tuple hx
      have hlen := r.length
      exact truthy_tuple pl (by simp only [List.size_toArray]; omega) ⟨H, I.tok _, by rw [isEmpty_of r]; exact q⟩
    · subst e'
      obtain ⟨hz, hS, vs, r, m⟩ : kvs.length ≤ sizeLine ∧ (p == sysModules) = false ∧ ∃ vs, KV kvs vs ∧ s.heap.DictOf (mixKind X.prog X.w) p vs := I.hok p _ hx
      have hlen : kvs.length = vs.length := Paired.length r
      exact wpAny_truthy_dict hS m (by omega) ⟨H, I.tok _, by rw [isEmpty_kv r]; exact q⟩
  | _ => exact (show False from e).elim
theorem pt_truth (ha : PE X a ta) (he : ∀ whole, isTrue a X.env whole = (do let v ← whole; standAt a.pos; holding [v] (truthy v))) :
    PT X a (fun σ H Q => ta σ H fun x H' => ∃ k, TruV X.K x H' k ∧ Q k H') := by
  intro pins s σ H Q I h
  exact isTrue_plain (thn (ha pins s σ H _ I h) fun v s1 ⟨x, H1, I1, r1, q1⟩ => tru_ok pins s1 σ H1 x v Q I1 r1 q1) (he _)

theorem vals1 {x : V} {us : List Value} (r : Vals [x] us) : ∃ u, us = [u] ∧ RelV x u := by
  cases r with
  | cons r1 r2 => cases r2; exact ⟨_, rfl, r1⟩
theorem vals2 {x y : V} {us : List Value} (r : Vals [x, y] us) : ∃ u w', us = [u, w'] ∧ RelV x u ∧ RelV y w' := by
  cases r with
  | cons r1 r2 =>
    cases r2 with
    | cons r3 r4 => cases r4; exact ⟨_, _, rfl, r1, r3⟩
theorem call_abs : CallR X (.builtin "abs") (fun xs H Q => ∃ i, xs = [.int i] ∧ Q (.int (if i < 0 then -i else i)) H) := by
  intro pins s σ H xs us Q I r h
  obtain ⟨i, rfl, q⟩ := h
  obtain ⟨u, rfl, t, rfl⟩ := vals1 r
  exact call_abs_int fun u tk => ⟨.int (if i < 0 then -i else i), H, I.tok _, ⟨_, rfl⟩, q⟩
end
end Internal

namespace Internal
open PySem PySem.Spec PyProof.Rows

set_option genInjectivity false in
set_option genSizeOf false in
structure ObjM (h : Heap) (x dx C : Addr) (mA : Str → Option Value) : Prop where
  obj : h.get? x = some (PySem.W.instObj C dx)
  ns : h.Ns1 dx mA
  ne : dx ≠ x

theorem lookIn_ns {h : Heap} {dx : Addr} {mA : Str → Option Value} (n : h.Ns1 dx mA) : ∃ od, h.get? dx = some od ∧ ∀ name, PySem.W.lookIn name od = some (mA name) := by
  obtain ⟨o, es, ep, ho, hd, hk, _, hm⟩ := n
  refine ⟨o, ho, fun name => ?_⟩
  have e := hm name
  unfold nsFind findBy at e
  rw [← Array.find?_toList] at e
  unfold PySem.W.lookIn
  rw [hd]
  dsimp only
  split
  · rename_i y q
    rw [q] at e
    exact congrArg some e
  · rename_i q
    rw [q] at e
    have a : es.toList.any (·.refKey) = false := by
      rw [List.any_eq_false]
      intro y hy
      obtain ⟨z, t, hkey⟩ := hk y (Array.mem_toList_iff.mp hy)
      simp [DictEntry.refKey, hkey]
    have a' : ¬ es.toList.any (·.refKey) = true := by rw [a]; exact Bool.false_ne_true
    rw [if_neg a']
    exact congrArg some e

theorem ObjM.look {h : Heap} {x dx C : Addr} {mA : Str → Option Value} (I : ObjM h x dx C mA) : ∃ od, PySem.W.InstAt h x (PySem.W.instObj C dx) C (some od) ∧ ∀ name, PySem.W.lookIn name od = some (mA name) :=
  let ⟨od, ho, hl⟩ := lookIn_ns I.ns
  ⟨od, ⟨I.obj, rfl, rfl, ho⟩, hl⟩

section
variable {prog : Program} {w : World} {A : Around} {E : Value → Shared → Prop} {s : Shared} {K : PySem.W.Frag} {x dx C f : Addr} {mA : Str → Option Value} {name : Str} {v : Value}

end

noncomputable def putF (f : Str) (v : V) : List (Str × V) → List (Str × V)
  | [] => [(f, v)]
  | (g, x) :: r => if g = f then (g, v) :: r else (g, x) :: putF f v r
section
variable {P : Program} {w : World} {H H' : Hp} {h h' : Heap} {a C dx : Addr} {fs fs' : List (Str × V)}
theorem ins_get (hok : HOk P w H h) (e : H a = some (.ins C dx fs)) : ∃ mA, ObjM h a dx C mA ∧ (∀ f, RelO (fs.lookup f) (mA f)) ∧ PySem.Within mA (fs.map (·.1)) ∧ fs.length ≤ 1000 ∧ H dx = some (.own a) := by
  obtain ⟨d, z, ne, ob, mA, n, r, q⟩ := (show ObjOk P w H h a (.ins C dx fs) from hok a _ e)
  exact ⟨mA, ⟨ob, n, ne⟩, r, q, z, d⟩
end

set_option genInjectivity false in
set_option genSizeOf false in
structure Cls (K : PySem.W.Frag) (C : Addr) : Prop where
  pg : PySem.W.plainGet K C Str.empty = true
  hd : PySem.W.hasDictIn K C = true
  po : PySem.W.plainOver K C = true
  sa : PySem.W.findIn K (.ref C) "__setattr__" = some (some (.builtin "object.__setattr__"))
theorem Cls.get {K : PySem.W.Frag} {C : Addr} (c : Cls K C) (f : Str) : PySem.W.plainGet K C f = true := c.pg
set_option genInjectivity false in
set_option genSizeOf false in
structure Con (K : PySem.W.Frag) (C : Addr) (f : Str) (v : V) (u : Value) : Prop where
  at_ : PySem.W.findIn K (.ref C) f = some (some u)
  rel : RelV v u
  get : PySem.W.specialIn K u "__get__" = some none
  cp : PySem.W.copiedNames.contains f = false
set_option genInjectivity false in
set_option genSizeOf false in
structure Meth (K : PySem.W.Frag) (C : Addr) (m : Str) (f : Addr) : Prop where
  at_ : PySem.W.findIn K (.ref C) m = some (some (.ref f))
  fn : PySem.W.isFn K (.ref f) = true
  kp : PySem.W.keepIn K (.ref f) = true

section
variable {X : Cx} {pins : List (Addr × Obj)} {σ : St} {H : Hp} {s : Shared} {a C dx : Addr} {fs : List (Str × V)} {f : Str} {v : V} {A : Around} {E : Value → Shared → Prop}

end

section
variable {X : Cx} {o e value : Expr} {f : Str} {pos pos' tpos : Pos} {ta tv : TE}
end

section
variable {X : Cx} {pins : List (Addr × Obj)} {σ : St} {H : Hp} {s : Shared} {A : Around} {E : Value → Shared → Prop} {Q : Value → Shared → Prop} {c : Value} {b : Bool}
inductive TyOf (K : PySem.W.Frag) (H : Hp) : V → Value → Prop where
  | non : TyOf K H .non (.type "NoneType")
  | bl (x : Bool) : TyOf K H (.bl x) (.type "bool")
  | int (i : Int) : TyOf K H (.int i) (.type "int")
  | str (x : Str) : TyOf K H (.str x) (.type "str")
  | flt (x : UInt64) : TyOf K H (.flt x) (.type "float")
  | lst {a : Addr} {xs : List V} (e : H a = some (.lst xs)) : TyOf K H (.ref a) (.type "list")
  | frz {a : Addr} {o : Obj} {xs : List V} (e : H a = some (.frz o (.lst xs))) : TyOf K H (.ref a) (.type "list")
  | tup {a : Addr} {xs : List V} (e : H a = some (.tup xs)) : TyOf K H (.ref a) (.type "tuple")
  | dK {a : Addr} {kvs : List (Key × V)} (e : H a = some (.dK kvs)) : TyOf K H (.ref a) (.type "dict")
  | dT {a : Addr} {kvs : List (List Key × V)} (e : H a = some (.dT kvs)) : TyOf K H (.ref a) (.type "dict")
  | ins {a C dx : Addr} {fs : List (Str × V)} (e : H a = some (.ins C dx fs)) (cl : Cls K C) (ha : PySem.W.findIn K (.ref C) "__class__" = some (some (.builtin "object.__class__")))
      (hn : PySem.W.specialIn K (.builtin "object.__class__") "__get__" = some (some (.builtin "getset_descriptor.__get__"))) (htk : PySem.W.takesIn K (.builtin "object.__class__") = some true)
      (hm : PySem.W.mroIn K C (.type "object") = some true) : TyOf K H (.ref a) (.ref C)
theorem isinst_ok {x : V} {u t : Value} (I : Inv X pins σ H s) (rx : RelV x u) (ty : TyOf X.K H x t) (e : PySem.W.kitOne X.K t c = some b) (h : ∀ tk, Q (.bool b) { s with toks := tk }) :
    wpAny (model X.prog X.w) A (call (.builtin "isinstance") [u, c]) Q E s := by
  cases ty with
  | non => cases (show u = Value.none from rx); exact PySem.W.kia_one PySem.W.kitx_none I.kIn True.intro e (fun z => nomatch z) h
  | bl y => cases (show u = Value.bool y from rx); exact PySem.W.kia_one PySem.W.kitx_bool I.kIn True.intro e (fun z => nomatch z) h
  | int i => obtain ⟨t, q⟩ := (show ∃ t, u = Value.int i t from rx); cases q; exact PySem.W.kia_one PySem.W.kitx_int I.kIn True.intro e (fun z => nomatch z) h
  | str y => obtain ⟨t, q⟩ := (show ∃ t, u = Value.str y t from rx); cases q; exact PySem.W.kia_one PySem.W.kitx_str I.kIn True.intro e (fun z => nomatch z) h
  | flt y => obtain ⟨t, q⟩ := (show ∃ t, u = Value.float y t from rx); cases q; exact PySem.W.kia_one PySem.W.kitx_float I.kIn True.intro e (fun z => nomatch z) h
  | @lst a xs ea =>
    cases (show u = Value.ref a from rx)
    obtain ⟨_, _, n, _, h1⟩ := (show ObjOk X.prog X.w H s.heap a (.lst xs) from I.hok a _ ea)
    exact PySem.W.kia_one PySem.W.kitx_list I.kIn ⟨_, h1, rfl⟩ e (fun z => nomatch z) h
  | @frz a ob xs ea =>
    cases (show u = Value.ref a from rx)
    obtain ⟨_, _, _, n, _, h1⟩ := (show ObjOk X.prog X.w H s.heap a (.frz ob (.lst xs)) from I.hok a _ ea)
    exact PySem.W.kia_one PySem.W.kitx_list I.kIn ⟨_, h1, rfl⟩ e (fun z => nomatch z) h
  | @tup a xs ea =>
    cases (show u = Value.ref a from rx)
    obtain ⟨_, _, _, p⟩ := (show ObjOk X.prog X.w H s.heap a (.tup xs) from I.hok a _ ea)
    obtain ⟨o, h1, h2, _⟩ := p
    exact PySem.W.kia_one PySem.W.kitx_tuple I.kIn ⟨o, h1, h2⟩ e (fun z => nomatch z) h
  | @dK a kvs ea =>
    cases (show u = Value.ref a from rx)
    obtain ⟨_, _, vs, _, p⟩ := (show ObjOk X.prog X.w H s.heap a (.dK kvs) from I.hok a _ ea)
    obtain ⟨o, es, ep, h1, h2, _⟩ := p
    exact PySem.W.kia_one PySem.W.kitx_dict I.kIn ⟨o, h1, h2.1⟩ e (fun z => nomatch z) h
  | @dT a kvs ea =>
    cases (show u = Value.ref a from rx)
    obtain ⟨_, _, xs, _, o, es, ep, h1, h2, _⟩ := (show ObjOk X.prog X.w H s.heap a (.dT kvs) from I.hok a _ ea)
    exact PySem.W.kia_one PySem.W.kitx_dict I.kIn ⟨o, h1, h2.1⟩ e (fun z => nomatch z) h
  | @ins a C dx fs ea cl ha hn htk hm =>
    cases (show u = Value.ref a from rx)
    obtain ⟨mA, O, _⟩ := ins_get I.hok ea
    obtain ⟨od, J, _⟩ := O.look
    exact PySem.W.kia_one (PySem.W.kitx_own (cl.get _) cl.hd ha hn htk hm) I.kIn J e (fun z => nomatch z) h
end
end Internal

namespace Internal
open PySem PySem.Spec PyProof.Rows

set_option genInjectivity false in
set_option genSizeOf false in
structure Room (k : Nat) (A : Around) : Prop where
  hd : A.handled = none
  dp : A.depth + 3 * k + 5 < recursionLimit
  un : A.units + 16 * k + 200 < cLine
theorem Room.mono {j k : Nat} {A : Around} (r : Room k A) (h : j ≤ k) : Room j A := ⟨r.hd, by have := r.dp; omega, by have := r.un; omega⟩
theorem Room.deeper {k : Nat} {A : Around} (r : Room (k + 1) A) (env : Env) : Room k (A.deeper env) :=
  ⟨r.hd, by have := r.dp; show A.depth + 1 + 3 * k + 5 < _; omega, by have := r.un; show A.units + 3 + 16 * k + 200 < _; omega⟩
theorem Room.depth {k : Nat} {A : Around} (r : Room k A) : A.depth < recursionLimit := by have := r.dp; omega
theorem Room.units {k : Nat} {A : Around} (r : Room k A) : A.units + 64 < cLine := by have := r.un; omega
noncomputable abbrev tNil : TA := fun _ H Q => Q [] H
noncomputable abbrev tCons (ta : TE) (tr : TA) : TA := fun σ H Q => ta σ H fun x H1 => tr σ H1 fun xs H2 => Q (x :: xs) H2
section
variable {X : Cx} {e : Expr} {es : List Expr} {te : TE} {t : TA} {pos : Pos}
theorem pa_nil : PA X [] tNil := fun _ _ _ _ H Q I h => Calls.spliced_nil ⟨[], H, I, .nil, h⟩
theorem pa_cons (ha : PE X e te) (hr : PA X es t) (hs : autoParam (starEach (e :: es) X.env = (false, eval e X.env) :: starEach es X.env) Internal.aut2._auto_1) : PA X (e :: es) (tCons te t) := by
  intro pos pins s σ H Q I h
  rw [hs]
  show wpAny _ _ (spliced ((false, eval e X.env) :: backTo pos (starEach es X.env))) _ _ s
  refine Calls.spliced_cons (thn (ha pins s σ H _ I h) fun u s1 zz => ?_)
  obtain ⟨x, H1, I1, r1, q1⟩ := zz
  exact thn (hr pos pins s1 σ H1 _ I1 q1) fun us s2 ⟨xs, H2, I2, r2, q2⟩ => ⟨x :: xs, H2, I2, .cons r1 r2, q2⟩

noncomputable def tTup (t : TA) : TE := fun σ H Q => t σ H fun xs H1 => xs.length ≤ sizeLine ∧ ∀ p, H1 p = none → Q (.ref p) (upd H1 p (.tup xs))
noncomputable def tLst (t : TA) : TE := fun σ H Q => t σ H fun xs H1 => xs.length ≤ sizeLine ∧ ∀ p, H1 p = none → Q (.ref p) (upd H1 p (.lst xs))
theorem pe_tup {x1} (h : PA X es t) : PE X (.Tuple es x1 pos) (tTup t) := by
  intro pins s σ H Q I hq
  refine wpAny_Tuple_spliced (thn (h pos pins s σ H _ I hq) fun us s1 ⟨xs, H1, I1, r, z, q⟩ => ⟨by rw [← r.length]; exact z, ?_⟩)
  have hf : H1 s1.heap.objs.size = none := I1.hok.fresh (Nat.le_refl _)
  refine ⟨.ref s1.heap.objs.size, upd H1 s1.heap.objs.size (.tup xs), I1.laid (t' := s1.toks) (fun b u e => Heap.get?_push_of_some _ e) (Nat.le_refl _) ?_, rfl, q _ hf⟩
  exact ⟨z, us, r, ⟨_, Heap.get?_push_size _ rfl, rfl, _, rfl⟩⟩
theorem pe_lst (h : PA X es t) : PE X (.List es pos) (tLst t) := by
  intro pins s σ H Q I hq
  refine wpAny_List_spliced (thn (h pos pins s σ H _ I hq) fun us s1 ⟨xs, H1, I1, r, z, q⟩ => ⟨by rw [← r.length]; exact z, ?_⟩)
  have hf : H1 s1.heap.objs.size = none := I1.hok.fresh (Nat.le_refl _)
  refine ⟨.ref s1.heap.objs.size, upd H1 s1.heap.objs.size (.lst xs), I1.laid (t' := s1.toks) (fun b u e => Heap.get?_push_of_some _ e) (Nat.le_refl _) ?_, rfl, q _ hf⟩
  exact ⟨z, us, 0, r, Heap.get?_push_size _ rfl⟩
end

noncomputable abbrev Sp := List V → Hp → VK → XK → Prop
noncomputable abbrev CXT := List Env → Hp → Shared → XK → Value → Shared → Prop

set_option genInjectivity false in
set_option genSizeOf false in
structure Env0 (P : Program) (w : World) (K : PySem.W.Frag) (mg : Str → Option Value) (base : Heap) (A : Around) (outer : List Env) (s : Shared) (H : Hp) : Prop where
  frames : A.frames = some outer
  mod : Mod K mg base
  bs : ∀ b o, base.get? b = some o → s.heap.get? b = some o ∧ H b = none
  bsz : base.objs.size ≤ s.heap.objs.size
  funs : s.heap.FunFrames base outer
  frf : ∀ b ∈ frs outer, H b = none
  hok : HOk P w H s.heap
  bare : AllBare s.gens
noncomputable def CE (outer : List Env) (P : Program) (w : World) (H : Hp) (s : Shared) (Q : VK) (u : Value) (s' : Shared) : Prop :=
  ∃ v H', s'.os = s.os ∧ AllBare s'.gens ∧ Un (frs outer) [] H H' s.heap s'.heap ∧ HOk P w H' s'.heap ∧ RelV v u ∧ Q v H'
noncomputable def CR (CX : CXT) (outer : List Env) (P : Program) (w : World) (H : Hp) (s : Shared) (Q : VK) (E : XK) (r : Result) (s' : Shared) : Prop :=
  match r with
  | .ok (.ret u) => CE outer P w H s Q u s'
  | .ok _ => False
  | .error e => CX outer H s E e s'
set_option genInjectivity false in
set_option genSizeOf false in
structure FnOk (P : Program) (w : World) (K : PySem.W.Frag) (mg : Str → Option Value) (base : Heap) (CX : CXT) (k : Nat) (f : Addr) (fd : FuncData) (ps : List Str) (sp : Sp) : Prop where
  len : ∀ vs H Q E, sp vs H Q E → vs.length = ps.length
  run : ∀ (A : Around) (outer : List Env) (s : Shared) (H : Hp) (args : Args) (us : List Value) (vs : List V) (Q : VK) (E : XK), Room k A → Env0 P w K mg base A outer s H → BindsTo s fd args (ps.zip us) → Vals vs us → sp vs H Q E →
    codeAny (model P w) A (.call (.ref f) args) (CR CX outer P w H s Q E) s
section
variable {X : Cx} {pins : List (Addr × Obj)} {σ : St} {H : Hp} {s s' : Shared}
theorem Inv.env0 (I : Inv X pins σ H s) : Env0 X.prog X.w X.K X.mg X.base X.A X.stack s H :=
  ⟨I.ok.frames, I.ok.mod, I.bs, Nat.le_trans I.ok.bsz I.sz, I.stack, I.stkFree, I.hok, I.bare⟩
theorem Inv.after {Q : VK} {u : Value} (I : Inv X pins σ H s) (h : CE X.stack X.prog X.w H s Q u s') : EP X pins σ Q u s' := by
  obtain ⟨v, H', os, bare, un, hok, r, q⟩ := h
  obtain ⟨hh, g, d, t, os'⟩ := s'
  obtain rfl : os' = s.os := os
  exact ⟨v, H', I.call (h' := hh) (g' := g) (d' := d) (t' := t) (ch := []) un hok bare (fun b z => absurd z (by simp)), r, q⟩
end

noncomputable def tCall (sp : Sp) (dvs : List V) (E : XK) (t : TA) : TE := fun σ H Q => t σ H fun vs H1 => sp (vs ++ dvs) H1 Q E
noncomputable def Binds (K : PySem.W.Frag) (fd : FuncData) (ps : List Str) (ds : List Value) : Prop :=
  ∀ (s : Shared) (us : List Value), K.In s.heap → (us ++ ds).length = ps.length → BindsTo s fd ⟨us, []⟩ (ps.zip (us ++ ds))
theorem Binds.all {K : PySem.W.Frag} {fd : FuncData} {ps : List Str} (h : ∀ us : List Value, us.length = ps.length → bindArgs fd ⟨us, []⟩ = pure (ps.zip us)) : Binds K fd ps [] := fun s us _ hl => by
  rw [List.append_nil] at hl ⊢
  exact .of_eq (h us hl)

noncomputable def Passes (CX : CXT) (X : Cx) (E : XK) : Prop := ∀ (pins : List (Addr × Obj)) (σ : St) (H : Hp) (s : Shared) (e : Value) (s' : Shared), Inv X pins σ H s → CX X.stack H s E e s' → X.xe e s'

section
variable {X : Cx} {CX : CXT} {k : Nat} {f C : Addr} {fd : FuncData} {ps : List Str} {sp : Sp} {dvs : List V} {ds : List Value} {E : XK} {x m : Str} {p pos apos : Pos} {e o : Expr} {es : List Expr} {ta : TE} {t : TA}

theorem run_fn {pins : List (Addr × Obj)} {σ : St} {H : Hp} {s : Shared} {Q : VK} {us : List Value} {vs : List V} (F : FnOk X.prog X.w X.K X.mg X.base CX k f fd ps sp) (hr : Room k X.A) (hb : Binds X.K fd ps ds) (hd : Vals dvs ds) (hx : Passes CX X E)
    (I : Inv X pins σ H s) (r : Vals vs us) (h : sp (vs ++ dvs) H Q E) : wpAny (model X.prog X.w) X.A (call (.ref f) us) (EP X pins σ Q) X.xe s := by
  have r2 : Vals (vs ++ dvs) (us ++ ds) := r.append hd
  have hl : (us ++ ds).length = ps.length := by rw [← r2.length]; exact F.len _ _ _ _ h
  refine wpAny_call (codeAny_mono (F.run X.A X.stack s H ⟨us, []⟩ (us ++ ds) (vs ++ dvs) Q E hr I.env0 (hb s us I.kIn hl) r2 h) fun r s' hq => ?_)
  cases r with
  | error e => exact hx pins σ H s e s' I hq
  | ok fl =>
    cases fl with
    | ret u => exact I.after hq
    | next => exact False.elim hq
    | brk => exact False.elim hq
    | cont => exact False.elim hq

theorem pe_call (F : FnOk X.prog X.w X.K X.mg X.base CX k f fd ps sp) (hr : Room k X.A) (hg : Gl X x) (hm : X.mg x = some (.ref f)) (hk : PySem.W.keepIn X.K (.ref f) = true) (hb : Binds X.K fd ps ds) (hd : Vals dvs ds) (hx : Passes CX X E)
    (ha : PA X (e :: es) t) (hdb : autoParam ((x == ("__debug__" : Str)) = false) Internal.aut1._auto_1) (he : autoParam (starEach (e :: es) X.env = (false, eval e X.env) :: starEach es X.env) Internal.aut2._auto_1) (hpl : autoParam ((backTo pos (starEach es X.env)).any (·.1) = false) Internal.aut2._auto_1) :
    PE X (.Call (.Name x p) (e :: es) [] pos) (tCall sp dvs E t) := by
  intro pins s σ H Q I h
  refine wpAny_Call_Name_kw (ld_glob I hg hm ?_ hdb)
  refine PySem.W.callWith_K (h₀ := X.base) I.ok.mod.kin hk (thn (ha pos pins s σ H _ I h) fun us s1 ⟨vs, H1, I1, r, q⟩ => ⟨I1.kIn, ?_⟩) he hpl
  exact run_fn F hr hb hd hx I1 r q
set_option genInjectivity false in
set_option genSizeOf false in
structure Mk (K : PySem.W.Frag) (C f : Addr) : Prop where
  makes : PySem.W.makesIn K C = true
  init : PySem.W.findIn K (.ref C) "__init__" = some (some (.ref f))
  fn : PySem.W.isFn K (.ref f) = true
  kp : PySem.W.keepIn K (.ref C) = true

end

section
variable {X : Cx} {CX : CXT} {k : Nat} {f C : Addr} {fd : FuncData} {ps ks : List Str} {sp : Sp} {E : XK} {x m : Str} {p pos apos kpos : Pos} {e o : Expr} {es : List Expr} {kws : List Keyword} {te ta : TE} {t tk : TA} {nm : Option Str}
set_option genInjectivity false in
set_option genSizeOf false in
structure KBinds (K : PySem.W.Frag) (fd : FuncData) (ps ks : List Str) (g : List Value → List Value → List Value) (gV : List V → List V → List V) : Prop where
  to : ∀ (s : Shared) (us ws : List Value), K.In s.heap → (g us ws).length = ps.length → BindsTo s fd ⟨us, ks.zip ws⟩ (ps.zip (g us ws))
  rel : ∀ {vs : List V} {us : List Value} {zs : List V} {ws : List Value}, Vals vs us → Vals zs ws → Vals (gV vs zs) (g us ws)
variable {g : List Value → List Value → List Value} {gV : List V → List V → List V}
end

set_option genInjectivity false in
set_option genSizeOf false in
structure FnScope (N P : List Str) (sc : Scope) : Prop where
  kind : sc.kind = .function
  co : sc.isCoroutine = false
  gen : sc.isGenerator = false
  nd : N.Nodup
  pre : N.take P.length = P
  par : ∀ x ∈ P, sc.names.lookup x = some .local ∨ sc.names.lookup x = some .cell
  nofree : ∀ y ∈ sc.names, y.2 ≠ .free

theorem bindL_out {kindOf : Str → Option NameKind} {x : Str} : ∀ {binds : List (Str × Value)} {m : Str → Option Value}, (∀ v, (x, v) ∉ binds) → bindL kindOf binds m x = m x
  | [], _, _ => rfl
  | (n, v) :: r, m, h => by
    unfold bindL
    rw [bindL_out fun w hw => h w (List.mem_cons_of_mem _ hw)]
    split
    · have : x ≠ n := by rintro rfl; exact h v List.mem_cons_self
      simp [this]
    · rfl
theorem bindC_out {kindOf : Str → Option NameKind} {x : Str} : ∀ {binds : List (Str × Value)} {m : Str → Option Value}, (∀ v, (x, v) ∉ binds) → bindC kindOf binds m x = m x
  | [], _, _ => rfl
  | (n, v) :: r, m, h => by
    unfold bindC
    rw [bindC_out fun w hw => h w (List.mem_cons_of_mem _ hw)]
    split
    · rfl
    · have : x ≠ n := by rintro rfl; exact h v List.mem_cons_self
      simp [this]
theorem bindL_get {kindOf : Str → Option NameKind} {x : Str} {v : Value} : ∀ {P : List Str} {vs : List Value} {i : Nat} {m : Str → Option Value}, P.Nodup → P[i]? = some x → vs[i]? = some v → kindOf x = some .local →
    bindL kindOf (P.zip vs) m x = some v
  | [], _, _, _, _, h, _, _ => by simp at h
  | _ :: _, [], _, _, _, _, h, _ => by simp at h
  | p :: P, w :: vs, 0, m, nd, h1, h2, hk => by
    simp at h1 h2; subst h1; subst h2
    show bindL kindOf ((p, w) :: P.zip vs) m p = _
    unfold bindL
    rw [bindL_out fun v hv => (List.nodup_cons.mp nd).1 (List.of_mem_zip hv).1, if_pos hk]
    simp
  | p :: P, w :: vs, i + 1, m, nd, h1, h2, hk => by
    show bindL kindOf ((p, w) :: P.zip vs) m x = _
    unfold bindL
    exact bindL_get (i := i) (List.nodup_cons.mp nd).2 (by simpa using h1) (by simpa using h2) hk
theorem bindC_get {kindOf : Str → Option NameKind} {x : Str} {v : Value} : ∀ {P : List Str} {vs : List Value} {i : Nat} {m : Str → Option Value}, P.Nodup → P[i]? = some x → vs[i]? = some v → kindOf x ≠ some .local →
    bindC kindOf (P.zip vs) m x = some v
  | [], _, _, _, _, h, _, _ => by simp at h
  | _ :: _, [], _, _, _, _, h, _ => by simp at h
  | p :: P, w :: vs, 0, m, nd, h1, h2, hk => by
    simp at h1 h2; subst h1; subst h2
    show bindC kindOf ((p, w) :: P.zip vs) m p = _
    unfold bindC
    rw [bindC_out fun v hv => (List.nodup_cons.mp nd).1 (List.of_mem_zip hv).1, if_neg hk]
    simp
  | p :: P, w :: vs, i + 1, m, nd, h1, h2, hk => by
    show bindC kindOf ((p, w) :: P.zip vs) m x = _
    unfold bindC
    exact bindC_get (i := i) (List.nodup_cons.mp nd).2 (by simpa using h1) (by simpa using h2) hk

noncomputable def start (N : List Str) (vs : List V) : St := vs.map some ++ List.replicate (N.length - vs.length) none

noncomputable def cxOf (CX : CXT) (P : Program) (w : World) (K : PySem.W.Frag) (mg : Str → Option Value) (base : Heap) (N : List Str) (qual : Str) (scope : Scope) (f : Addr) (cd : Value) (A : Around) (outer : List Env) (s : Shared) (H : Hp) (E : XK) : Cx where
  prog := P
  w := w
  K := K
  mg := mg
  base := base
  A := A.deeper (envOfC qual scope s.heap.objs.size f cd)
  N := N
  s₀ := s
  H₀ := H
  env := envOfC qual scope s.heap.objs.size f cd
  outer := outer
  stack := envOfC qual scope s.heap.objs.size f cd :: outer
  ex := []
  calm := true
  fn := fun _ => true
  pn := []
  xe := fun e s' => wpAny (model P w) (A.deeper (envOfC qual scope s.heap.objs.size f cd)) (leaving (envOfC qual scope s.heap.objs.size f cd) e) (fun _ s'' => CX outer H s E e s'') (fun e' s'' => CX outer H s E e' s'') s'

theorem cell_has {sc : Scope} {n : Nat} {x : Str} (h : sc.names.lookup x = some .cell) : ∃ c, (cellsFrom n sc.names []).lookup x = some c := by
  have q := PySem.W.cellsFrom_some sc.names n [] (.inl h)
  exact Option.isSome_iff_exists.mp q

theorem inv_start {CX : CXT} {P : Program} {w : World} {K : PySem.W.Frag} {mg : Str → Option Value} {base : Heap} {N ps : List Str} {qual : Str} {scope : Scope} {f : Addr} {cd : Value} {A : Around} {outer : List Env} {s s1 : Shared} {H : Hp} {E : XK} {us : List Value} {vs : List V}
    (S : FnScope N ps scope) (hd : A.handled = none) (e0 : Env0 P w K mg base A outer s H) (hl : vs.length = ps.length) (r : Vals vs us)
    (x : InCallC s s.heap.objs.size (bindL (envOfC qual scope s.heap.objs.size f cd).kindOf (ps.zip us) fun _ => none) (cellsFrom (s.heap.objs.size + 1) scope.names []) (bindC (envOfC qual scope s.heap.objs.size f cd).kindOf (ps.zip us) fun _ => none) s1) :
    Inv (cxOf CX P w K mg base N qual scope f cd A outer s H E) [] (start N vs) H s1 := by
  have hpl : ps.length ≤ N.length := by have := congrArg List.length S.pre; rw [List.length_take] at this; omega
  obtain ⟨h1, tk, rfl, hk⟩ := x.done
  have noA : ∀ b : Addr, b ∉ (cxOf CX P w K mg base N qual scope f cd A outer s H E).ex := fun b z => absurd (show b ∈ ([] : List Addr) from z) (by simp)
  refine ⟨⟨e0.mod, S.kind, rfl, rfl, Nat.le_refl _, fun y z c h1 h2 => ?_, fun y hy => ?_, fun y c _ h => ?_, fun _ => hd, Around.frames_deeper e0.frames, .inr ⟨rfl, rfl⟩, fun b z => absurd z (noA b), e0.bs, e0.bsz, fun b _ _ => noA b, fun b z => absurd z (noA b), e0.funs, e0.frf⟩,
    rfl, e0.bare, Un.kept hk, ⟨_, x.toInCall.ns, fun i y v h1 h2 h3 => ?_⟩, fun y c h => ⟨_, x.cell y c h⟩, e0.hok.fresh (Nat.le_refl _), fun y c h => ?_, fun p hp => absurd (show p ∈ ([] : List (Addr × Obj)) from hp) (by simp), e0.hok.kept hk, ?_⟩
  · exact name_of_addr x.apart (PySem.mem_of_lookup h1) (PySem.mem_of_lookup h2)
  · have hy : scope.names.lookup y = some .cell ∨ scope.names.lookup y = some .free := hy
    rcases hy with hy | hy
    · exact cell_has hy
    · exact absurd rfl (S.nofree _ (PySem.mem_of_lookup hy))
  · exact Nat.le_of_lt (x.above y c (PySem.mem_of_lookup h))
  · have hi : i < vs.length := by
      unfold start at h2
      by_cases hi : i < vs.length
      · exact hi
      · rw [List.getElem?_append_right (by simpa using hi)] at h2
        rw [List.getElem?_replicate] at h2
        split at h2 <;> cases h2
    have ha : vs[i]? = some v := by
      unfold start at h2
      rw [List.getElem?_append_left (by simpa using hi), List.getElem?_map] at h2
      cases e : vs[i]? with
      | none => rw [e] at h2; cases h2
      | some a => rw [e] at h2; cases h2; rfl
    obtain ⟨u, hu, rv⟩ := r.get ha
    have hp : ps[i]? = some y := by
      rw [← S.pre, List.getElem?_take_of_lt (by omega)]; exact h1
    have ndP : ps.Nodup := by rw [← S.pre]; exact S.nd.sublist (List.take_sublist _ _)
    refine ⟨u, rv, ?_⟩
    rcases S.par y (List.mem_of_getElem? hp) with k | k
    · exact .inl ⟨k, bindL_get ndP hp hu k⟩
    · obtain ⟨c, e⟩ := cell_has (n := s.heap.objs.size + 1) k
      refine .inr ⟨.inl k, c, e, ?_⟩
      have q := x.cell y c e
      rw [bindC_get ndP hp hu (by show scope.names.lookup y ≠ _; rw [k]; decide)] at q
      exact q
  · exact e0.hok.fresh (Nat.le_of_lt (x.above y c (PySem.mem_of_lookup h)))
  · unfold start
    show _ = N.length
    rw [List.length_append, List.length_map, List.length_replicate]
    omega

theorem fn_of {CX : CXT} {P : Program} {w : World} {K : PySem.W.Frag} {mg : Str → Option Value} {base : Heap} {k : Nat} {f : Addr} {name qual : Str} {params : Arguments} {body : List Stmt} {scope : Scope} {dV kV doc pm cdv ct oc : Value} {an od : Option Addr}
    {osl : Array (Option Value)} {N ps : List Str} {sp : Sp} (lk : K.lookup f = some ⟨oc, od, .func (PySem.W.fnOf name qual params body scope dV kV doc pm an cdv ct), osl⟩) (hcd : PySem.W.codeIn K cdv qual = true) (S : FnScope N ps scope)
    (len : ∀ vs H Q E, sp vs H Q E → vs.length = ps.length)
    (hbody : ∀ (A : Around) (outer : List Env) (s : Shared) (H : Hp) (vs : List V) (Q : VK) (E : XK), Room k (A.deeper (envOfC qual scope s.heap.objs.size f cdv)) → sp vs H Q E →
      ∃ t, PSs (cxOf CX P w K mg base N qual scope f cdv A outer s H E) body t ∧ t { nx := fun _ H' => Q .non H', rt := Q } (start N vs) H) :
    FnOk P w K mg base CX (k + 1) f (PySem.W.fnOf name qual params body scope dV kV doc pm an cdv ct) ps sp := by
  refine ⟨len, fun A outer s H args us vs Q E hr e0 hb r hsp => ?_⟩
  have hl := len _ _ _ _ hsp
  have KX : K.In s.heap := e0.mod.kin.keeps fun b o e => (e0.bs b o e).1
  have lim : s.heap.NoLimit := e0.mod.nolimit.keeps fun b o e => (e0.bs b o e).1
  have hkind : ∀ y ∈ ps.zip us, scope.names.lookup y.1 = some .local ∨ (scope.names.lookup y.1 = some .cell ∧ ((cellsFrom (s.heap.objs.size + 1) scope.names []).lookup y.1).isSome = true) := fun ⟨n, v⟩ hy => by
    rcases S.par n (List.of_mem_zip hy).1 with q | q
    · exact .inl q
    · exact .inr ⟨q, PySem.W.cellsFrom_some _ _ _ (.inl q)⟩
  refine codeAny_call_function hr.depth (KX _ _ lk) rfl S.co S.gen rfl (PySem.W.codeRec_of KX hcd) (hb _ _ _ _ ?_)
  refine wpAny_newFunctionEnv_cells S.kind hkind fun env he s1 x => ?_
  subst he
  refine ⟨lim.keeps x.toInCall.keep, codeAny_func ?_⟩
  obtain ⟨t, ht, hq⟩ := hbody A outer s H vs Q E (hr.deeper _) hsp
  have I : Inv (cxOf CX P w K mg base N qual scope f cdv A outer s H E) [] (start N vs) H s1 := inv_start S hr.hd e0 hl r x
  refine wpAny_mono (ht [] s1 (start N vs) H _ I hq) (fun fl s' hs => ?_) fun e s' hs => hs
  have fin : ∀ {σ' : St} {H' : Hp} {v : V} {u : Value}, Inv (cxOf CX P w K mg base N qual scope f cdv A outer s H E) [] σ' H' s' → RelV v u → Q v H' → CE outer P w H s Q u s' :=
    fun {σ' H' v u} J rv q => ⟨v, H', J.os, J.bare, J.base, J.hok, rv, q⟩
  cases fl with
  | ret u =>
    obtain ⟨v, σ', H', J, rv, q⟩ := hs
    exact fin J rv q
  | next =>
    obtain ⟨σ', H', J, q⟩ := hs
    exact fin (v := V.non) (u := Value.none) J rfl q
  | brk =>
    obtain ⟨_, _, _, q⟩ := hs
    exact False.elim q
  | cont =>
    obtain ⟨_, _, _, q⟩ := hs
    exact False.elim q
end Internal

namespace Internal
open PySem PySem.Spec PyProof.Rows
section
variable {X : Cx} {x : Str} {p pos : Pos} {e : Expr} {es : List Expr} {t : TA} {id T : String} {r : List V → Hp → VK → Prop}

noncomputable abbrev tCB (r : List V → Hp → VK → Prop) (t : TA) : TE := fun σ H Q => t σ H fun vs H1 => r vs H1 Q
theorem pe_callB (hc : CallR X (.builtin id) r) (hg : Gl X x) (hm : X.mg x = none) (hv : bootBuiltins x = some (.builtin id)) (ha : PA X (e :: es) t) (hn : autoParam (x ≠ "__name__") Internal.aut1._auto_1) (hdb : autoParam ((x == ("__debug__" : Str)) = false) Internal.aut1._auto_1)
    (he : autoParam (starEach (e :: es) X.env = (false, eval e X.env) :: starEach es X.env) Internal.aut2._auto_1) (hpl : autoParam ((backTo pos (starEach es X.env)).any (·.1) = false) Internal.aut2._auto_1) : PE X (.Call (.Name x p) (e :: es) [] pos) (tCB r t) := by
  intro pins s σ H Q I h
  refine wpAny_Call_Name_kw (ld_blt I hg hm hv ?_ hn hdb)
  exact PyProof.Rows.callWith_builtin1 (thn (ha pos pins s σ H _ I h) fun us s1 ⟨vs, H1, I1, r1, q1⟩ => hc pins s1 σ H1 vs us Q I1 r1 q1) he hpl
theorem pe_callTy (hc : CallR X (.type T) r) (hg : Gl X x) (hm : X.mg x = none) (hv : bootBuiltins x = some (.type T)) (ha : PA X (e :: es) t) (hn : autoParam (x ≠ "__name__") Internal.aut1._auto_1) (hdb : autoParam ((x == ("__debug__" : Str)) = false) Internal.aut1._auto_1)
    (he : autoParam (starEach (e :: es) X.env = (false, eval e X.env) :: starEach es X.env) Internal.aut2._auto_1) (hpl : autoParam ((backTo pos (starEach es X.env)).any (·.1) = false) Internal.aut2._auto_1) : PE X (.Call (.Name x p) (e :: es) [] pos) (tCB r t) := by
  intro pins s σ H Q I h
  refine wpAny_Call_Name_kw (ld_blt I hg hm hv ?_ hn hdb)
  exact PyProof.Rows.callWith_type1 (thn (ha pos pins s σ H _ I h) fun us s1 ⟨vs, H1, I1, r1, q1⟩ => hc pins s1 σ H1 vs us Q I1 r1 q1) he hpl
end
end Internal

namespace HT
open PySem PyProof.Rows

section
open PySem.SeqAt
open PySem.AutoSeq1 (wpAny_loadPart')
open PySem.MeetsSeq PySem.MeetsSeq2 PySem.MeetsSeq3

end

section
variable {prog : Program} {w : World} {A : Around} {E : Value → Shared → Prop} {s : Shared}

theorem cat_tup {t b : Addr} {vs ws : List Value} {Q : Value → Shared → Prop} (ht : IsTup s.heap t vs.toArray) (hb : IsTup s.heap b ws.toArray) (hv : vs ≠ [])
    (h1 : ws = [] → Q (.ref t) s) (h2 : ws ≠ [] → Q (.ref s.heap.objs.size) { s with heap := s.heap.push { cls := .type "tuple", data := .seq (vs ++ ws).toArray } })
    (hsz : vs.length + ws.length ≤ sizeLine) : wpAny (model prog w) A (binaryOp .Add (.ref t) (.ref b)) Q E s := by
  obtain ⟨⟨cls, dd, data, sl⟩, ho, hc, n, hd⟩ := id ht
  obtain ⟨⟨cls2, dd2, data2, sl2⟩, ho2, hc2, n2, hd2⟩ := id hb
  simp only at hc hd hc2 hd2
  subst hc hd hc2 hd2
  have e : vs.toArray ++ ws.toArray = (vs ++ ws).toArray := by simp
  by_cases hw : ws = []
  · exact concat_meets ⟨_, ho, rfl⟩ ⟨_, ho2, rfl⟩ noFill_tuple_add seq_tuple_add PySem.F.slot_tuple_add PySem.F.entry_tuple_add (PySem.F.args_tuple_add_2 _ _)
      (tuple_addW1 t b vs.toArray ws.toArray n n2 dd dd2 sl sl2 (by simpa using hv) (by simp [hw])) ⟨ho, ho2, h1 hw⟩
  · refine concat_meets ⟨_, ho, rfl⟩ ⟨_, ho2, rfl⟩ noFill_tuple_add seq_tuple_add PySem.F.slot_tuple_add PySem.F.entry_tuple_add (PySem.F.args_tuple_add_2 _ _)
      (tuple_addW2 t b vs.toArray ws.toArray n n2 dd dd2 sl sl2 (by simpa using hv) (by simpa using hw) (by rw [List.size_toArray, List.size_toArray]; exact hsz)) ⟨ho, ho2, ?_⟩
    rw [e]
    exact h2 hw

noncomputable def sIx (n d : Nat) : Option Int → Nat
  | none => d
  | some v => if v < 0 then (v + (n : Int)).toNat else min v.toNat n
theorem sIx_none (n d : Nat) : sIx n d none = d := rfl
theorem sIx_nat (n d k : Nat) : sIx n d (some (k : Int)) = min k n := by
  show (if (k : Int) < 0 then ((k : Int) + (n : Int)).toNat else min (k : Int).toNat n) = min k n
  rw [if_neg (by omega), Int.toNat_natCast]
end
end HT

namespace Internal
open PySem PySem.Spec PyProof.Rows

noncomputable abbrev TO := St → Hp → (Option Int → Hp → Prop) → Prop
noncomputable def PO (X : Cx) (e : Option Expr) (t : TO) : Prop :=
  ∀ (pins : List (Addr × Obj)) (s : Shared) (σ : St) (H : Hp) (Q : Option Int → Hp → Prop), Inv X pins σ H s → t σ H Q →
    wpAny (model X.prog X.w) X.A (evalPart e X.env) (fun u s' => ∃ o H', Inv X pins σ H' s' ∧ IsPart u o ∧ Q o H') X.xe s
noncomputable abbrev tNoPart : TO := fun _ H Q => Q none H
noncomputable def tPart (t : TE) : TO := fun σ H Q => t σ H fun x H1 => ∃ i, x = .int i ∧ Q (some i) H1

section
variable {X : Cx} {e : Expr} {te : TE} {lo hi : Option Expr} {tl th : TO} {pos p2 : Pos}

theorem po_none : PO X none tNoPart := by
  intro pins s σ H Q I h
  rw [evalPart_none]
  exact wpAny_pure ⟨none, H, I, .none, h⟩
theorem po_some (h : PE X e te) : PO X (some e) (tPart te) := by
  intro pins s σ H Q I hw
  rw [evalPart_some]
  refine thn (h pins s σ H _ I hw) fun u s1 zz => ?_
  obtain ⟨x, H1, I1, r1, q1⟩ := zz
  obtain ⟨i, rfl, q⟩ := q1
  obtain ⟨t, rfl⟩ := r1
  exact ⟨some i, H1, I1, .int i t, q⟩

noncomputable def SlR (X : Cx) (r : V → Option Int → Option Int → Hp → VK → Prop) : Prop :=
  ∀ (pins : List (Addr × Obj)) (s : Shared) (σ : St) (H : Hp) (x : V) (v vl vu : Value) (lo hi : Option Int) (sl : Addr) (Q : VK), Inv X pins σ H s → RelV x v → s.heap.IsSliceOf sl vl vu .none → IsPart vl lo → IsPart vu hi → r x lo hi H Q →
    ∃ T id, typeLookup (.type T) "__getitem__" = pure (some (.builtin id)) ∧ s.TypeIs v T ∧ wpAny (model X.prog X.w) X.A (getItem v (.ref sl)) (EP X pins σ Q) X.xe s
noncomputable abbrev tSl (r : V → Option Int → Option Int → Hp → VK → Prop) (te : TE) (tl th : TO) : TE := fun σ H Q => te σ H fun x H1 => tl σ H1 fun l H2 => th σ H2 fun u H3 => r x l u H3 Q
theorem pe_slice {r : V → Option Int → Option Int → Hp → VK → Prop} (hr : SlR X r) (he : PE X e te) (hl : PO X lo tl) (hu : PO X hi th) : PE X (.Subscript e (.Slice lo hi none p2) pos) (tSl r te tl th) := by
  intro pins s σ H Q I h
  refine Subscript_ (thn (he pins s σ H _ I h) fun v s1 zz => ?_)
  obtain ⟨x, H1, I1, r1, q1⟩ := zz
  refine wpAny_Slice (thn (hl pins s1 σ H1 _ I1 q1) fun vl s2 ⟨l, H2, I2, pl, q2⟩ => thn (hu pins s2 σ H2 _ I2 q2) fun vu s3 zz => ?_)
  obtain ⟨u, H3, I3, pu, q3⟩ := zz
  rw [evalPart_none]
  refine wpAny_pure ?_
  have I4 : Inv X pins σ H3 { s3 with heap := s3.heap.push { cls := .type "slice", data := .fields #[vl, vu, .none] } } := I3.kept (t' := s3.toks) fun b ob q => Heap.get?_push_of_some _ q
  obtain ⟨T, id, hT, ht, hg⟩ := hr pins { s3 with heap := s3.heap.push { cls := .type "slice", data := .fields #[vl, vu, .none] } } σ H3 x v vl vu l u s3.heap.objs.size Q I4 r1 (Heap.IsSliceOf.new ..) pl pu q3
  show wpAny (model X.prog X.w) X.A (subscriptTail e (.Slice lo hi none p2) v (.ref s3.heap.objs.size)) (EP X pins σ Q) X.xe { s3 with heap := s3.heap.push { cls := .type "slice", data := .fields #[vl, vu, .none] } }
  exact tail_any (ops := [.ref s3.heap.objs.size, v]) ht hT hg (by with_unfolding_all rfl)

noncomputable def cutV (xs : List V) (lo hi : Option Int) : List V := (xs.drop (HT.sIx xs.length 0 lo)).take (HT.sIx xs.length xs.length hi - HT.sIx xs.length 0 lo)
theorem cutV_length (xs : List V) (lo hi : Option Int) : (cutV xs lo hi).length ≤ xs.length := by
  unfold cutV
  rw [List.length_take, List.length_drop]
  omega
noncomputable def rCatT (K : PySem.W.Frag) : R2 := fun x y H Q => ∃ a b xs ys, x = .ref a ∧ y = .ref b ∧ SqT K H a xs ∧ SqT K H b ys ∧ xs ≠ [] ∧ xs.length + ys.length ≤ sizeLine ∧
  (ys = [] → Q (.ref a) H) ∧ (ys ≠ [] → ∀ p, H p = none → Q (.ref p) (upd H p (.tup (xs ++ ys))))
theorem Vals.nil_iff {xs : List V} {us : List Value} (r : Vals xs us) : us = [] ↔ xs = [] := by
  cases r with
  | nil => simp
  | cons _ _ => simp
theorem op_catT : OpR X (binaryOp .Add) (rCatT X.K) := by
  intro pins s σ H x y v u Q I rx ry h
  obtain ⟨a, b, xs, ys, rfl, rfl, ha, hb, hx, hz, q1, q2⟩ := h
  cases rx
  cases ry
  obtain ⟨its, r1, p1, _⟩ := I.tuple ha
  obtain ⟨its2, r2, p2, _⟩ := I.tuple hb
  refine HT.cat_tup p1 p2 (fun z => hx (r1.nil_iff.mp z)) (fun z => ⟨.ref a, H, I, rfl, q1 (r2.nil_iff.mp z)⟩) (fun z => ?_) (by rw [← r1.length, ← r2.length]; exact hz)
  refine ⟨.ref s.heap.objs.size, _, I.laid (t' := s.toks) (o := .tup (xs ++ ys)) (fun b ob q => Heap.get?_push_of_some _ q) (Nat.le_refl _) ?_, rfl, q2 (fun w => z (r2.nil_iff.mpr w)) _ (I.hok.fresh (Nat.le_refl _))⟩
  exact ⟨by rw [List.length_append]; exact hz, _, r1.append r2, IsTup.new _ _⟩
end
end Internal

namespace Internal
open PySem PySem.Spec PyProof.Rows

noncomputable def ixN (n : Nat) (i : Int) : Option Nat := if 0 ≤ i then (if i < n then some i.toNat else none) else if -(n : Int) ≤ i then some (i + n).toNat else none
noncomputable def atI {α : Type} (xs : List α) (i : Int) : Option α := (ixN xs.length i).bind fun j => xs[j]?
theorem ixN_seq {n : Nat} {i : Int} {j : Nat} (h : ixN n i = some j) : seqIndex? i n = some j ∧ j < n ∧ -(n : Int) ≤ i ∧ i < n := by
  unfold ixN at h
  by_cases h0 : 0 ≤ i
  · rw [if_pos h0] at h
    by_cases h1 : i < n
    · rw [if_pos h1] at h
      have e : i.toNat = j := Option.some.inj h
      exact ⟨by rw [seqIndex_of h0 h1, e], by omega, by omega, h1⟩
    · rw [if_neg h1] at h; cases h
  · rw [if_neg h0] at h
    by_cases h1 : -(n : Int) ≤ i
    · rw [if_pos h1] at h
      have e : (i + n).toNat = j := Option.some.inj h
      exact ⟨by rw [seqIndex_neg (by omega) h1, e], by omega, h1, by omega⟩
    · rw [if_neg h1] at h; cases h
theorem atI_get {α : Type} {xs : List α} {i : Int} {v : α} (h : atI xs i = some v) : ∃ j, seqIndex? i xs.length = some j ∧ xs[j]? = some v ∧ j < xs.length ∧ -(xs.length : Int) ≤ i ∧ i < xs.length := by
  unfold atI at h
  cases e : ixN xs.length i with
  | none => rw [e] at h; cases h
  | some j =>
    rw [e] at h
    obtain ⟨h1, h2, h3, h4⟩ := ixN_seq e
    exact ⟨j, h1, h, h2, h3, h4⟩
theorem atI_nat {α : Type} {xs : List α} {j : Nat} {v : α} (h : xs[j]? = some v) : atI xs (j : Int) = some v := by
  have hj : j < xs.length := (List.getElem?_eq_some_iff.mp h).1
  have e : ixN xs.length (j : Int) = some j := by
    unfold ixN
    rw [if_pos (by omega), if_pos (by omega)]; simp
  unfold atI; rw [e]; exact h
noncomputable def PlainIx (b : Expr) : Prop := ∀ o i, subscripted b false o i = operate [o, i] (getItem o i)
noncomputable def IxR (X : Cx) (r : R2) : Prop :=
  ∀ (value slice : Expr) (pins : List (Addr × Obj)) (s : Shared) (σ : St) (H : Hp) (x y : V) (v u : Value) (Q : VK), Inv X pins σ H s → RelV x v → RelV y u → r x y H Q →
    subscripted slice false v u = operate [v, u] (getItem v u) → wpAny (model X.prog X.w) X.A (subscriptTail value slice v u) (EP X pins σ Q) X.xe s
noncomputable def MtR (X : Cx) (id : String) (r : V → List V → Hp → VK → Prop) : Prop :=
  ∀ (pins : List (Addr × Obj)) (s : Shared) (σ : St) (H : Hp) (x : V) (xs : List V) (v : Value) (us : List Value) (Q : VK), Inv X pins σ H s → RelV x v → Vals xs us → r x xs H Q →
    wpAny (model X.prog X.w) X.A (call (.builtin id) (v :: us)) (EP X pins σ Q) X.xe s
section
variable {X : Cx} {a b : Expr} {ta tb : TE} {pos : Pos}
theorem IxR.or {r r' : R2} (h : IxR X r) (h' : IxR X r') : IxR X (fun x y H Q => r x y H Q ∨ r' x y H Q) := by
  intro value slice pins s σ H x y v u Q I rx ry q hs
  rcases q with q | q
  · exact h value slice pins s σ H x y v u Q I rx ry q hs
  · exact h' value slice pins s σ H x y v u Q I rx ry q hs
theorem pe_ix {r : R2} (hr : IxR X r) (ha : PE X a ta) (hb : PE X b tb) (hs : PlainIx b) : PE X (.Subscript a b pos) (tOp r ta tb) := by
  intro pins s σ H Q I h
  exact Subscript_ (binT ha hb I h fun v u s2 x y H2 I2 rx ry q => hr a b pins s2 σ H2 x y v u Q I2 rx ry q (hs _ _))

noncomputable def rIxL (K : PySem.W.Frag) : R2 := fun x y H Q => ∃ p xs i v, x = .ref p ∧ y = .int i ∧ SqL K H p xs ∧ atI xs i = some v ∧ Q v H
noncomputable def rIxT (K : PySem.W.Frag) : R2 := fun x y H Q => ∃ p xs i v, x = .ref p ∧ y = .int i ∧ SqT K H p xs ∧ atI xs i = some v ∧ Q v H
noncomputable def rIxS : R2 := fun x y H Q => ∃ z i c, x = .str z ∧ y = .int i ∧ z.length ≤ sizeLine ∧ atI z.cps.toList i = some c ∧ Q (.str ⟨#[c]⟩) H
theorem ix_list : IxR X (rIxL X.K) := by
  intro value slice pins s σ H x y v u Q I rx ry h hs
  obtain ⟨p, xs, i, z, rfl, rfl, hq, he, q⟩ := h
  cases rx
  obtain ⟨t, rfl⟩ := ry
  obtain ⟨its, r, pl, hz⟩ := I.list hq
  obtain ⟨j, h1, h2, h3, h4, h5⟩ := atI_get he
  obtain ⟨w, ew, rw'⟩ := r.get h2
  have hl := r.length
  have hn := line63
  have fin : EP X pins σ Q w s := ⟨z, H, I, rw', q⟩
  by_cases h0 : 0 ≤ i
  · have hj : i.toNat = j := by
      rw [seqIndex_of h0 h5] at h1
      exact Option.some.inj h1
    exact item_listR pl.isList h0 (by omega) (by rw [hj]; simpa using ew) fin hs
  · have hj : (i + (its.toArray.size : Int)).toNat = j := by
      rw [seqIndex_neg (by omega) h4] at h1
      rw [List.size_toArray, ← hl]
      exact Option.some.inj h1
    exact subscriptTail_builtinR (x := w) pl.isList.typeIs slot_list_getitem.lookup
      (wpAny_getItem_list_neg (Q := fun r s' => r = w ∧ EP X pins σ Q r s') pl.isList (by omega) (by rw [List.size_toArray] <;> omega) (by omega) (by rw [hj]; simpa using ew) ⟨rfl, fin⟩) hs
theorem ix_tup : IxR X (rIxT X.K) := by
  intro value slice pins s σ H x y v u Q I rx ry h hs
  obtain ⟨p, xs, i, z, rfl, rfl, hq, he, q⟩ := h
  cases rx
  obtain ⟨t, rfl⟩ := ry
  obtain ⟨its, r, pl, hz⟩ := I.tuple hq
  obtain ⟨j, h1, h2, h3, h4, h5⟩ := atI_get he
  obtain ⟨w, ew, rw'⟩ := r.get h2
  have hl := r.length
  have hn := line63
  have fin : EP X pins σ Q w s := ⟨z, H, I, rw', q⟩
  exact subscriptTail_builtinR (x := w) pl.typeIs slot_tuple_getitem.lookup
    (getItem_tuple (j := j) (Q := fun r s' => r = w ∧ EP X pins σ Q r s') pl (by omega) (by omega) (by rw [List.size_toArray, ← hl]; exact h1) (by simpa using ew) ⟨rfl, fin⟩) hs
theorem ix_str : IxR X rIxS := by
  intro value slice pins s σ H x y v u Q I rx ry h hs
  obtain ⟨z, i, c, rfl, rfl, hz, he, q⟩ := h
  obtain ⟨t, rfl⟩ := rx
  obtain ⟨t', rfl⟩ := ry
  obtain ⟨j, h1, h2, h3, h4, h5⟩ := atI_get he
  have hl : z.cps.toList.length = z.length := by simp [Str.length]
  rw [hl] at h1 h4 h5
  have hn := line63
  exact tail_any (typeIs_str s z t) slot_str_getitem.lookup (getItem_str (c := c) (by
    have e1 : decide (i < -(2 ^ 63 : Int)) = false := decide_eq_false (by omega)
    have e2 : decide (i ≥ 2 ^ 63) = false := decide_eq_false (by omega)
    rw [e1, e2, Bool.or_false]) (by rw [h1]; simpa using h2) ⟨.str ⟨#[c]⟩, H, I.tok _, ⟨_, rfl⟩, q⟩) hs
noncomputable def rIx (K : PySem.W.Frag) : R2 := fun x y H Q => rIxL K x y H Q ∨ rIxT K x y H Q ∨ rIxS x y H Q
theorem ix_seq : IxR X (rIx X.K) := ix_list.or (ix_tup.or ix_str)

theorem mapSeq_set (its : List Value) (n j : Nat) (u : Value) : Obj.mapSeq (·.setIfInBounds j u) { cls := .type "list", data := .seq its.toArray n } = { cls := .type "list", data := .seq (its.set j u).toArray n } := by
  simp [Obj.mapSeq]
theorem Inv.lst {pins : List (Addr × Obj)} {σ : St} {H : Hp} {s : Shared} {p : Addr} {xs : List V} (I : Inv X pins σ H s) (h : H p = some (.lst xs)) :
    ∃ (its : List Value) (n : Nat), Vals xs its ∧ s.heap.get? p = some { cls := .type "list", data := .seq its.toArray n } ∧ xs.length ≤ sizeLine := by
  obtain ⟨z, its, n, r, e⟩ := I.hok p _ h
  exact ⟨its, n, r, e, z⟩
theorem Inv.lstUpd {pins : List (Addr × Obj)} {σ : St} {H : Hp} {s : Shared} {p : Addr} {xs ys : List V} {its its' : List Value} {n n' : Nat} {f : Obj → Obj} (I : Inv X pins σ H s) (h : H p = some (.lst xs))
    (ho : s.heap.get? p = some { cls := .type "list", data := .seq its.toArray n }) (hf : f { cls := .type "list", data := .seq its.toArray n } = { cls := .type "list", data := .seq its'.toArray n' }) (r : Vals ys its') (hz : ys.length ≤ sizeLine) (t : Nat) :
    Inv X pins σ (upd H p (.lst ys)) { s with heap := s.heap.update p f, toks := t } := by
  have e : (s.heap.update p f).get? p = some { cls := .type "list", data := .seq its'.toArray n' } := by
    rw [Heap.get?_update_self f ho (by rw [hf] <;> rfl), hf]
  refine I.write (x := p) (e := p) (by rw [h]; trivial) (.inl rfl) (fun b u hb q => (Heap.get?_update_other _ _ (Ne.symm hb)).trans q) ⟨_, e⟩ ?_
  exact ⟨hz, its', n', r, e⟩
noncomputable def rSetL : V → V → V → Hp → (Hp → Prop) → Prop := fun o i v H Q => ∃ p xs k j, o = .ref p ∧ i = .int k ∧ H p = some (.lst xs) ∧ ixN xs.length k = some j ∧ Q (upd H p (.lst (xs.set j v)))
theorem set_list : PSet X rSetL := by
  intro pins s σ H o i v ov iv u Q I ro ri rv h
  obtain ⟨p, xs, k, j, rfl, rfl, hp, hj, q⟩ := h
  cases ro
  obtain ⟨t, rfl⟩ := ri
  obtain ⟨its, n, r, ho, hz⟩ := I.lst hp
  obtain ⟨h1, h2, h3, h4⟩ := ixN_seq hj
  have hl := r.length
  have hn := line63
  have I' : Inv X pins σ (upd H p (.lst (xs.set j v))) { s with heap := s.heap.update p (Obj.mapSeq (·.setIfInBounds j u)) } :=
    I.lstUpd hp ho (mapSeq_set its n j u) (r.set rv j) (by rw [List.length_set]; exact hz) s.toks
  by_cases h0 : 0 ≤ k
  · have hk : k.toNat = j := by
      rw [seqIndex_of h0 h4] at h1
      exact Option.some.inj h1
    exact PySem.W.ki_setAt ho h0 (by omega) (by rw [List.size_toArray, ← hl]; exact h4) (by rw [hk]; exact ⟨_, I', q⟩)
  · have hk : (k + (its.toArray.size : Int)).toNat = j := by
      rw [seqIndex_neg (by omega) h3] at h1
      rw [List.size_toArray, ← hl]
      exact Option.some.inj h1
    exact PySem.W.ki_setBack ho (by omega) (by rw [List.size_toArray, ← hl]; exact h3) (by omega) (by rw [hk]; exact ⟨_, I', q⟩)

theorem slice_bounds (lo hi : Option Int) (n : Nat) : (sliceBounds lo hi none n).1 = ((HT.sIx n 0 lo : Nat) : Int) ∧ (sliceBounds lo hi none n).2.1 = ((HT.sIx n n hi : Nat) : Int) ∧ (sliceBounds lo hi none n).2.2 = 1 := by
  refine ⟨?_, ?_, rfl⟩
  · cases lo with
    | none => simp [sliceBounds, HT.sIx]
    | some i =>
      simp only [sliceBounds, HT.sIx, Option.getD_none, show (1 : Int) > 0 by decide, if_true]
      by_cases h : i < 0
      · simp only [h, if_true] <;> omega
      · simp only [h, if_false] <;> omega
  · cases hi with
    | none => simp [sliceBounds, HT.sIx]
    | some i =>
      simp only [sliceBounds, HT.sIx, Option.getD_none, show (1 : Int) > 0 by decide, if_true]
      by_cases h : i < 0
      · simp only [h, if_true] <;> omega
      · simp only [h, if_false] <;> omega
theorem slicePick_cut (its : List Value) (lo hi : Option Int) : slicePick its.toArray lo hi none = ((its.drop (HT.sIx its.length 0 lo)).take (HT.sIx its.length its.length hi - HT.sIx its.length 0 lo)).toArray := by
  obtain ⟨h1, h2, h3⟩ := slice_bounds lo hi its.toArray.size
  unfold slicePick
  rw [h1, h2, h3]
  simp only [sliceRange_one, pick_run, List.size_toArray] <;> rfl
noncomputable def rSlL (K : PySem.W.Frag) : V → Option Int → Option Int → Hp → VK → Prop := fun x lo hi H Q => ∃ a xs, x = .ref a ∧ SqL K H a xs ∧ ∀ p, H p = none → Q (.ref p) (upd H p (.lst (cutV xs lo hi)))
theorem sl_list : SlR X (rSlL X.K) := by
  intro pins s σ H x v vl vu lo hi sl Q I rx hs pl pu h
  obtain ⟨a, xs, rfl, hx, q⟩ := h
  cases rx
  obtain ⟨its, r, ht, hz⟩ := I.list hx
  have hlen := r.length
  refine ⟨"list", _, slot_list_getitem.lookup, ht.isList.typeIs, ?_⟩
  refine wpAny_getItem_list_slice ht.isList hs pl pu .none (by simp) ?_ (by rw [List.size_toArray] <;> omega)
  rw [slicePick_cut, ← hlen]
  refine ⟨.ref s.heap.objs.size, _, I.laid (t' := s.toks) (o := .lst (cutV xs lo hi)) (fun b ob q => Heap.get?_push_of_some _ q) (Nat.le_refl _) ?_, rfl, q _ (I.hok.fresh (Nat.le_refl _))⟩
  exact ⟨Nat.le_trans (cutV_length xs lo hi) hz, _, 0, (r.drop (HT.sIx xs.length 0 lo)).take (HT.sIx xs.length xs.length hi - HT.sIx xs.length 0 lo), Heap.get?_push_size _ rfl⟩

theorem call_len_seq : CallR X (.builtin "len") (fun xs H Q => ∃ p ys, xs = [.ref p] ∧ (SqL X.K H p ys ∨ SqT X.K H p ys) ∧ Q (.int ys.length) H) := by
  intro pins s σ H xs us Q I r h
  obtain ⟨p, ys, rfl, hq, q⟩ := h
  obtain ⟨u, rfl, rx⟩ := vals1 r
  cases rx
  have hn := line63
  rcases hq with hq | hq
  · obtain ⟨its, r', pl, hz⟩ := I.list hq
    have hlen := r'.length
    exact Calls.call_len_list pl.isList (by simp only [List.size_toArray] <;> omega) ⟨.int ys.length, H, I.tok _, ⟨s.toks + 1, by rw [List.size_toArray, hlen]⟩, q⟩
  · obtain ⟨its, r', pl, hz⟩ := I.tuple hq
    have hlen := r'.length
    exact len_tuple pl (by simp only [List.size_toArray] <;> omega) ⟨.int ys.length, H, I.tok _, ⟨s.toks + 1, by rw [List.size_toArray, hlen]⟩, q⟩
theorem CallR.or {f : Value} {r r' : List V → Hp → VK → Prop} (h : CallR X f r) (h' : CallR X f r') : CallR X f (fun xs H Q => r xs H Q ∨ r' xs H Q) := by
  intro pins s σ H xs us Q I rs q
  rcases q with q | q
  · exact h pins s σ H xs us Q I rs q
  · exact h' pins s σ H xs us Q I rs q
theorem call_list_of : CallR X (.type "list") (fun xs H Q => ∃ p ys, xs = [.ref p] ∧ (SqL X.K H p ys ∨ SqT X.K H p ys) ∧ ∀ l, H l = none → Q (.ref l) (upd H l (.lst ys))) := by
  intro pins s σ H xs us Q I r h
  obtain ⟨p, ys, rfl, hq, q⟩ := h
  obtain ⟨u, rfl, rx⟩ := vals1 r
  cases rx
  have fin : ∀ (its : List Value), Vals ys its → ys.length ≤ sizeLine → ∀ (h' : Heap) (c' : Nat), (∀ b o', s.heap.get? b = some o' → h'.get? b = some o') →
      h'.get? s.heap.objs.size = some { cls := .type "list", dict := none, data := .seq its.toArray c', slots := #[] } → EP X pins σ Q (.ref s.heap.objs.size) { s with heap := h' } := fun its r' hz h' c' kp e =>
    ⟨.ref s.heap.objs.size, _, I.laid (t' := s.toks) kp (Nat.le_refl _) (show ObjOk X.prog X.w _ h' _ (.lst ys) from ⟨hz, its, c', r', e⟩), rfl, q _ (I.hok.fresh (Nat.le_refl _))⟩
  rcases hq with hq | hq
  · obtain ⟨its, r', pl, hz⟩ := I.list hq
    have hlen := r'.length
    obtain ⟨o, ho, hc, n, hd⟩ := pl.isList
    exact call_list_seq p (.inl rfl) ho hc hd (fun h' c' kp e => fin its r' hz h' c' kp e) (by simp only [List.size_toArray] <;> omega)
  · obtain ⟨its, r', pl, hz⟩ := I.tuple hq
    have hlen := r'.length
    obtain ⟨o, ho, hc, n, hd⟩ := pl
    exact call_list_seq p (.inr rfl) ho hc hd (fun h' c' kp e => fin its r' hz h' c' kp e) (by simp only [List.size_toArray] <;> omega)
noncomputable def tyV (K : PySem.W.Frag) (T : String) (x : V) (H : Hp) : Prop := match x with
  | .str _ => T = "str"
  | .int _ => T = "int"
  | .ref p => (T = "list" ∧ ∃ xs, SqL K H p xs) ∨ (T = "tuple" ∧ ∃ o, K.lookup p = some o ∧ o.cls = .type "tuple" ∧ o.dict = none) ∨
      (T = "dict" ∧ ((∃ kvs, H p = some (.dK kvs)) ∨ ∃ kvs, H p = some (.dT kvs))) ∨ (T = "set" ∧ ∃ S n, H p = some (.set S n))
  | _ => False
theorem tyV_is {pins : List (Addr × Obj)} {σ : St} {H : Hp} {s : Shared} {T : String} {x : V} {v : Value} (I : Inv X pins σ H s) (r : RelV x v) (ty : tyV X.K T x H) :
    s.TypeIs v T ∧ ∀ a, v = .ref a → ∃ ob, s.heap.get? a = some ob ∧ ob.dict = none := by
  cases x with
  | str z =>
    obtain ⟨t, rfl⟩ := r
    cases (show T = "str" from ty)
    exact ⟨typeIs_str s z t, fun _ e => nomatch e⟩
  | int i =>
    obtain ⟨t, rfl⟩ := r
    cases (show T = "int" from ty)
    exact ⟨typeIs_int s i t, fun _ e => nomatch e⟩
  | ref p =>
    cases r
    rcases ty with ⟨rfl, xs, hq⟩ | ⟨rfl, o, hk, hc, hd⟩ | ⟨rfl, hk⟩ | ⟨rfl, S, n, hk⟩
    · obtain ⟨its, _, pl, _⟩ := I.list hq
      refine ⟨pl.isList.typeIs, fun a e => ?_⟩
      cases e
      obtain ⟨o, n, e, c, hd, _⟩ := pl
      exact ⟨o, e, hd⟩
    · refine ⟨⟨o, I.kIn p o hk, hc⟩, fun a e => ?_⟩
      cases e
      exact ⟨o, I.kIn _ o hk, hd⟩
    · have z : ∃ o, s.heap.get? p = some o ∧ o.ExactDict := by
        rcases hk with ⟨kvs, hk⟩ | ⟨kvs, hk⟩
        · obtain ⟨_, _, _, _, o, _, _, e, ex, _⟩ := I.hok p _ hk
          exact ⟨o, e, ex⟩
        · obtain ⟨_, _, _, _, o, _, _, e, ex, _⟩ := I.hok p _ hk
          exact ⟨o, e, ex⟩
      obtain ⟨o, e, ex⟩ := z
      refine ⟨⟨o, e, ex.1⟩, fun a e2 => ?_⟩
      cases e2
      exact ⟨o, e, ex.2.1⟩
    · obtain ⟨o, _, _, _, e, ex, _⟩ := I.hok p _ hk
      refine ⟨⟨o, e, ex.1⟩, fun a e2 => ?_⟩
      cases e2
      exact ⟨o, e, ex.2.1⟩
  | _ => exact False.elim ty
noncomputable def tBM (K : PySem.W.Frag) (T : String) (r : V → List V → Hp → VK → Prop) (to : TE) (t : TA) : TE := fun σ H Q => to σ H fun x H1 => tyV K T x H1 ∧ t σ H1 fun xs H2 => r x xs H2 Q
variable {o e : Expr} {es : List Expr} {to : TE} {t : TA} {name : Str} {apos cpos : Pos} {T id : String} {r : V → List V → Hp → VK → Prop}
theorem pe_bm (pa : PlainAttrs T) (slot : Slot T name id) (hty : typeOf (.builtin id) = pure (.type "method_descriptor")) (hm : MtR X id r) (ho : PE X o to) (ha : PA X (e :: es) t)
    (hbase : autoParam (attributeBase o name X.env (eval o X.env) = eval o X.env) Internal.aut2._auto_1)
    (hfew : autoParam (((backTo cpos (starEach (e :: es) X.env)).all (fun x => !x.1) && (backToKw cpos (keywordEach [] X.env)).all (fun x => x.1.isSome)
      && decide ((e :: es).length + ([] : List Keyword).length + (if ([] : List Keyword).isEmpty then 0 else 1) < 30)) = true) Internal.aut2._auto_1)
    (hline : autoParam ((apos.endLine == cpos.line) = true) Internal.aut2._auto_1) (hs : autoParam (starEach (e :: es) X.env = (false, eval e X.env) :: starEach es X.env) Internal.aut2._auto_1) (hplain : autoParam ((backTo cpos (starEach es X.env)).any (·.1) = false) Internal.aut2._auto_1) :
    PE X (.Call (.Attribute o name apos) (e :: es) [] cpos) (tBM X.K T r to t) := by
  intro pins s σ H Q I h
  refine wpAny_Call_method_late hbase hfew hline rfl (thn (ho pins s σ H _ I h) fun v s1 zz => ?_)
  obtain ⟨x, H1, I1, r1, ty, q1⟩ := zz
  obtain ⟨h1, h2⟩ := tyV_is I1 r1 ty
  refine ⟨T, id, pa, slot, hty, h1, h2, ?_⟩
  have hA := ha cpos pins s1 σ H1 _ I1 q1
  rw [hs] at hA ⊢
  refine Calls.callWith_builtin (by show (false || (backTo cpos (starEach es X.env)).any (·.1)) = false; rw [hplain] <;> rfl) (Calls.evalArgs_plain ?_)
  exact thn hA fun us s2 ⟨vs, H2, I2, r2, q2⟩ => hm pins s2 σ H2 x vs v us Q I2 r1 r2 q2
/- xs.append(e), list.index on a module's tuple .. are MtR facts of 06m -/
end
end Internal

namespace Internal
open PySem PySem.Spec PyProof.Rows

noncomputable def MtM (X : Cx) (id : String) (r : V → List V → Hp → VK → Prop) : Prop :=
  ∀ (pins : List (Addr × Obj)) (s : Shared) (σ : St) (H : Hp) (x : V) (xs : List V) (v : Value) (us : List Value) (Q : VK), Inv X pins σ H s → RelV x v → Vals xs us → r x xs H Q →
    wpAny (model X.prog X.w) X.A (call (.builtin id) (v :: us)) (EP X pins σ Q) X.xe s

theorem Vals.one : ∀ {x : V} {us : List Value}, Vals [x] us → ∃ u, us = [u] ∧ RelV x u
  | _, _, h => by
    cases h with
    | cons r t => cases t; exact ⟨_, rfl, r⟩
theorem Vals.rep {xs : List V} {us : List Value} (h : Vals xs us) : ∀ k : Nat, Vals (List.replicate k xs).flatten (List.replicate k us).flatten
  | 0 => .nil
  | k + 1 => by
    rw [List.replicate_succ, List.replicate_succ, List.flatten_cons, List.flatten_cons]
    exact Vals.append h (Vals.rep h k)
theorem foldl_rep (its : List Value) : ∀ (k : Nat) (acc : List Value),
    List.foldl (fun x1 x2 => x1 ++ x2) acc.toArray (List.replicate k its.toArray) = (acc ++ (List.replicate k its).flatten).toArray
  | 0, acc => by simp
  | k + 1, acc => by
    have e : acc.toArray ++ its.toArray = (acc ++ its).toArray := by simp
    have e2 : (acc ++ its) ++ (List.replicate k its).flatten = acc ++ (List.replicate (k + 1) its).flatten := by
      rw [List.replicate_succ, List.flatten_cons, List.append_assoc]
    rw [← e2, ← foldl_rep its k (acc ++ its), ← e, List.replicate_succ, List.foldl_cons]

section
variable {X : Cx} {pins : List (Addr × Obj)} {σ : St} {H : Hp} {s : Shared} {l b : Addr} {xs ys zs : List V}

theorem Inv.lset {its its' : List Value} {n : Nat} {f : Array Value → Array Value} {t' : Nat} (I : Inv X pins σ H s) (hH : H l = some (.lst xs))
    (e : s.heap.get? l = some { cls := .type "list", data := .seq its.toArray n }) (hf : f its.toArray = its'.toArray) (hv : Vals ys its') (hz : ys.length ≤ sizeLine) :
    Inv X pins σ (upd H l (.lst ys)) { s with heap := s.heap.update l (Obj.mapSeq f), toks := t' } := by
  have q := PySem.IsL.update e f
  rw [hf] at q
  refine I.write (x := l) (e := l) (by rw [hH]; exact trivial) (.inl rfl) (fun b' u hb hu => (Heap.get?_update_other s.heap (Obj.mapSeq f) (Ne.symm hb)).trans hu) ⟨_, q⟩ ?_
  exact ⟨hz, its', _, hv, q⟩
theorem Inv.lnew {its : List Value} {t' : Nat} (I : Inv X pins σ H s) (hv : Vals ys its) (hz : ys.length ≤ sizeLine) :
    Inv X pins σ (upd H s.heap.objs.size (.lst ys)) { s with heap := s.heap.push { cls := .type "list", data := .seq its.toArray }, toks := t' } :=
  I.laid (fun _ _ q => Heap.get?_push_of_some _ q) (Nat.le_refl _) ⟨hz, its, 0, hv, Heap.get?_push_size _ rfl⟩
theorem Inv.fresh (I : Inv X pins σ H s) : H s.heap.objs.size = none := I.hok.fresh (Nat.le_refl _)
theorem Inv.lstM (I : Inv X pins σ H s) (hH : H l = some (.lst xs)) : xs.length ≤ sizeLine ∧ ∃ (its : List Value) (n : Nat), Vals xs its ∧ xs.length = its.length ∧ s.heap.get? l = some { cls := .type "list", data := .seq its.toArray n } := by
  obtain ⟨z, its, n, r, e⟩ := I.hok l _ hH
  exact ⟨z, its, n, r, r.length, e⟩

theorem notLongL {n : Nat} (h : n ≤ sizeLine) : Builtin.List.listTooLong n = false := by
  unfold Builtin.List.listTooLong
  exact decide_eq_false (by omega)
end

section
variable {X : Cx}

noncomputable def rAppend : V → List V → Hp → VK → Prop := fun x vs H Q => ∃ l xs y, x = .ref l ∧ vs = [y] ∧ H l = some (.lst xs) ∧ xs.length < sizeLine ∧ Q .non (upd H l (.lst (xs ++ [y])))
theorem mt_append : MtM X "list.append" rAppend := by
  intro pins s σ H x vs v us Q I rx rv h
  obtain ⟨l, xs, y, rfl, rfl, hH, hz, q⟩ := h
  cases rx
  obtain ⟨u, rfl, ru⟩ := rv.one
  obtain ⟨z, its, n, r, hl, e⟩ := I.lstM hH
  refine call_meets F.slot_list_append ⟨_, e, rfl⟩ F.entry_list_append (F.args_list_append_2 _ _) (PySem.list_append l its.toArray n u (by rw [List.size_toArray]; omega)) ⟨e, ?_⟩
  refine ⟨.non, _, I.lset (its' := its ++ [u]) hH e (by simp) (r.append (.cons ru .nil)) ?_, rfl, q⟩
  rw [List.length_append, List.length_singleton]
  omega

noncomputable def rCat : R2 := fun x y H Q => ∃ l b xs zs, x = .ref l ∧ y = .ref b ∧ H l = some (.lst xs) ∧ H b = some (.lst zs) ∧ xs.length + zs.length ≤ sizeLine ∧ ∀ p, H p = none → Q (.ref p) (upd H p (.lst (xs ++ zs)))
theorem op_cat : OpR X (binaryOp .Add) rCat := by
  intro pins s σ H x y v u Q I rx ry h
  obtain ⟨l, b, xs, zs, rfl, rfl, hH, hB, hz, q⟩ := h
  cases rx
  cases ry
  obtain ⟨z, its, n, r, hl, e⟩ := I.lstM hH
  obtain ⟨z2, its2, n2, r2, hl2, e2⟩ := I.lstM hB
  refine PySem.P.add_list e e2 ?_ (by rw [List.size_toArray, List.size_toArray]; omega)
  have ea : its.toArray ++ its2.toArray = (its ++ its2).toArray := by simp
  rw [ea]
  exact ⟨.ref _, _, I.lnew (t' := s.toks) (r.append r2) (by rw [List.length_append]; omega), rfl, q _ I.fresh⟩
noncomputable def rRep : R2 := fun x y H Q => ∃ l k xs, x = .ref l ∧ y = .int k ∧ H l = some (.lst xs) ∧ -(2 ^ 63) ≤ k ∧ k < 2 ^ 63 ∧ xs.length * k.toNat ≤ sizeLine ∧
  ∀ p, H p = none → Q (.ref p) (upd H p (.lst (List.replicate k.toNat xs).flatten))
theorem len_rep {α : Type} (xs : List α) (k : Nat) : (List.replicate k xs).flatten.length = k * xs.length := by
  induction k with
  | zero => simp
  | succ k ih => rw [List.replicate_succ, List.flatten_cons, List.length_append, ih, Nat.succ_mul, Nat.add_comm]
theorem op_rep : OpR X (binaryOp .Mult) rRep := by
  intro pins s σ H x y v u Q I rx ry h
  obtain ⟨l, k, xs, rfl, rfl, hH, h1, h2, hz, q⟩ := h
  cases rx
  obtain ⟨t, rfl⟩ := ry
  obtain ⟨z, its, n, r, hl, e⟩ := I.lstM hH
  have hlen : its.toArray.size * k.toNat ≤ sizeLine := by rw [List.size_toArray, ← hl]; exact hz
  have hcap : ¬ its.toArray.size * k.toNat > (2 ^ 63 - 1) / 8 := by
    have : (sizeLine : Nat) ≤ (2 ^ 63 - 1) / 8 := by decide
    omega
  have hfit : ¬ (!Builtin.List.listFitsIndex k) = true := by
    rw [fitsIndex_both h1 h2]
    exact Bool.false_ne_true
  have hlong : ¬ Builtin.List.listTooLong (its.toArray.size * k.toNat) = true := by
    rw [notLongL hlen]
    exact Bool.false_ne_true
  have hnew : List.foldl (fun x1 x2 => x1 ++ x2) #[] (List.replicate (if its.toArray.isEmpty = true then 0 else k.toNat) its.toArray) = (List.replicate k.toNat its).flatten.toArray := by
    have f0 : ∀ m : Nat, List.foldl (fun x1 x2 => x1 ++ x2) #[] (List.replicate m its.toArray) = (List.replicate m its).flatten.toArray := fun m => by
      have := foldl_rep its m []
      rw [List.nil_append] at this
      exact this
    rw [f0]
    cases its with
    | nil => simp
    | cons a r' => rw [if_neg (by simp)]
  refine wpAny_binaryOp_repeat_ref (T := "list") (U := "int") (by decide) ⟨_, e, rfl⟩ (fun s' => typeIs_int s' k t) noFill_list_mul F.fills_int_mul F.slot_int_rmul repeat_list F.slot_int_index.lookup
    (call_meets F.slot_int_rmul (typeIs_int s k t) F.entry_int_rmul (F.args_int_rmul_2 _ _) (int___rmul___int_list k t l its.toArray n)
      ⟨e, rfl, ⟨_, e, rfl⟩, call_meets F.slot_list_mul ⟨_, e, rfl⟩ F.entry_list_mul (F.args_list_mul_2 _ _) (AutoListH.list___mul___list_int_3 l its.toArray n k t hfit hcap hlong) ⟨e, ?_⟩⟩)
  rw [hnew]
  exact ⟨.ref _, _, I.lnew (t' := s.toks) (r.rep k.toNat) (by rw [len_rep, Nat.mul_comm]; exact hz), rfl, q _ I.fresh⟩

end

section
variable {prog : Program} {w : World} {A : Around} {E : Value → Shared → Prop} {s : Shared}
end

section
variable {X : Cx}
end
end Internal

namespace Att
open PySem PySem.W PySem.Calls PyProof.Rows

theorem ints_of_wellAll {P : Params} {h : Heap} : ∀ (ns : List Int) (vs : List Value), WellAll P h vs (ns.map WData.int) → IntsAre vs ns := by
  intro ns
  induction ns with
  | nil =>
    intro vs w
    rw [List.map_nil] at w
    cases w
    exact .nil
  | cons n ns ih =>
    intro vs w
    rw [List.map_cons] at w
    cases w with
    | cons a b =>
      cases a
      exact .cons _ _ (ih _ b)

theorem script_of {l : OpenLaw} {n : Nat} (hn : l.most = some n) {P : Params} {h : Heap} {args : List WData} {vals : List Value}
    (hpre : l.row.toRowW.claim.pre args = true) (hwl : WellAll P h vals args) :
    ∃ a vs ns, vals = [Value.ref a] ∧ args = [WData.list (ns.map WData.int)] ∧ h.get? a = some { cls := .type "list", data := .seq vs.toArray } ∧ IntsAre vs ns ∧ ns.length ≤ n := by
  have hsh : WShape.hasAll [] args [.list .int] = true := (pre_splitW hpre).1
  have hc : l.pre.holds [] { args := args } = true := (pre_splitW hpre).2
  obtain ⟨d, r, rfl, h1, h2⟩ := hasAllW_cons hsh
  obtain rfl := hasAllW_nil h2
  obtain ⟨xs, rfl, h3⟩ := hasW_list h1
  obtain ⟨ns, rfl⟩ := items_int h3
  have hlen : ns.length ≤ n := by
    unfold OpenLaw.pre at hc
    have h4 : (WTm.not (.lt (.lit (.int (n : Int))) (.len (.arg 0)))).holds [] { args := [.list (ns.map .int)] } = true := by
      have h4 := (holds_andW hc).1
      rw [hn] at h4
      exact h4
    have h5 := condW_of h4 (w_not (w_lt w_lit (w_len_list (w_arg rfl))))
    rw [List.length_map] at h5
    refine Nat.le_of_not_lt fun q => ?_
    have q' : (n : Int) < ((ns.length : Nat) : Int) := by omega
    first
      | (rw [decide_eq_true q'] at h5; exact absurd h5 (by decide))
      | (simp at h5; omega)
  cases hwl with
  | cons w1 w2 =>
    cases w2
    cases w1 with
    | list ho hall => exact ⟨_, _, ns, rfl, rfl, ho, ints_of_wellAll ns _ hall, hlen⟩

theorem post_true (l : OpenLaw) (args : List WData) : l.row.toRowW.claim.post args (.bool true) args = true :=
  postW_of (r := l.row.toRowW) (X := (true == true))
    (show WShape.has [] (.bool true) .bool = true by first | rfl | decide | simp [WShape.has, WShape.arms, WShape.armsAll])
    (show (WTm.eq .res (.lit (.bool true))).value [] { args := args, res := some (.bool true), after := args } = some (.bool (true == true)) from w_eq_bool (w_res rfl) w_lit) rfl

section
variable {prog : Program} {w : World} {A : Around} {E : Value → Shared → Prop} {s : Shared} {K : Frag}

noncomputable def ledger (h : Heap) (L d : Addr) : List (Addr × Obj) := (List.range h.objs.size).filterMap fun a => if a = L ∨ a = d then none else (h.get? a).map fun o => (a, o)
end
end Att

namespace Internal
open PySem PySem.Spec PyProof.Rows

theorem vals_ints : ∀ {vs : List Value} {ns : List Int}, IntsAre vs ns → Vals (ns.map V.int) vs
  | _, _, .nil => .nil
  | _, _, .cons n t h => .cons ⟨t, rfl⟩ (vals_ints h)

noncomputable def Only (H : Hp) : Prop := ∀ b, H b = none ∨ ∃ o xs, H b = some (.frz o (.lst xs))

theorem law_call {P : Program} {w : World} {K : PySem.W.Frag} {mg mb : Str → Option Value} {CX : CXT} {k : Nat} {fa a : Addr} {fd : FuncData} {x : Str} {sp : Sp} {s₁ : Shared} {vs : List Value} {ns : List Int}
    (KX : K.In s₁.heap) (hns : s₁.heap.Ns mainGlobals mg) (hb : s₁.heap.Ns builtinsNs mb) (hbb : ∀ x : Str, x ≠ "__name__" → mb x = bootBuiltins x) (hlim : s₁.heap.NoLimit) (hg : s₁.gens = #[])
    (ha : s₁.heap.get? a = some { cls := .type "list", data := .seq vs.toArray }) (hi : IntsAre vs ns) (hl : ns.length ≤ sizeLine) (hr : Room k callerA)
    (F : ∀ base : Heap, K.In base → base.Ns mainGlobals mg → FnOk P w K mg base CX k fa fd [x] sp) (hbind : ∀ (s : Shared) (u : Value), BindsTo s fd ⟨[u], []⟩ [(x, u)])
    (hsp : ∀ H : Hp, Only H → SqL K H a (ns.map V.int) → sp [.ref a] H (fun v _ => v = .bl true) fun _ _ _ => False)
    (hCX : ∀ H e s', CX [] H s₁ (fun _ _ _ => False) e s' → False) :
    codeAny (model P w) callerA (.call (.ref fa) ⟨[.ref a], []⟩) (fun r s' => r = .ok (.ret (.bool true)) ∧ OldK s₁.heap s'.heap ∧ s'.os = s₁.os ∧ AllBare s'.gens) s₁ := by
  have rv := vals_ints hi
  have lenV := hi.length
  -- from an abstract heap in which nothing but the script may be tracked
  have core : ∀ H : Hp, Only H → SqL K H a (ns.map V.int) → HOk P w H s₁.heap → (∀ b, H b ≠ none → b = a) → (H a ≠ none → K.lookup a = none) →
      codeAny (model P w) callerA (.call (.ref fa) ⟨[.ref a], []⟩) (fun r s' => r = .ok (.ret (.bool true)) ∧ OldK s₁.heap s'.heap ∧ s'.os = s₁.os ∧ AllBare s'.gens) s₁ := by
    intro H hO hS hok hA hK
    have base_of : ∀ {b : Addr} {o : Obj}, s₁.heap.get? b = some o → H b = none → (hidT s₁.heap H).get? b = some o := fun e n => hidT_get e n
    have noA : ∀ {b : Addr} {o : Obj} {es : Array DictEntry} {ep : Nat}, s₁.heap.get? b = some o → o.data = .dict es ep → H b = none := fun {b o es ep} e d => by
      cases q : H b with
      | none => rfl
      | some u =>
        have e' : b = a := hA b (by rw [q]; simp)
        subst e'
        rw [ha] at e; cases e
        have d' : Data.seq vs.toArray _ = Data.dict es ep := d
        cases d'
    have nsK : ∀ {b : Addr} {m : Str → Option Value}, s₁.heap.Ns b m → (hidT s₁.heap H).Ns b m := fun {b m} ⟨o, es, ep, e, d, r⟩ => ⟨o, es, ep, base_of e (noA e d), d, r⟩
    have hKb : K.In (hidT s₁.heap H) := fun b o e => base_of (KX b o e) (by
      cases q : H b with
      | none => rfl
      | some u =>
        have e' : b = a := hA b (by rw [q]; simp)
        subst e'
        rw [hK (by rw [q]; simp)] at e; cases e)
    have hM : Mod K mg (hidT s₁.heap H) := ⟨hKb, nsK hns, ⟨mb, nsK hb, hbb⟩, let ⟨mc, h1, h2⟩ := hlim; ⟨mc, nsK h1, h2⟩⟩
    have e0 : Env0 P w K mg (hidT s₁.heap H) callerA [] s₁ H := ⟨rfl, hM, fun b o e => of_hidT e, Nat.le_of_eq (hidT_size _ _), trivial, fun b hb => absurd (show b ∈ ([] : List Addr) from hb) (by simp), hok, .of_eq hg⟩
    refine codeAny_mono ((F _ hKb (nsK hns)).run callerA [] s₁ H ⟨[.ref a], []⟩ [.ref a] [.ref a] _ _ hr e0 (hbind s₁ (.ref a)) (.cons rfl .nil) (hsp H hO hS)) fun r s' h => ?_
    cases r with
    | error e => exact (hCX H e s' h).elim
    | ok fl =>
      cases fl with
      | next => exact False.elim h
      | brk => exact False.elim h
      | cont => exact False.elim h
      | ret u =>
        obtain ⟨v, H', os, bare, un, hok', r', q⟩ := h
        have q' : v = .bl true := q
        subst q'
        obtain rfl : u = Value.bool true := r'
        refine ⟨rfl, OldK.of_keep fun b o e => ?_, os, bare⟩
        cases q : H b with
        | none => exact un.keep b o e q (by intro z; exact absurd (show b ∈ ([] : List Addr) from z) (by simp)) (by simp)
        | some u =>
          rcases hO b with z | ⟨ob, xs, z⟩
          · rw [q] at z; cases z
          · have z2 := un.frzs b ob _ z
            obtain ⟨e1, _⟩ := hok b _ z
            obtain ⟨e2, _⟩ := hok' b _ z2
            rw [e] at e1; cases e1
            exact e2
  cases hk : K.lookup a with
  | some o =>
    -- the script is one of the module's own objects
    have e := KX a o hk
    rw [ha] at e
    cases e
    refine core (fun _ => none) (fun _ => .inl rfl) (.inr ⟨_, vs.toArray, _, hk, rfl, rfl, rfl, by rw [List.size_toArray, lenV]; exact hl, by simpa using rv⟩) (fun b u z => by have z' : (none : Option HO) = some u := z; cases z') (fun b z => absurd rfl z) fun z => absurd rfl z
  | none =>
    refine core (fun b => if b = a then some (.frz { cls := .type "list", data := .seq vs.toArray } (.lst (ns.map V.int))) else none) (fun b => ?_) (.inl (.inr ⟨{ cls := .type "list", data := .seq vs.toArray }, if_pos rfl⟩)) (fun b u z => ?_) (fun b z => ?_) fun _ => hk
    · by_cases hb : b = a
      · exact .inr ⟨_, _, if_pos hb⟩
      · exact .inl (if_neg hb)
    · by_cases hb : b = a
      · have z' := (if_pos hb).symm.trans z
        cases z'
        subst hb
        exact ⟨ha, by rw [List.length_map]; exact hl, vs, _, rv, ha⟩
      · have z' := (if_neg hb).symm.trans z
        cases z'
    · by_cases hb : b = a
      · exact hb
      · exact absurd (if_neg hb) z
end Internal

namespace Internal
open PySem PySem.Spec PyProof.Rows

noncomputable abbrev KOf {K : PySem.W.Frag} {h : Heap} (_ : K.In h) : PySem.W.Frag := K

end Internal



namespace Internal
open PySem PySem.Spec PyProof.Rows

noncomputable def defArgs (s : Stmt) : Arguments := match s with
  | .FunctionDef _ a _ _ _ _ _ _ _ _ => a
  | _ => { posonlyargs := [], args := [], vararg := none, kwonlyargs := [], kw_defaults := [], kwarg := none, defaults := [] }
noncomputable def defBody (s : Stmt) : List Stmt := match s with
  | .FunctionDef _ _ b _ _ _ _ _ _ _ => b
  | _ => []
noncomputable def defScope (s : Stmt) : Scope := match s with
  | .FunctionDef _ _ _ _ _ _ sc _ _ _ => sc
  | _ => { kind := .function, names := [], isGenerator := false, isCoroutine := false }

noncomputable abbrev CX0 : CXT := fun _ _ _ _ _ _ => False
noncomputable abbrev E0 : XK := fun _ _ _ => False
set_option genInjectivity false in
set_option genSizeOf false in
structure Fun (K : PySem.W.Frag) (x qual : Str) (st : Stmt) (f : Addr) (fd : FuncData) : Prop where
  ex : ∃ (oc : Value) (od : Option Addr) (kV doc pm : Value) (an : Option Addr) (cdv ct : Value) (osl : Array (Option Value)),
    fd = PySem.W.fnOf x qual (defArgs st) (defBody st) (defScope st) .none kV doc pm an cdv ct ∧ K.lookup f = some ⟨oc, od, .func fd, osl⟩ ∧ PySem.W.codeIn K cdv qual = true
  kp : PySem.W.keepIn K (.ref f) = true
section
variable {P : Program} {w : World} {K : PySem.W.Frag} {mg : Str → Option Value} {base : Heap}
theorem Fun.binds {x qual : Str} {st : Stmt} {f : Addr} {fd : FuncData} {ps : List Str} (F : Fun K x qual st f fd)
    (h : ∀ (kV doc pm : Value) (an : Option Addr) (cdv ct : Value) (us : List Value), us.length = ps.length → bindArgs (PySem.W.fnOf x qual (defArgs st) (defBody st) (defScope st) .none kV doc pm an cdv ct) ⟨us, []⟩ = pure (ps.zip us)) : Binds K fd ps [] := by
  obtain ⟨oc, od, kV, doc, pm, an, cdv, ct, osl, rfl, lk, hcd⟩ := F.ex
  exact .all (h kV doc pm an cdv ct)
theorem fun_mk {x qual : Str} {st : Stmt} {f : Addr} {oc : Value} {od an : Option Addr} {osl : Array (Option Value)} {kV doc pm cdv ct : Value} (l : K.lookup f = some ⟨oc, od, .func (PySem.W.fnOf x qual (defArgs st) (defBody st) (defScope st) .none kV doc pm an cdv ct), osl⟩)
    (c : PySem.W.codeIn K cdv qual = true) (k : PySem.W.keepIn K (.ref f) = true) : Fun K x qual st f (PySem.W.fnOf x qual (defArgs st) (defBody st) (defScope st) .none kV doc pm an cdv ct) := ⟨⟨oc, od, kV, doc, pm, an, cdv, ct, osl, rfl, l, c⟩, k⟩
end
section
variable {X : Cx}
theorem pv (i : Nat) {x : Str} {pos : Pos} (hN : autoParam (X.N[i]? = some x) Internal.aut2._auto_1) (hv : Vis X.env.scope x := by first | exact Or.inl rfl | exact Or.inr (Or.inl rfl) | exact Or.inr (Or.inr rfl)) (hd : autoParam ((x == ("__debug__" : Str)) = false) Internal.aut1._auto_1)
    (hcd : autoParam ((x == ("__classdict__" : Str)) = false) Internal.aut1._auto_1) : PE X (.Name x pos) (tVar i) := pe_var hN hv hd hcd
end

noncomputable def Same (H H' : Hp) : Prop := ∀ b o, H b = some o → H' b = some o
theorem Same.refl (H : Hp) : Same H H := fun _ _ h => h
theorem Same.trans {H H1 H2 : Hp} (a : Same H H1) (b : Same H1 H2) : Same H H2 := fun c o h => b c o (a c o h)
theorem Same.seq {K : PySem.W.Frag} {H H' : Hp} {a : Addr} {xs : List V} (e : Same H H') (h : SqL K H a xs) : SqL K H' a xs := by
  rcases h with (h | ⟨o, h⟩) | h
  · exact .inl (.inl (e _ _ h))
  · exact .inl (.inr ⟨o, e _ _ h⟩)
  · exact .inr h

end Internal

set_option Elab.async false
set_option linter.all false
set_option maxRecDepth 100000
namespace Internal
open PySem PySem.Spec PyProof.Rows

namespace BT
theorem abs : bootBuiltins "abs" = some (.builtin "abs") := by decide +kernel
theorem len : bootBuiltins "len" = some (.builtin "len") := by decide +kernel
theorem isinstance : bootBuiltins "isinstance" = some (.builtin "isinstance") := by decide +kernel
theorem int : bootBuiltins "int" = some (.type "int") := by decide +kernel
theorem bool : bootBuiltins "bool" = some (.type "bool") := by decide +kernel
theorem list : bootBuiltins "list" = some (.type "list") := by decide +kernel
theorem tuple : bootBuiltins "tuple" = some (.type "tuple") := by decide +kernel
theorem ValueError : bootBuiltins "ValueError" = some (.type "ValueError") := by decide +kernel
end BT

noncomputable def sz (i : Int) : Nat := Builtin.Int.intBits i
theorem sz_le {i : Int} {n : Nat} : sz i ≤ n ↔ i.natAbs < 2 ^ n := by
  unfold sz Builtin.Int.intBits
  by_cases h : i = 0
  · subst h; simp; exact Nat.two_pow_pos n
  · have h' : (i == 0) = false := by simp [h]
    rw [h', if_neg (by decide)]
    have hn : i.natAbs ≠ 0 := by omega
    rw [← Nat.log2_lt hn]; omega
theorem sz_lt (i : Int) : i.natAbs < 2 ^ sz i := sz_le.mp (Nat.le_refl _)
theorem sz_mono {i j : Int} (h : i.natAbs ≤ j.natAbs) : sz i ≤ sz j := sz_le.mpr (Nat.lt_of_le_of_lt h (sz_lt j))
theorem sz_neg (i : Int) : sz (-i) ≤ sz i := sz_mono (by omega)
theorem sz_add {i j : Int} {n : Nat} (h1 : sz i ≤ n) (h2 : sz j ≤ n) : sz (i + j) ≤ n + 1 := by
  rw [sz_le] at *; rw [Nat.pow_succ]; omega
theorem sz_mul {i j : Int} {n m : Nat} (h1 : sz i ≤ n) (h2 : sz j ≤ m) : sz (i * j) ≤ n + m := by
  rw [sz_le] at *
  rw [Int.natAbs_mul, Nat.pow_add]
  exact Nat.mul_lt_mul'' h1 h2
theorem natAbs_ediv_le (i j : Int) : (i / j).natAbs ≤ i.natAbs := Int.natAbs_ediv_le_natAbs i j
theorem sz_div (i j : Int) : sz (i / j) ≤ sz i := sz_mono (natAbs_ediv_le i j)

theorem sz_of {i : Int} {n : Nat} (h : i.natAbs < 2 ^ n) : sz i ≤ n := sz_le.mpr h
theorem sz200 {i : Int} (h1 : -1606938044258990275541962092341162602522202993782792835301376 < i) (h2 : i < 1606938044258990275541962092341162602522202993782792835301376) : sz i ≤ 200 := sz_of (by
  have : (2 : Nat) ^ 200 = 1606938044258990275541962092341162602522202993782792835301376 := by decide
  omega)
section
variable {X : Cx}
noncomputable def CMulS (i j : Int) : Prop := sz i + sz j ≤ 134217728
theorem CMulS.ok {i j : Int} (h : CMulS i j) : IntMulOk i j := by
  unfold IntMulOk
  have e : Builtin.Int.intTooBig (((Builtin.Int.intBits i : Nat) : Int) + ((Builtin.Int.intBits j : Nat) : Int)) = false := by
    unfold Builtin.Int.intTooBig
    have hb : bitsLine = 134217728 := by decide
    rw [decide_eq_false]
    rw [hb]
    unfold CMulS sz at h
    omega
  rw [e]; simp
theorem CMulS.of {i j : Int} {n m : Nat} (h1 : sz i ≤ n) (h2 : sz j ≤ m) (h : n + m ≤ 134217728) : CMulS i j := by unfold CMulS; omega
theorem op_mulS : OpR X (binaryOp .Mult) (rI CMulS fun i j => .int (i * j)) := opI fun _ _ _ _ _ _ _ hc q => mul_int q hc.ok
noncomputable def rMulU : R2 := fun x y H Q => rI CMulS (fun i j => .int (i * j)) x y H Q ∨ rRep x y H Q
theorem op_mulU : OpR X (binaryOp .Mult) rMulU := op_mulS.or op_rep
noncomputable def rAddU (K : PySem.W.Frag) : R2 := fun x y H Q => rI0 (fun i j => .int (i + j)) x y H Q ∨ rCat x y H Q ∨ rCatT K x y H Q
theorem op_addU : OpR X (binaryOp .Add) (rAddU X.K) := op_add.or (op_cat.or op_catT)
noncomputable def CDivU (_ j : Int) : Prop := j ≠ 0 ∧ sz j ≤ 9000
noncomputable def rDivU : R2 := rI CDivU fun i j => .int (i.fdiv j)
theorem op_divU : OpR X (binaryOp .FloorDiv) rDivU := opI fun i j _ _ _ _ _ hc q => floordiv_int hc.1 q (.inl (PyProof.noPylong_of_log2 (by
  have h1 := sz_le.mp hc.2
  by_cases h0 : j.natAbs = 0
  · rw [h0]; decide
  · exact (Nat.log2_lt h0).mpr h1)))
noncomputable def rModU : R2 := rI (fun _ j => j ≠ 0) fun i j => .int (i.fmod j)
theorem op_modU : OpR X (binaryOp .Mod) rModU := op_modN

mutual
inductive RepD (K : PySem.W.Frag) (H : Hp) : V → PyData → Prop
  | non : RepD K H .non .none
  | bl (b : Bool) : RepD K H (.bl b) (.bool b)
  | int (i : Int) : RepD K H (.int i) (.int i)
  | str (x : Str) (ok : PyData.canLay0 (.str x) = true) : RepD K H (.str x) (.str x)
  | lst {a : Addr} {vs : List V} {ds : List PyData} : SqL K H a vs → RepAll K H vs ds → RepD K H (.ref a) (.list ds)
  | tup {a : Addr} {vs : List V} {ds : List PyData} : SqT K H a vs → RepAll K H vs ds → RepD K H (.ref a) (.tuple ds)
inductive RepAll (K : PySem.W.Frag) (H : Hp) : List V → List PyData → Prop
  | nil : RepAll K H [] []
  | cons {v : V} {d : PyData} {vs : List V} {ds : List PyData} : RepD K H v d → RepAll K H vs ds → RepAll K H (v :: vs) (d :: ds)
end
mutual
theorem RepD.reads {pins : List (Addr × Obj)} {σ : St} {H : Hp} {s : Shared} (I : Inv X pins σ H s) : ∀ {v : V} {d : PyData} {u : Value}, RepD X.K H v d → RelV v u → ∃ as, Reads s.heap u d as
  | _, _, _, .non, r => by cases (show _ = Value.none from r); exact ⟨_, .none⟩
  | _, _, _, .bl b, r => by cases (show _ = Value.bool b from r); exact ⟨_, .bool b⟩
  | _, _, _, .int i, r => by obtain ⟨t, rfl⟩ := (show ∃ t, _ = Value.int i t from r); exact ⟨_, .int i t⟩
  | _, _, _, .str x _, r => by obtain ⟨t, rfl⟩ := (show ∃ t, _ = Value.str x t from r); exact ⟨_, .str x t⟩
  | _, _, _, .lst h k, r => by
    cases (show _ = Value.ref _ from r)
    obtain ⟨its, rv, ⟨o, n, h1, h2, _, h3⟩, _⟩ := I.list h
    obtain ⟨as, q⟩ := RepAll.reads I k rv
    exact ⟨_, .list h1 h2 h3 (by simpa using q)⟩
  | _, _, _, .tup h k, r => by
    cases (show _ = Value.ref _ from r)
    obtain ⟨its, rv, ⟨o, h1, h2, n, h3⟩, _⟩ := I.tuple h
    obtain ⟨as, q⟩ := RepAll.reads I k rv
    exact ⟨_, .tuple h1 h2 h3 (by simpa using q)⟩
theorem RepAll.reads {pins : List (Addr × Obj)} {σ : St} {H : Hp} {s : Shared} (I : Inv X pins σ H s) : ∀ {vs : List V} {ds : List PyData} {us : List Value}, RepAll X.K H vs ds → Vals vs us → ∃ as, ReadsAll s.heap us ds as
  | _, _, _, .nil, .nil => ⟨_, .nil⟩
  | _, _, _, .cons h k, .cons r t => by
    obtain ⟨as, q⟩ := RepD.reads I h r
    obtain ⟨bs, p⟩ := RepAll.reads I k t
    exact ⟨_, .cons q p⟩
end
mutual
theorem RepD.lay {K : PySem.W.Frag} {H : Hp} : ∀ {v : V} {d : PyData}, RepD K H v d → d.canLay0 = true
  | _, _, .non => rfl
  | _, _, .bl _ => rfl
  | _, _, .int _ => rfl
  | _, _, .str _ ok => ok
  | _, _, .lst _ k => by rw [PyData.canLay0]; exact RepAll.lay k
  | _, _, .tup _ k => by rw [PyData.canLay0]; exact RepAll.lay k
theorem RepAll.lay {K : PySem.W.Frag} {H : Hp} : ∀ {vs : List V} {ds : List PyData}, RepAll K H vs ds → PyData.canLayAll0 ds = true
  | _, _, .nil => rfl
  | _, _, .cons h k => by rw [PyData.canLayAll0, RepD.lay h, RepAll.lay k]; rfl
end
theorem Same.seqT {K : PySem.W.Frag} {H H' : Hp} {a : Addr} {xs : List V} (e : Same H H') (h : SqT K H a xs) : SqT K H' a xs := by
  rcases h with (h | ⟨o, h⟩) | h
  · exact .inl (.inl (e _ _ h))
  · exact .inl (.inr ⟨o, e _ _ h⟩)
  · exact .inr h
mutual
theorem Same.rep {K : PySem.W.Frag} {H H' : Hp} (e : Same H H') : ∀ {v : V} {d : PyData}, RepD K H v d → RepD K H' v d
  | _, _, .non => .non
  | _, _, .bl b => .bl b
  | _, _, .int i => .int i
  | _, _, .str x ok => .str x ok
  | _, _, .lst h k => .lst (e.seq h) (e.repAll k)
  | _, _, .tup h k => .tup (e.seqT h) (e.repAll k)
theorem Same.repAll {K : PySem.W.Frag} {H H' : Hp} (e : Same H H') : ∀ {vs : List V} {ds : List PyData}, RepAll K H vs ds → RepAll K H' vs ds
  | _, _, .nil => .nil
  | _, _, .cons h k => .cons (e.rep h) (e.repAll k)
end
noncomputable def rEqU (K : PySem.W.Frag) : R2 := fun x y H Q => (∃ d e, RepD K H x d ∧ RepD K H y e ∧ min d.depth e.depth ≤ 60 ∧ Q (.bl (PyData.eqv d e)) H) ∨ rEq x y H Q
noncomputable def rNeU (K : PySem.W.Frag) : R2 := fun x y H Q => (∃ d e, RepD K H x d ∧ RepD K H y e ∧ min d.depth e.depth ≤ 60 ∧ Q (.bl (!PyData.eqv d e)) H) ∨ rNe x y H Q
theorem op_eqU (hu : X.A.units + 64 < cLine) : OpR X (compareOp .Eq) (rEqU X.K) := by
  refine OpR.or ?_ op_eq
  intro pins s σ H x y v u Q I rx ry h
  obtain ⟨d, e, h1, h2, hd, q⟩ := h
  obtain ⟨as, r1⟩ := h1.reads I rx
  obtain ⟨bs, r2⟩ := h2.reads I ry
  exact PySem.SeqAt.compareEq_reads r1 r2 h1.lay h2.lay (by omega) ⟨.bl _, H, I, rfl, q⟩
theorem op_neU (hu : X.A.units + 64 < cLine) : OpR X (compareOp .NotEq) (rNeU X.K) := by
  refine OpR.or ?_ op_ne
  intro pins s σ H x y v u Q I rx ry h
  obtain ⟨d, e, h1, h2, hd, q⟩ := h
  obtain ⟨as, r1⟩ := h1.reads I rx
  obtain ⟨bs, r2⟩ := h2.reads I ry
  exact PySem.SeqAt.compareNe_reads r1 r2 h1.lay h2.lay (by omega) ⟨.bl _, H, I, rfl, q⟩

noncomputable def rIsi (K : PySem.W.Frag) : List V → Hp → VK → Prop := fun xs H Q => ∃ x c t b cv, xs = [x, c] ∧ RelV c cv ∧ TyOf K H x t ∧ PySem.W.kitOne K t cv = some b ∧ Q (.bl b) H
theorem call_isinst : CallR X (.builtin "isinstance") (rIsi X.K) := by
  intro pins s σ H xs us Q I r h
  obtain ⟨x, c, t, b, cv, rfl, rc, ty, e, q⟩ := h
  obtain ⟨u, w', rfl, r1, r2⟩ := vals2 r
  have ec : w' = cv := by
    cases c with
    | ty n => exact (show w' = _ from r2).trans (show cv = _ from rc).symm
    | ref a => exact (show w' = _ from r2).trans (show cv = _ from rc).symm
    | non => exact (show w' = _ from r2).trans (show cv = _ from rc).symm
    | bl b => exact (show w' = _ from r2).trans (show cv = _ from rc).symm
    | _ => obtain ⟨_, rfl⟩ := rc; simp [PySem.W.kitOne, PySem.W.kitCls] at e; cases ty <;> simp at e
  subst ec
  exact isinst_ok I r1 ty e fun tk => ⟨.bl b, H, I.tok tk, rfl, q⟩
noncomputable def tNotU (K : PySem.W.Frag) (ta : TE) : TE := fun σ H Q => ta σ H fun x H1 => ∃ k, TruV K x H1 k ∧ Q (.bl (!k)) H1
theorem pe_notU {a : Expr} {ta : TE} {pos : Pos} (ha : PE X a ta) : PE X (.UnaryOp .Not a pos) (tNotU X.K ta) := by
  intro pins s σ H Q I h
  refine UnaryOp_ (thn (ha pins s σ H _ I h) fun v s1 zz => ?_)
  obtain ⟨x, H1, I1, r1, k, hk, q1⟩ := zz
  exact not_of (thn (tru_ok pins s1 σ H1 x v (fun c H2 => Q (.bl (!c)) H2) I1 r1 ⟨k, hk, q1⟩) fun c s2 ⟨H2, I2, q2⟩ => ⟨.bl (!c), H2, I2, rfl, q2⟩)
end

noncomputable def rAbs : List V → Hp → VK → Prop := fun xs H Q => ∃ i, xs = [.int i] ∧ Q (.int (if i < 0 then -i else i)) H
noncomputable def rLen (K : PySem.W.Frag) : List V → Hp → VK → Prop := fun xs H Q => ∃ p ys, xs = [.ref p] ∧ (SqL K H p ys ∨ SqT K H p ys) ∧ Q (.int ys.length) H
noncomputable def rListOf (K : PySem.W.Frag) : List V → Hp → VK → Prop := fun xs H Q => ∃ p ys, xs = [.ref p] ∧ (SqL K H p ys ∨ SqT K H p ys) ∧ ∀ l, H l = none → Q (.ref l) (upd H l (.lst ys))
section
variable {X : Cx}
theorem call_absU : CallR X (.builtin "abs") rAbs := call_abs
theorem call_lenU : CallR X (.builtin "len") (rLen X.K) := call_len_seq
theorem call_listU : CallR X (.type "list") (rListOf X.K) := call_list_of
noncomputable abbrev tTru (K : PySem.W.Frag) (ta : TE) : TT := fun σ H Q => ta σ H fun x H' => ∃ k, TruV K x H' k ∧ Q k H'
theorem pt_truthU {a : Expr} {ta : TE} (ha : PE X a ta) (he : ∀ whole, isTrue a X.env whole = (do let v ← whole; standAt a.pos; holding [v] (truthy v))) : PT X a (tTru X.K ta) := pt_truth ha he
end
noncomputable def tMid (t u : TS) : TS := fun D σ H => ∃ M : St → Hp → Prop, t { D with nx := M } σ H ∧ ∀ σ' H', M σ' H' → u D σ' H'
theorem pss_mid {X : Cx} {st : Stmt} {rest : List Stmt} {t u : TS} (h1 : PS X st t) (h2 : PSs X rest u) : PSs X (st :: rest) (tMid t u) := by
  intro pins s σ H D I h
  obtain ⟨M, ht, hM⟩ := h
  refine wpAny_execs_cons (thn (h1 pins s σ H _ I ht) fun f s1 q => ?_)
  cases f with
  | next =>
    obtain ⟨σ', H', I', q'⟩ := q
    exact h2 pins s1 σ' H' D I' (hM σ' H' q')
  | brk => exact q
  | cont => exact q
  | ret u => exact q
noncomputable def NoX (CX : CXT) : Prop := ∀ (outer : List Env) (H : Hp) (s : Shared) (e : Value) (s' : Shared), CX outer H s E0 e s' → False
theorem passN {CX : CXT} {X : Cx} (h : NoX CX) : Passes CX X E0 := fun _ _ H s e s' _ q => (h _ H s e s' q).elim
theorem Fun.okN {P : Program} {w : World} {K : PySem.W.Frag} {mg : Str → Option Value} {base : Heap} {CX : CXT} {x qual : Str} {st : Stmt} {f : Addr} {fd : FuncData} {N ps : List Str} {k : Nat} {sp : Sp} (F : Fun K x qual st f fd) (S : FnScope N ps (defScope st)) (len : ∀ vs H Q E, sp vs H Q E → vs.length = ps.length)
    (hbody : ∀ (cdv : Value) (A : Around) (outer : List Env) (s : Shared) (H : Hp) (vs : List V) (Q : VK) (E : XK), Room k (A.deeper (envOfC qual (defScope st) s.heap.objs.size f cdv)) → sp vs H Q E →
      ∃ t, PSs (cxOf CX P w K mg base N qual (defScope st) f cdv A outer s H E).nox (defBody st) t ∧ t { nx := fun _ H' => Q .non H', rt := Q } (start N vs) H) : FnOk P w K mg base CX (k + 1) f fd ps sp := by
  obtain ⟨oc, od, kV, doc, pm, an, cdv, ct, osl, rfl, lk, hcd⟩ := F.ex
  refine fn_of lk hcd S len fun A outer s H vs Q E hr hsp => ?_
  obtain ⟨t, h, q⟩ := hbody cdv A outer s H vs Q E hr hsp
  exact ⟨t, h.nox, q⟩
section
variable {σ : St} {H : Hp} {Q : VK} {D : Ends} {ta tb tc te : TE} {t u : TS} {K : PySem.W.Frag}
theorem x_var {i : Nat} {v : V} (e : σ[i]? = some (some v)) (q : Q v H) : tVar i σ H Q := ⟨v, e, q⟩
theorem x_c {v : V} (q : Q v H) : tC v σ H Q := q
theorem x_i0 {g : Int → Int → V} {i j : Int} (q : Q (g i j) H) : rI0 g (.int i) (.int j) H Q := ⟨i, j, rfl, rfl, q⟩
theorem x_add {i j : Int} (q : Q (.int (i + j)) H) : rAddU K (.int i) (.int j) H Q := .inl ⟨i, j, rfl, rfl, q⟩
theorem x_mul {i j : Int} (c : CMulS i j) (q : Q (.int (i * j)) H) : rMulU (.int i) (.int j) H Q := .inl ⟨i, j, rfl, rfl, c, q⟩
theorem x_div {i j : Int} (h0 : 0 < j) (hs : sz j ≤ 9000) (q : Q (.int (i / j)) H) : rDivU (.int i) (.int j) H Q :=
  ⟨i, j, rfl, rfl, ⟨by omega, hs⟩, by show Q (.int (i.fdiv j)) H; rw [Int.fdiv_eq_ediv_of_nonneg _ (Int.le_of_lt h0)]; exact q⟩
theorem x_divN {i j : Int} (h0 : j ≠ 0) (hs : sz j ≤ 9000) (q : Q (.int (i.fdiv j)) H) : rDivU (.int i) (.int j) H Q := ⟨i, j, rfl, rfl, ⟨h0, hs⟩, q⟩
theorem x_mod {i j : Int} (h0 : 0 < j) (q : Q (.int (i % j)) H) : rModU (.int i) (.int j) H Q :=
  ⟨i, j, rfl, rfl, by omega, by show Q (.int (i.fmod j)) H; rw [Int.fmod_eq_emod_of_nonneg _ (Int.le_of_lt h0)]; exact q⟩
theorem x_neg {i : Int} (q : Q (.int (-i)) H) : rU (fun i => .int (-i)) (.int i) H Q := ⟨i, rfl, q⟩
theorem dI {i j : Int} : decide (V.int i = V.int j) = decide (i = j) := by simp
theorem x_eqI {i j : Int} (q : Q (.bl (decide (i = j))) H) : rEqU K (.int i) (.int j) H Q := .inr ⟨rfl, by rw [dI]; exact q⟩
theorem x_neI {i j : Int} (q : Q (.bl (!decide (i = j))) H) : rNeU K (.int i) (.int j) H Q := .inr ⟨rfl, by rw [dI]; exact q⟩
theorem x_eqD {x y : V} {d e : PyData} (h1 : RepD K H x d) (h2 : RepD K H y e) (hd : min d.depth e.depth ≤ 60) (q : Q (.bl (PyData.eqv d e)) H) : rEqU K x y H Q := .inl ⟨d, e, h1, h2, hd, q⟩
theorem x_neD {x y : V} {d e : PyData} (h1 : RepD K H x d) (h2 : RepD K H y e) (hd : min d.depth e.depth ≤ 60) (q : Q (.bl (!PyData.eqv d e)) H) : rNeU K x y H Q := .inl ⟨d, e, h1, h2, hd, q⟩
theorem x_ixL {a : Addr} {xs : List V} {i : Int} {v : V} (h : SqL K H a xs) (e : atI xs i = some v) (q : Q v H) : rIx K (.ref a) (.int i) H Q := .inl ⟨a, xs, i, v, rfl, rfl, h, e, q⟩
theorem x_ixT {a : Addr} {xs : List V} {i : Int} {v : V} (h : SqT K H a xs) (e : atI xs i = some v) (q : Q v H) : rIx K (.ref a) (.int i) H Q := .inr (.inl ⟨a, xs, i, v, rfl, rfl, h, e, q⟩)
theorem x_bl {T : Bool → Prop} {b : Bool} (q : T b) : ∃ k, V.bl b = .bl k ∧ T k := ⟨b, rfl, q⟩
theorem x_truB {T : Bool → Prop} {b : Bool} (q : T b) : ∃ k, TruV K (.bl b) H k ∧ T k := ⟨b, rfl, q⟩
theorem x_andV (q : ta σ H fun x H1 => ∃ c, x = .bl c ∧ if c = true then tb σ H1 Q else Q (.bl false) H1) : tAndV ta tb σ H Q := q
theorem x_orV (q : ta σ H fun x H1 => ∃ c, x = .bl c ∧ if c = true then Q (.bl true) H1 else tb σ H1 Q) : tOrV ta tb σ H Q := q
theorem x_notU (q : ta σ H fun x H1 => ∃ k, TruV K x H1 k ∧ Q (.bl (!k)) H1) : tNotU K ta σ H Q := q
theorem x_ite {p : Prop} [Decidable p] {A B : Prop} (h1 : p → A) (h2 : ¬ p → B) : if decide p = true then A else B := by
  by_cases h : p
  · rw [if_pos (decide_eq_true h)]; exact h1 h
  · rw [if_neg (by rw [decide_eq_false h]; exact Bool.false_ne_true)]; exact h2 h
theorem x_iteN {p : Prop} [Decidable p] {A B : Prop} (h1 : ¬ p → A) (h2 : p → B) : if (!decide p) = true then A else B := by
  by_cases h : p
  · rw [if_neg (by rw [decide_eq_true h]; exact Bool.false_ne_true)]; exact h2 h
  · rw [if_pos (by rw [decide_eq_false h]; rfl)]; exact h1 h
theorem x_iteT {A B : Prop} (h : A) : if true = true then A else B := by rw [if_pos rfl]; exact h
theorem x_iteF {A B : Prop} (h : B) : if false = true then A else B := by rw [if_neg Bool.false_ne_true]; exact h
theorem x_iteNT {A B : Prop} (h : B) : if (!true) = true then A else B := x_iteF h
theorem x_mid (M : St → Hp → Prop) (q : t { D with nx := M } σ H) (r : ∀ σ' H', M σ' H' → u D σ' H') : tMid t u D σ H := ⟨M, q, r⟩
theorem x_call {sp : Sp} {E : XK} {tr : TA} (q : tr σ H fun vs H1 => sp vs H1 Q E) : tCall sp [] E tr σ H Q := by unfold tCall; simp only [List.append_nil]; exact q
noncomputable def rTup (Q : VK) (xs : List V) (H : Hp) : Prop := xs.length ≤ sizeLine ∧ ∀ p, H p = none → Q (.ref p) (upd H p (.tup xs))
noncomputable def rLst (Q : VK) (xs : List V) (H : Hp) : Prop := xs.length ≤ sizeLine ∧ ∀ p, H p = none → Q (.ref p) (upd H p (.lst xs))
theorem x_tup {tr : TA} (q : tr σ H (rTup Q)) : tTup tr σ H Q := q
theorem x_lst {tr : TA} (q : tr σ H (rLst Q)) : tLst tr σ H Q := q
theorem x_abs {i : Int} (q : Q (.int (if i < 0 then -i else i)) H) : rAbs [.int i] H Q := ⟨i, rfl, q⟩
theorem x_lenL {a : Addr} {xs : List V} (h : SqL K H a xs) (q : Q (.int xs.length) H) : rLen K [.ref a] H Q := ⟨a, xs, rfl, .inl h, q⟩
theorem x_lenT {a : Addr} {xs : List V} (h : SqT K H a xs) (q : Q (.int xs.length) H) : rLen K [.ref a] H Q := ⟨a, xs, rfl, .inr h, q⟩
theorem x_start {N : List Str} {vs : List V} {σ0 : St} (e : start N vs = σ0) (q : t D σ0 H) : t D (start N vs) H := by rw [e]; exact q
theorem x_isi {x c : V} {t' cv : Value} {b : Bool} (rc : RelV c cv) (ty : TyOf K H x t') (e : PySem.W.kitOne K t' cv = some b) (q : Q (.bl b) H) : rIsi K [x, c] H Q := ⟨x, c, t', b, cv, rfl, rc, ty, e, q⟩
end
theorem Same.new {H : Hp} {p : Addr} (h : H p = none) (o : HO) : Same H (upd H p o) := fun b u q => by rw [upd_ne (ne_of_none q h)]; exact q
end Internal

set_option Elab.async false
set_option linter.all false
set_option maxRecDepth 100000
namespace Internal
open PySem PySem.Spec PyProof.Rows

theorem closureFor_all {env : Env} {scope : Scope} (h : ∀ y ∈ scope.names, y.2 = .free → ∃ c, env.cells.lookup y.1 = some c) :
    ∃ cl, closureFor scope env = pure cl ∧ (∀ x c, cl.lookup x = some c → env.cells.lookup x = some c) ∧ ∀ y ∈ scope.names, y.2 = .free → cl.lookup y.1 = env.cells.lookup y.1 := by
  unfold closureFor
  have key : ∀ (names : List (Str × NameKind)) (acc : List (Str × Addr)), (∀ y ∈ names, y.2 = .free → ∃ c, env.cells.lookup y.1 = some c) → (∀ x c, acc.lookup x = some c → env.cells.lookup x = some c) →
      ∃ cl, (forIn (m := Sem) names acc fun (x : Str × NameKind) r => if (x.2 == .free) = true then (do let a ← cellOf env x.1; pure (ForInStep.yield ((x.1, a) :: r))) else pure (ForInStep.yield r)) = pure cl ∧
        (∀ x c, cl.lookup x = some c → env.cells.lookup x = some c) ∧ (∀ y ∈ names, y.2 = .free → cl.lookup y.1 = env.cells.lookup y.1) ∧ (∀ x, (∃ c, acc.lookup x = some c) → cl.lookup x = env.cells.lookup x) := by
    intro names
    induction names with
    | nil => intro acc _ ha; exact ⟨acc, rfl, ha, fun _ hy => (nomatch hy), fun x ⟨c, e⟩ => by rw [e, ha x c e]⟩
    | cons y r ih =>
      intro acc hn ha
      obtain ⟨n, k⟩ := y
      have hr : ∀ y ∈ r, y.2 = .free → ∃ c, env.cells.lookup y.1 = some c := fun y hy => hn y (List.mem_cons_of_mem _ hy)
      by_cases hk : k = .free
      · subst hk
        obtain ⟨c, hc⟩ := hn (n, .free) List.mem_cons_self rfl
        have ha' : ∀ x c', List.lookup x ((n, c) :: acc) = some c' → env.cells.lookup x = some c' := fun x c' e => by
          rw [List.lookup_cons] at e
          cases hb : x == n with
          | true => rw [hb] at e; cases e; rw [beq_iff_eq.mp hb]; exact hc
          | false => rw [hb] at e; exact ha x c' e
        obtain ⟨cl, e, h1, h2, h3⟩ := ih ((n, c) :: acc) hr ha'
        refine ⟨cl, ?_, h1, fun y hy hf => ?_, fun x hx => ?_⟩
        · rw [List.forIn_cons]
          simp only [cellOf, hc, beq_self_eq_true, if_true]
          exact e
        · rcases List.mem_cons.mp hy with rfl | hy
          · exact h3 n ⟨c, by rw [List.lookup_cons]; simp⟩
          · exact h2 y hy hf
        · refine h3 x ?_
          obtain ⟨c', e'⟩ := hx
          rw [List.lookup_cons]
          cases hb : x == n with
          | true => exact ⟨c, rfl⟩
          | false => exact ⟨c', e'⟩
      · obtain ⟨cl, e, h1, h2, h3⟩ := ih acc hr ha
        refine ⟨cl, ?_, h1, fun y hy hf => ?_, h3⟩
        · rw [List.forIn_cons]
          have hb : (k == NameKind.free) = false := by simpa using hk
          simp only [hb, Bool.false_eq_true, if_false]
          exact e
        · rcases List.mem_cons.mp hy with rfl | hy
          · exact absurd hf hk
          · exact h2 y hy hf
  obtain ⟨cl, e, h1, h2, _⟩ := key scope.names [] h (fun _ _ z => by simp at z)
  refine ⟨cl, ?_, h1, h2⟩
  show (forIn scope.names [] _ >>= fun r => pure r) = pure cl
  have e' : (forIn (m := Sem) scope.names [] fun (x : Str × NameKind) (r : List (Str × Addr)) => match x with | (name, kind) => if (kind == .free) = true then (do let a ← cellOf env name; pure (ForInStep.yield ((name, a) :: r))) else pure (ForInStep.yield r)) = pure cl := e
  first
    | (rw [e']; rfl)
    | (simp only [e']; rfl)
theorem cellsFrom_app : ∀ (names : List (Str × NameKind)) (n : Nat) (acc : List (Str × Addr)), cellsFrom n names acc = cellsFrom n names [] ++ acc
  | [], _, _ => rfl
  | (name, kind) :: r, n, acc => by
    unfold cellsFrom
    split
    · rw [cellsFrom_app r (n + 1) ((name, n) :: acc), cellsFrom_app r (n + 1) [(name, n)], List.append_assoc]; rfl
    · exact cellsFrom_app r n acc
theorem lookup_app {α : Type} {x : Str} : ∀ {l r : List (Str × α)}, (l ++ r).lookup x = match l.lookup x with | some c => some c | none => r.lookup x
  | [], _ => rfl
  | (k, v) :: l, r => by
    rw [List.cons_append, List.lookup_cons, List.lookup_cons]
    cases x == k with
    | true => rfl
    | false => exact lookup_app (l := l)
noncomputable def compEnv (scope : Scope) (cs : List (Str × Addr)) (C : Addr) (env : Env) : Env :=
  { scope := relabel scope env, locals := C, globals := env.globals, cells := cs, qual := env.qual, func := none, code := env.code, frame := env.frame, builtins := env.builtins }
theorem wpAny_compEnv {M : Model} {A : Around} {E : Value → Shared → Prop} {s : Shared} {scope : Scope} {globals : Addr} {cl : List (Str × Addr)} {qual : Str} {env : Env} {Q : Env → Shared → Prop}
    (hQ : ∀ (own : List (Str × Addr)) (s' : Shared), own = cellsFrom (s.heap.objs.size + 1) scope.names [] → s' = { s with heap := s'.heap } → (∀ b o, s.heap.get? b = some o → s'.heap.get? b = some o) →
      s'.heap.Ns s.heap.objs.size (fun _ => none) → (∀ n c, (n, c) ∈ own → s'.heap.IsCell c none ∧ s.heap.objs.size + 1 ≤ c) → (own.Pairwise fun x y => x.2 ≠ y.2) →
      Q { scope := scope, locals := s.heap.objs.size, globals := globals, cells := own ++ cl, qual := qual, func := none, code := env.code, frame := env.frame, builtins := env.builtins } s') :
    wpAny M A (newFunctionEnv scope globals cl [] qual none .none (some env)) Q E s := by
  simp only [newFunctionEnv, Option.isSome_some, if_true]
  refine wpAny_bind (wpAny_alloc ?_)
  refine wpAny_bind (wpAny_layCells _ (fun name kind cells => by cases hkc : kind == NameKind.cell <;> simp [hkc]) _ _ _ _ ?_)
  have ok := cellsFrom_ok scope.names (s.heap.push { cls := .type "dict", data := .dict #[] }) (s.heap.objs.size + 1) [] ⟨fun _ _ hm => (nomatch hm), List.Pairwise.nil⟩ (by rw [Heap.size_push]; exact Nat.le_refl _)
  rw [Heap.size_push] at ok
  rw [show ({ s with heap := s.heap.push { cls := .type "dict", data := .dict #[] } } : Shared).heap.objs.size = s.heap.objs.size + 1 from Heap.size_push ..]
  rw [cellsFrom_app]
  have fin := hQ _ { s with heap := pushCells (s.heap.push { cls := .type "dict", data := .dict #[] }) scope.names } rfl rfl (fun b o e => pushCells_keeps _ _ b o (Heap.get?_push_of_some _ e))
    ((Heap.Ns.new s.heap (.type "dict")).keeps (pushCells_keeps _ _)) ok.empty ok.apart
  exact wpAny_bind (wpAny_pure (wpAny_pure fin))

theorem lookup_relabel_free {env : Env} : ∀ {names : List (Str × NameKind)} {x : Str}, names.lookup x = some .free →
    (names.map fun (n, k) => if (k == NameKind.free && env.scope.kind == .function && env.kindOf n == some .cell) then (n, NameKind.cell) else (n, k)).lookup x = some .cell ∨
    (names.map fun (n, k) => if (k == NameKind.free && env.scope.kind == .function && env.kindOf n == some .cell) then (n, NameKind.cell) else (n, k)).lookup x = some .free
  | [], _, h => by simp at h
  | (n, k) :: r, x, h => by
    have ih := @lookup_relabel_free env r x
    show List.lookup x ((if (k == NameKind.free && env.scope.kind == .function && env.kindOf n == some .cell) = true then (n, NameKind.cell) else (n, k)) :: _) = _ ∨ List.lookup x ((if (k == NameKind.free && env.scope.kind == .function && env.kindOf n == some .cell) = true then (n, NameKind.cell) else (n, k)) :: _) = _
    by_cases hc : (k == NameKind.free && env.scope.kind == .function && env.kindOf n == some .cell) = true
    · rw [if_pos hc]
      cases hx : x == n with
      | true => left; simp [List.lookup_cons, hx]
      | false => simp only [List.lookup_cons, hx] at h ⊢; exact ih h
    · rw [if_neg hc]
      cases hx : x == n with
      | true => simp only [List.lookup_cons, hx] at h ⊢; exact .inr h
      | false => simp only [List.lookup_cons, hx] at h ⊢; exact ih h
theorem lookup_relabel_cell {env : Env} : ∀ {names : List (Str × NameKind)} {x : Str}, (names.map fun (n, k) => if (k == NameKind.free && env.scope.kind == .function && env.kindOf n == some .cell) then (n, NameKind.cell) else (n, k)).lookup x = some .cell ∨
    (names.map fun (n, k) => if (k == NameKind.free && env.scope.kind == .function && env.kindOf n == some .cell) then (n, NameKind.cell) else (n, k)).lookup x = some .free → names.lookup x = some .cell ∨ names.lookup x = some .free
  | [], _, h => by simp at h
  | (n, k) :: r, x, h => by
    have ih := @lookup_relabel_cell env r x
    have h' : List.lookup x ((if (k == NameKind.free && env.scope.kind == .function && env.kindOf n == some .cell) = true then (n, NameKind.cell) else (n, k)) :: (r.map fun (n, k) => if (k == NameKind.free && env.scope.kind == .function && env.kindOf n == some .cell) then (n, NameKind.cell) else (n, k))) = some .cell ∨
      List.lookup x ((if (k == NameKind.free && env.scope.kind == .function && env.kindOf n == some .cell) = true then (n, NameKind.cell) else (n, k)) :: (r.map fun (n, k) => if (k == NameKind.free && env.scope.kind == .function && env.kindOf n == some .cell) then (n, NameKind.cell) else (n, k))) = some .free := h
    clear h
    by_cases hc : (k == NameKind.free && env.scope.kind == .function && env.kindOf n == some .cell) = true
    · have hk : k = .free := by
        rw [Bool.and_eq_true, Bool.and_eq_true] at hc
        exact beq_iff_eq.mp hc.1.1
      subst hk
      rw [if_pos hc] at h'
      cases hx : x == n with
      | true => right; simp [List.lookup_cons, hx]
      | false => simp only [List.lookup_cons, hx] at h' ⊢; exact ih h'
    · rw [if_neg hc] at h'
      cases hx : x == n with
      | true => simp only [List.lookup_cons, hx] at h' ⊢; exact h'
      | false => simp only [List.lookup_cons, hx] at h' ⊢; exact ih h'
theorem lookup_relabel_own {env : Env} : ∀ {names : List (Str × NameKind)} {x : Str}, names.lookup x = some .cell →
    (names.map fun (n, k) => if (k == NameKind.free && env.scope.kind == .function && env.kindOf n == some .cell) then (n, NameKind.cell) else (n, k)).lookup x = some .cell
  | [], _, h => by simp at h
  | (n, k) :: r, x, h => by
    have ih := @lookup_relabel_own env r x
    show List.lookup x ((if (k == NameKind.free && env.scope.kind == .function && env.kindOf n == some .cell) = true then (n, NameKind.cell) else (n, k)) :: _) = _
    by_cases hc : (k == NameKind.free && env.scope.kind == .function && env.kindOf n == some .cell) = true
    · rw [if_pos hc]
      cases hx : x == n with
      | true => simp [List.lookup_cons, hx]
      | false => simp only [List.lookup_cons, hx] at h ⊢; exact ih h
    · rw [if_neg hc]
      cases hx : x == n with
      | true => simp only [List.lookup_cons, hx] at h ⊢; exact h
      | false => simp only [List.lookup_cons, hx] at h ⊢; exact ih h
theorem own_mem {names : List (Str × NameKind)} : ∀ {n : Nat} {acc : List (Str × Addr)} {x : Str} {c : Addr}, (x, c) ∈ cellsFrom n names acc → (x, .cell) ∈ names ∨ (x, c) ∈ acc := by
  induction names with
  | nil => intro n acc x c h; exact .inr h
  | cons y r ih =>
    intro n acc x c h
    obtain ⟨nm, k⟩ := y
    unfold cellsFrom at h
    split at h
    · rename_i hk
      rcases ih h with h | h
      · exact .inl (List.mem_cons_of_mem _ h)
      · rcases List.mem_cons.mp h with e | h
        · cases e
          rw [beq_iff_eq.mp hk]; exact .inl List.mem_cons_self
        · exact .inr h
    · rcases ih h with h | h
      · exact .inl (List.mem_cons_of_mem _ h)
      · exact .inr h
theorem nodup_lookup {names : List (Str × NameKind)} (nd : (names.map (·.1)).Nodup) {x : Str} {k : NameKind} (h : (x, k) ∈ names) : names.lookup x = some k := by
  induction names with
  | nil => cases h
  | cons y r ih =>
    obtain ⟨n, k'⟩ := y
    rw [List.map_cons, List.nodup_cons] at nd
    rw [List.lookup_cons]
    rcases List.mem_cons.mp h with e | hm
    · cases e; simp
    · have hne : x ≠ n := fun e => nd.1 (List.mem_map.mpr ⟨(x, k), hm, e⟩)
      have hb : (x == n) = false := by simpa using hne
      rw [hb]; exact ih nd.2 hm

noncomputable def compCx (X : Cx) (scope : Scope) (Ni : List Str) (cs : List (Str × Addr)) (s₃ : Shared) (H₃ : Hp) (fp : List Addr) (pins : List (Addr × Obj)) : Cx :=
  { X with N := Ni, s₀ := s₃, H₀ := H₃, env := compEnv scope cs s₃.heap.objs.size X.env, outer := X.stack, stack := X.stack, ex := fp, fn := fun y => decide (scope.names.lookup y = some .cell), pn := X.pn ++ pins, xe := fun _ _ => False }
set_option genInjectivity false in
set_option genSizeOf false in
structure CompScope (X : Cx) (scope : Scope) (Ni : List Str) (caps : List (Option Nat)) : Prop where
  kind : scope.kind = .function
  ndn : (scope.names.map (·.1)).Nodup
  free : ∀ y ∈ scope.names, y.2 = .free → X.env.kindOf y.1 = some .cell ∨ X.env.kindOf y.1 = some .free
  nd : Ni.Nodup
  len : caps.length = Ni.length
  cap : ∀ (i : Nat) (y : Str) (j : Nat), Ni[i]? = some y → caps[i]? = some (some j) → X.N[j]? = some y ∧ scope.names.lookup y = some .free
noncomputable def compChk (so : Scope) (No : List Str) (scope : Scope) (Ni : List Str) (caps : List (Option Nat)) : Bool :=
  (scope.kind == .function) && decide ((scope.names.map (·.1)).Nodup) && (scope.names.all fun y => y.2 != .free || so.names.lookup y.1 == some .cell || so.names.lookup y.1 == some .free) &&
  decide Ni.Nodup && (caps.length == Ni.length) && ((Ni.zip caps).all fun p => match p.2 with | none => true | some j => No[j]? == some p.1 && scope.names.lookup p.1 == some .free)
theorem compScope_of {X : Cx} {scope : Scope} {Ni : List Str} {caps : List (Option Nat)} (h : compChk X.env.scope X.N scope Ni caps = true) : CompScope X scope Ni caps := by
  unfold compChk at h
  simp only [Bool.and_eq_true] at h
  obtain ⟨⟨⟨⟨⟨h1, h2⟩, h3⟩, h4⟩, h5⟩, h6⟩ := h
  refine ⟨beq_iff_eq.mp h1, of_decide_eq_true h2, fun y hy hf => ?_, of_decide_eq_true h4, beq_iff_eq.mp h5, fun i y j e1 e2 => ?_⟩
  · have q := List.all_eq_true.mp h3 y hy
    rw [Bool.or_eq_true, Bool.or_eq_true] at q
    rcases q with (q | q) | q
    · rw [hf] at q; simp at q
    · exact .inl (beq_iff_eq.mp q)
    · exact .inr (beq_iff_eq.mp q)
  · have hm : (y, some j) ∈ Ni.zip caps := by
      refine List.mem_of_getElem? (i := i) ?_
      rw [List.getElem?_zip_eq_some]; exact ⟨e1, e2⟩
    have q := List.all_eq_true.mp h6 _ hm
    simp only [Bool.and_eq_true] at q
    exact ⟨beq_iff_eq.mp q.1, beq_iff_eq.mp q.2⟩
noncomputable def capSt (caps : List (Option Nat)) (σ : St) : St := caps.map fun o => match o with | some j => (σ[j]?).getD none | none => none
section
variable {X : Cx}
set_option genInjectivity false in
set_option genSizeOf false in
structure CompAt (X : Cx) (scope : Scope) (own cl : List (Str × Addr)) (s₃ : Shared) : Prop where
  oeq : own = cellsFrom (s₃.heap.objs.size + 1) scope.names []
  apart : own.Pairwise fun x y => x.2 ≠ y.2
  above : ∀ n c, (n, c) ∈ own → s₃.heap.objs.size + 1 ≤ c
  sub : ∀ x c, cl.lookup x = some c → X.env.cells.lookup x = some c
  all : ∀ y ∈ scope.names, y.2 = .free → cl.lookup y.1 = X.env.cells.lookup y.1
theorem CompAt.look {scope : Scope} {own cl : List (Str × Addr)} {s₃ : Shared} (T : CompAt X scope own cl s₃) {x : Str} {c : Addr} (h : (own ++ cl).lookup x = some c) : (x, c) ∈ own ∨ X.env.cells.lookup x = some c := by
  rw [lookup_app] at h
  cases e : own.lookup x with
  | some c' => rw [e] at h; cases h; exact .inl (mem_of_lookup e)
  | none => rw [e] at h; exact .inr (T.sub x c h)
theorem cells_lt {pins : List (Addr × Obj)} {σ : St} {H : Hp} {s : Shared} (I : Inv X pins σ H s) {x : Str} {c : Addr} (h : X.env.cells.lookup x = some c) : c < s.heap.objs.size := by
  obtain ⟨v, o, ho, _⟩ := I.cell x c h
  exact Heap.lt_size ho
theorem comp_ok {scope : Scope} {Ni : List Str} {caps : List (Option Nat)} {own cl : List (Str × Addr)} {pins : List (Addr × Obj)} {σ : St} {H₃ : Hp} {s₃ : Shared} {fp : List Addr}
    (S : CompScope X scope Ni caps) (T : CompAt X scope own cl s₃) (I : Inv X pins σ H₃ s₃) (f : ∀ b ∈ fp, FpOk X pins H₃ b) (hf : ∀ b ∈ fp, b < s₃.heap.objs.size) : (compCx X scope Ni (own ++ cl) s₃ H₃ fp pins).Ok where
  mod := I.ok.mod
  kind := S.kind
  glob := I.ok.glob
  blt := I.ok.blt
  above := Nat.le_refl _
  inj := fun x y c h1 h2 => by
    rcases T.look h1 with a | a
    · rcases T.look h2 with b | b
      · exact name_of_addr T.apart a b
      · exact absurd (Nat.lt_of_lt_of_le (cells_lt I b) (Nat.le_of_succ_le (T.above x c a))) (Nat.lt_irrefl _)
    · rcases T.look h2 with b | b
      · exact absurd (Nat.lt_of_lt_of_le (cells_lt I a) (Nat.le_of_succ_le (T.above y c b))) (Nat.lt_irrefl _)
      · exact I.ok.inj x y c a b
  has := fun x h => by
    have h' := lookup_relabel_cell (env := X.env) (names := scope.names) (x := x) h
    show ∃ c, (own ++ cl).lookup x = some c
    rw [lookup_app]
    cases e : own.lookup x with
    | some c => exact ⟨c, rfl⟩
    | none =>
      rcases h' with h' | h'
      · obtain ⟨c, ec⟩ := cell_has (n := s₃.heap.objs.size + 1) h'
        rw [← T.oeq, e] at ec; cases ec
      · have hm := mem_of_lookup h'
        obtain ⟨c, ec⟩ := I.ok.has x (S.free _ hm rfl)
        exact ⟨c, (T.all _ hm rfl).trans ec⟩
  cab := fun x c h1 h2 => by
    have hk : scope.names.lookup x = some .cell := of_decide_eq_true h1
    obtain ⟨c', ec⟩ := cell_has (n := s₃.heap.objs.size + 1) hk
    rw [← T.oeq] at ec
    have h2' : (own ++ cl).lookup x = some c := h2
    rw [lookup_app, ec] at h2'
    cases h2'
    have := T.above x _ (mem_of_lookup ec)
    show s₃.heap.objs.size ≤ _
    omega
  hd := I.ok.hd
  frames := I.ok.frames
  stk := .inl rfl
  exf := fun b hb => ⟨Nat.ne_of_lt (hf b hb), fun x c h => by
    rcases T.look h with a | a
    · exact fun e => absurd (Nat.lt_of_lt_of_le (hf b hb) (Nat.le_of_succ_le (e ▸ T.above x c a))) (Nat.lt_irrefl _)
    · exact (f b hb).2.2.2.2.1 x c a⟩
  bs := I.bs
  bsz := Nat.le_trans I.ok.bsz I.sz
  noex := fun b o e hb => by
    rcases (f b hb).2.2.2.1 with z | z
    · exact I.ok.noex b o e z
    · have h1 : b < X.base.objs.size := Heap.lt_size e
      have h2 := I.ok.bsz
      exact absurd (Nat.lt_of_lt_of_le h1 (Nat.le_trans h2 z)) (Nat.lt_irrefl _)
  exfs := fun b hb hm => by
    rcases List.mem_cons.mp (I.stkSub b hm) with z | z
    · exact (f b hb).2.1 z
    · exact (f b hb).2.2.1 z
  funs := I.stack
  frf := I.stkFree
theorem comp_start {scope : Scope} {Ni : List Str} {caps : List (Option Nat)} {own cl : List (Str × Addr)} {pins : List (Addr × Obj)} {σ : St} {H₃ : Hp} {s₃ s₄ : Shared} {fp : List Addr}
    (S : CompScope X scope Ni caps) (T : CompAt X scope own cl s₃) (I : Inv X pins σ H₃ s₃) (f : ∀ b ∈ fp, FpOk X pins H₃ b) (hf : ∀ b ∈ fp, b < s₃.heap.objs.size)
    (e4 : s₄ = { s₃ with heap := s₄.heap }) (k : ∀ b o, s₃.heap.get? b = some o → s₄.heap.get? b = some o) (ns : s₄.heap.Ns s₃.heap.objs.size fun _ => none) (oc : ∀ n c, (n, c) ∈ own → s₄.heap.IsCell c none) :
    Inv (compCx X scope Ni (own ++ cl) s₃ H₃ fp pins) [] (capSt caps σ) H₃ s₄ where
  ok := comp_ok S T I f hf
  os := by rw [e4]; rfl
  bare := by rw [e4]; exact I.bare
  base := Un.kept k
  loc := by
    refine ⟨_, ns, fun i x v h1 h2 h3 => ?_⟩
    have h2' : (capSt caps σ)[i]? = some (some v) := h2
    unfold capSt at h2'
    rw [List.getElem?_map] at h2'
    cases ec : caps[i]? with
    | none => rw [ec] at h2'; cases h2'
    | some o =>
      cases o with
      | none => rw [ec] at h2'; cases h2'
      | some j =>
        rw [ec] at h2'
        have h2'' : (σ[j]?).getD none = some v := Option.some.inj h2'
        have hj : σ[j]? = some (some v) := by
          cases e : σ[j]? with
          | none => rw [e] at h2''; cases h2''
          | some z => rw [e] at h2''; exact congrArg some h2''
        obtain ⟨hN, hfr⟩ := S.cap i x j h1 ec
        have hm := mem_of_lookup hfr
        have hk := S.free _ hm rfl
        obtain ⟨m, _, hl⟩ := I.loc
        obtain ⟨u, r, l⟩ := hl j x v hN hj (by rcases hk with z | z; exact .inr (.inl z); exact .inr (.inr z))
        refine ⟨u, r, .inr ⟨lookup_relabel_free hfr, ?_⟩⟩
        rcases l with ⟨z, _⟩ | ⟨_, c, hc, q⟩
        · have z' : X.env.kindOf x = some .local := z
          rcases hk with y | y <;> (have y' : X.env.kindOf x = _ := y; rw [z'] at y'; cases y')
        · refine ⟨c, ?_, q.keeps k⟩
          show (own ++ cl).lookup x = some c
          rw [lookup_app]
          cases eo : own.lookup x with
          | some c' =>
            rw [T.oeq] at eo
            rcases own_mem (mem_of_lookup eo) with y | y
            · have := nodup_lookup S.ndn y
              rw [hfr] at this; cases this
            · cases y
          | none => exact (T.all _ hm rfl).trans hc
  cell := fun x c h => by
    rcases T.look h with a | a
    · exact ⟨_, oc x c a⟩
    · obtain ⟨v, q⟩ := I.cell x c a
      exact ⟨v, q.keeps k⟩
  free := I.hok.fresh (Nat.le_refl _)
  freeC := fun x c h => by
    rcases T.look h with a | a
    · exact I.hok.fresh (by have := T.above x c a; omega)
    · exact I.freeC x c a
  pin := fun p hp => by
    have hp' : p ∈ X.pn ++ pins := by
      have : p ∈ (X.pn ++ pins) ++ [] := hp
      simpa using this
    obtain ⟨h1, h2, h3, h4, h5⟩ := I.pin p hp'
    refine ⟨k _ _ h1, h2, Nat.ne_of_lt (Heap.lt_size h1), fun z => ?_, h5⟩
    rcases List.mem_cons.mp (I.stkSub _ z) with y | y
    · exact h3 y
    · exact h4 y
  hok := I.hok.kept k
  len := by
    show (capSt caps σ).length = Ni.length
    unfold capSt; rw [List.length_map]; exact S.len
theorem comp_end {scope : Scope} {Ni : List Str} {cs : List (Str × Addr)} {pins : List (Addr × Obj)} {σ σ' : St} {H₃ H' : Hp} {s₃ s' : Shared} {fp : List Addr} (I : Inv X pins σ H₃ s₃) (f : ∀ b ∈ fp, FpOk X pins H₃ b)
    (J : Inv (compCx X scope Ni cs s₃ H₃ fp pins) [] σ' H' s') : Inv X pins σ H' s' := by
  have u : Un (frs X.stack) fp H₃ H' s₃.heap s'.heap := J.base
  have q := I.call (g' := s'.gens) (t' := s'.toks) (d' := s'.drawn) (ch := fp) u J.hok J.bare fun b hb => ⟨(f b hb).2.2.2.1, (f b hb).2.1, (f b hb).2.2.2.2.1, (f b hb).2.2.2.2.2⟩
  have e : ({ s₃ with heap := s'.heap, gens := s'.gens, drawn := s'.drawn, toks := s'.toks } : Shared) = s' := by
    have h1 : s'.os = s₃.os := J.os
    cases s'; cases s₃
    simp only at h1
    subst h1; rfl
  rw [e] at q
  exact q
noncomputable def PF (Y : Cx) (ifs : List Expr) (t : TT) : Prop := ∀ (pins : List (Addr × Obj)) (s : Shared) (σ : St) (H : Hp) (Q : Bool → Hp → Prop), Inv Y pins σ H s → t σ H Q →
  wpAny (model Y.prog Y.w) Y.A (forIn ifs true fun c r => if r = true then do let ok ← isTrue c Y.env (eval c Y.env); pure (ForInStep.yield ok) else pure (ForInStep.yield r)) (TP Y pins σ Q) Y.xe s
noncomputable abbrev tYes : TT := fun _ H T => T true H
theorem pf_nil {Y : Cx} : PF Y [] tYes := fun pins s σ H Q I h => wpAny_tests_nil ⟨H, I, h⟩
noncomputable def tComp (wi : TI) (caps : List (Option Nat)) (g : TG) (tf : TT) (te : TE) : TE := fun σ H Q => wi σ H fun J H1 => ∀ D, H1 D = none →
  ∃ W : Nat → Nat → St → Hp → Prop, (∃ m, W 0 m (capSt caps σ) (upd H1 D (.lst []))) ∧ ∀ i m σ' H', W i m σ' H' →
    (J.stop i H' ∧ Q (.ref D) H') ∨ (J.go i H' ∧ ∃ N : St → Hp → Prop, (∀ σ2 H2, N σ2 H2 → ∃ m', m' < m ∧ W (i + 1) m' σ2 H2) ∧
      ∀ x H2, J.yld i H' x H2 → g x σ' H2 fun σ1 H3 => tf σ1 H3 fun b H4 => if b = true then te σ1 H4 fun v H5 => rAppend (.ref D) [v] H5 fun _ H6 => N σ1 H6 else N σ1 H4)

theorem compLoop_own {P : Program} {w : World} {A : Around} {R : Result → Shared → Prop} {s0 : Shared} {elt tg iter : Expr} {tests : List Expr} {sc : Scope} {ps : Pos} {itv acc : Value} {en : Env} (J : Nat → Shared → Prop)
    (turn : ∀ n s, J n s → wpAny (model P w) A (pyNext itv) (fun r s1 => match r with | none => R (.ok .next) s1 | some v => wpAny (model P w) A (letOwnedTupleGo tg itv v) (fun _ s1' => wpAny (model P w) A (assign tg en v) (fun _ s2 =>
      wpAny (model P w) A (forIn tests true fun c r => if r = true then do let ok ← isTrue c en (eval c en); pure (ForInStep.yield ok) else pure (ForInStep.yield r)) (fun ok s3 => if ok = true then wpAny (model P w) A (eval elt en) (fun x s4 =>
        wpAny (model P w) A (call (.builtin "list.append") [acc, x]) (fun _ s5 => ∃ m, m < n ∧ J m s5) (notedBy (model P w) A en fun e s' => R (.error e) s') s4) (notedBy (model P w) A en fun e s' => R (.error e) s') s3
          else ∃ m, m < n ∧ J m s3) (notedBy (model P w) A en fun e s' => R (.error e) s') s2) (notedBy (model P w) A en fun e s' => R (.error e) s') s1') (notedBy (model P w) A en fun e s' => R (.error e) s') s1) (notedBy (model P w) A en fun e s' => R (.error e) s') s)
    (n0 : Nat) (j0 : J n0 s0) : codeAny (model P w) A (.compLoop (.ListComp elt [⟨tg, iter, tests, 0⟩] sc ps) 0 itv acc en) R s0 := by
  refine codeAny_loop rfl J (fun n s hJ => ?_) n0 j0
  show wpAny _ A ((compTurn (.ListComp elt [⟨tg, iter, tests, 0⟩] sc ps) 0 itv acc en).onRaise (fun x => do noteFrame x en; theTreesLotGoes x)) _ _ s
  refine wpAny_noted ?_
  rw [compTurn_list]
  refine wpAny_bind (wpAny_standAt (wpAny_bind (wpAny_mono (turn n s hJ) (fun r s1 h1 => ?_) fun _ _ z => z)))
  cases r with
  | none => exact wpAny_pure h1
  | some v =>
    refine wpAny_bind (wpAny_mono h1 (fun _ s1' h1' => wpAny_bind (wpAny_mono h1' (fun _ s2 h2 => wpAny_bind (wpAny_mono h2 (fun ok s3 h3 => ?_) fun _ _ z => z)) fun _ _ z => z)) fun _ _ z => z)
    cases ok with
    | false => exact wpAny_pure ⟨rfl, h3⟩
    | true =>
      exact wpAny_bind (wpAny_bind (wpAny_mono h3 (fun x s4 h4 => wpAny_bind (wpAny_mono h4 (fun _ s5 h5 => wpAny_pure (wpAny_pure ⟨rfl, h5⟩)) fun _ _ z => z)) fun _ _ z => z))
theorem comp_loop {Y : Cx} {elt iter : Expr} {tg : Expr} {ifs : List Expr} {scope : Scope} {pos : Pos} {it D : Addr} {fp : List Addr} {tn : Nat → Heap → Prop} {J : It} {g : TG} {tf : TT} {te : TE} {Q : VK} {R : Result → Shared → Prop}
    (T : Turn Y.prog Y.w Y.K tg J fp it tn) (hc : Y.calm = true) (gY : PG Y tg g) (hF : PF Y ifs tf) (hE : PE Y elt te) (fpY : ∀ {H' : Hp}, (∀ b ∈ fp, H' b = none) → ∀ b ∈ fp, FpOk Y [] H' b) (hx : ∀ e s, ¬ Y.xe e s)
    {W : Nat → Nat → St → Hp → Prop} (turn : ∀ i m σ' H', W i m σ' H' →
      (J.stop i H' ∧ Q (.ref D) H') ∨ (J.go i H' ∧ ∃ N : St → Hp → Prop, (∀ σ2 H2, N σ2 H2 → ∃ m', m' < m ∧ W (i + 1) m' σ2 H2) ∧
        ∀ x H2, J.yld i H' x H2 → g x σ' H2 fun σ1 H3 => tf σ1 H3 fun b H4 => if b = true then te σ1 H4 fun v H5 => rAppend (.ref D) [v] H5 fun _ H6 => N σ1 H6 else N σ1 H4))
    (fin : ∀ σ' H' s', Inv Y [] σ' H' s' → Q (.ref D) H' → R (.ok .next) s') {m0 : Nat} {σ0 : St} {H0 : Hp} {s0 : Shared} (I0 : Inv Y [] σ0 H0 s0) (st0 : tn 0 s0.heap) (fr0 : ∀ b ∈ fp, H0 b = none) (w0 : W 0 m0 σ0 H0) :
    codeAny (model Y.prog Y.w) Y.A (.compLoop (.ListComp elt [⟨tg, iter, ifs, 0⟩] scope pos) 0 (.ref it) (.ref D) Y.env) R s0 := by
  refine compLoop_own (fun n s' => ∃ i σ' H', Inv Y [] σ' H' s' ∧ tn i s'.heap ∧ (∀ b ∈ fp, H' b = none) ∧ W i n σ' H') ?_ m0 ⟨0, _, _, I0, st0, fr0, w0⟩
  rintro n s5 ⟨i, σ5, H5, I5, st5, fr5, w5⟩
  have noE : ∀ {α : Type} {t : Sem α} {Q1 : α → Shared → Prop} {E2 : Value → Shared → Prop} {s1 : Shared}, wpAny (model Y.prog Y.w) Y.A t Q1 Y.xe s1 → wpAny (model Y.prog Y.w) Y.A t Q1 E2 s1 :=
    fun h => wpAny_mono h (fun _ _ q => q) fun e s z => (hx e s z).elim
  rcases turn i n σ5 H5 w5 with ⟨stop, qn⟩ | ⟨go, N, hN, step⟩
  · refine thn (T.done Y rfl rfl rfl hc i [] s5 σ5 H5 _ I5 (fpY fr5) st5 stop) fun r s6 ⟨hr, I6⟩ => ?_
    subst hr
    exact fin σ5 H5 s6 I6 qn
  · refine thn (T.item Y rfl rfl rfl hc i [] s5 σ5 H5 _ I5 (fpY fr5) st5 go) fun r s6 ⟨u, hr, h6⟩ => ?_
    subst hr
    refine thn h6 fun _ s7 zz => ?_
    obtain ⟨x7, H7, I7, r7, y7, st7, fr7⟩ := zz
    have I7' := I7.pinned (fpY fr7) (T.obj _ _ st7)
    have again : ∀ {σ9 : St} {H9 : Hp} {s9 : Shared}, Inv Y ([] ++ pinsAt fp s7.heap) σ9 H9 s9 → N σ9 H9 → ∃ m, m < n ∧ ∃ i σ' H', Inv Y [] σ' H' s9 ∧ tn i s9.heap ∧ (∀ b ∈ fp, H' b = none) ∧ W i m σ' H' := fun {σ9 H9 s9} I9 n9 => by
      obtain ⟨m', hm, w9⟩ := hN σ9 H9 n9
      refine ⟨m', hm, i + 1, σ9, H9, I9.unpinned, T.keep _ _ _ st7 fun b hb o e => (I9.pin (b, o) (List.mem_append_right _ (List.mem_append_right _ (mem_pinsAt hb e)))).1, fun b hb => ?_, w9⟩
      obtain ⟨o, e, d⟩ := T.obj _ _ st7 b hb
      exact (I9.pin (b, o) (List.mem_append_right _ (List.mem_append_right _ (mem_pinsAt hb e)))).2.1
    refine noE (thn (gY _ s7 σ5 H7 x7 u _ I7' r7 (step x7 _ y7)) fun _ s8 zz => ?_)
    obtain ⟨σ8, H8, I8, q8⟩ := zz
    refine noE (thn (hF _ s8 _ _ _ I8 q8) fun b s9 ⟨H9, I9, q9⟩ => ?_)
    cases b with
    | false => exact again I9 q9
    | true =>
      refine noE (thn (hE _ s9 _ _ _ I9 q9) fun y s10 zz => ?_)
      obtain ⟨v10, H10, I10, r10, q10⟩ := zz
      refine noE (thn (mt_append (X := Y) _ s10 _ _ (.ref D) [v10] (.ref D) [y] _ I10 rfl (.cons r10 .nil) q10) fun _ s11 zz => ?_)
      obtain ⟨v11, H11, I11, _, q11⟩ := zz
      exact again I11 q11
theorem pg_nameC {scope : Scope} {Ni : List Str} {caps : List (Option Nat)} {x : Str} {px : Pos} {gi : Nat} {cs : List (Str × Addr)} {s₃ : Shared} {H₃ : Hp} {fp : List Addr} {pins : List (Addr × Obj)}
    (S : CompScope X scope Ni caps) (hx : scope.names.lookup x = some .local ∨ scope.names.lookup x = some .cell) (hgi : Ni[gi]? = some x) : PG (compCx X scope Ni cs s₃ H₃ fp pins) (.Name x px) (gName gi) := by
  rcases hx with hx | hx
  · exact pg_name S.nd hgi (.inl (lookup_relabel_local hx)) (.inr (lookup_relabel_local hx))
  · refine pg_name S.nd hgi ?_ (.inl (decide_eq_true hx))
    have : (relabel scope X.env).names.lookup x = some .cell := lookup_relabel_own hx
    exact .inr this
theorem comp_core {elt iter : Expr} {tg : Expr} {ifs : List Expr} {scope : Scope} {pos pos' : Pos} {wi : TI} {Ni : List Str} {caps : List (Option Nat)} {g : TG} {tf : TT} {te : TE}
    (hc : X.calm = true) (hi : PI X tg iter wi) (S : CompScope X scope Ni caps) (hG : CompScope X scope Ni caps → ∀ cs s₃ H₃ fp pins, PG (compCx X scope Ni cs s₃ H₃ fp pins) tg g)
    (hF : ∀ cs s₃ H₃ fp pins, PF (compCx X scope Ni cs s₃ H₃ fp pins) ifs tf) (hE : ∀ cs s₃ H₃ fp pins, PE (compCx X scope Ni cs s₃ H₃ fp pins) elt te)
    (hs : ∀ x, foldedSetIterable iter X.env x = pure x)
    {pins : List (Addr × Obj)} {s : Shared} {σ : St} {H : Hp} {Q : VK} (I : Inv X pins σ H s) (h : tComp wi caps g tf te σ H Q) {use : Option (Value → Sem Unit)} {R : Value → Shared → Prop}
    (fin : ∀ (D C : Addr) (H' : Hp) (s' : Shared) (m : Str → Option Value), Inv X pins σ H' s' → Q (.ref D) H' → s'.heap.Ns C m → H' C = none → X.s₀.heap.objs.size ≤ C → C ≠ X.env.locals → (∀ y c, X.env.cells.lookup y = some c → c ≠ C) → (∀ p ∈ X.pn ++ pins, p.1 ≠ C) →
      compPost (model X.prog X.w) X.A X.xe use R (.ref D) C (.ok .next) s') :
    wpAny (model X.prog X.w) X.A (comprehension (.ListComp elt [⟨tg, iter, ifs, 0⟩] scope pos) scope X.env pos' (newList []) false (eval iter X.env) use) R X.xe s := by
  obtain ⟨cl, hcl, hsub, hall⟩ := closureFor_all (env := X.env) (scope := scope) fun y hy hf => I.ok.has y.1 (S.free y hy hf)
  refine wpAny_comprehension_free rfl hs hcl S.kind (fun y hy hl => by obtain ⟨n, k⟩ := y; cases hl; exact nodup_lookup S.ndn hy) (thn (hi pins s σ H _ I h) fun v s1 h1 => thn h1 fun itv s2 h2 => ?_)
  obtain ⟨it, fp, tn, J, H2, e, I2, T, st2, f2, hW⟩ := h2
  subst e
  have I3 : Inv X pins σ (upd H2 s2.heap.objs.size (.lst [])) { s2 with heap := s2.heap.push { cls := .type "list", dict := none, data := .seq ([] : List Value).toArray }, toks := s2.toks } :=
    I2.laid (fun b u e => Heap.get?_push_of_some _ e) (Nat.le_refl _) ⟨Nat.zero_le _, [], _, .nil, Heap.get?_push_size _ rfl⟩
  have hD : H2 s2.heap.objs.size = none := I2.hok.fresh (Nat.le_refl _)
  obtain ⟨W, ⟨m0, w0⟩, turn⟩ := hW s2.heap.objs.size hD
  have st3 : tn 0 (s2.heap.push { cls := .type "list", dict := none, data := .seq ([] : List Value).toArray }) := T.keep _ _ _ st2 fun b _ o e => Heap.get?_push_of_some _ e
  have f3 : ∀ b ∈ fp, FpOk X pins (upd H2 s2.heap.objs.size (.lst [])) b := fun b hb => by
    obtain ⟨o, e, _⟩ := T.obj _ _ st2 b hb
    exact ⟨by rw [upd_ne (Nat.ne_of_lt (Heap.lt_size e))]; exact (f2 b hb).1, (f2 b hb).2⟩
  refine wpAny_newObj_type ?_
  generalize hs3 : ({ s2 with heap := s2.heap.push { cls := .type "list", dict := none, data := .seq ([] : List Value).toArray }, toks := s2.toks } : Shared) = s3 at I3
  have eh : s2.heap.push { cls := .type "list", dict := none, data := .seq ([] : List Value).toArray } = s3.heap := by rw [← hs3]
  rw [eh] at st3
  have hf3 : ∀ b ∈ fp, b < s3.heap.objs.size := fun b hb => by
    obtain ⟨o, e, _⟩ := T.obj _ _ st3 b hb
    exact Heap.lt_size e
  refine wpAny_compEnv fun own s4 eo e4 k4 ns4 oc4 ap4 => ?_
  have T4 : CompAt X scope own cl s3 := ⟨eo, ap4, fun n c hm => (oc4 n c hm).2, hsub, hall⟩
  have I4 := comp_start (Ni := Ni) (caps := caps) S T4 I3 f3 hf3 e4 k4 ns4 fun n c hm => (oc4 n c hm).1
  have st4 : tn 0 s4.heap := T.keep _ _ _ st3 fun b _ o e => k4 b o e
  have fpY : ∀ {H' : Hp}, (∀ b ∈ fp, H' b = none) → ∀ b ∈ fp, FpOk (compCx X scope Ni (own ++ cl) s3 (upd H2 s2.heap.objs.size (.lst [])) fp pins) [] H' b := fun hn b hb =>
    ⟨hn b hb, Nat.ne_of_lt (hf3 b hb), I4.ok.exfs b hb, .inl hb, (I4.ok.exf b hb).2, fun p hp => by
      have hp' : p ∈ X.pn ++ pins := by
        have : p ∈ (X.pn ++ pins) ++ [] := hp
        simpa using this
      exact (f3 b hb).2.2.2.2.2 p hp'⟩
  have loop := comp_loop (Q := Q) (elt := elt) (iter := iter) (scope := scope) (pos := pos) (R := compPost (model X.prog X.w) X.A X.xe use R (.ref s2.heap.objs.size) s3.heap.objs.size) (Y := compCx X scope Ni (own ++ cl) s3 (upd H2 s2.heap.objs.size (.lst [])) fp pins)
    T hc (hG S _ _ _ _ _) (hF _ _ _ _ _) (hE _ _ _ _ _) fpY (fun _ _ z => z) turn (fun σ' H' s' I6 qn => by
      have I6' := comp_end I3 f3 I6
      obtain ⟨m6, ns6, _⟩ := I6.loc
      exact fin _ _ H' s' m6 I6' qn ns6 I6.free I3.sz (Nat.ne_of_gt I3.lt) (fun y c hc' => Nat.ne_of_lt (cells_lt I3 hc')) fun p hp => Nat.ne_of_lt (Heap.lt_size (I3.pin p hp).1)) I4 st4 (fun b hb => (f3 b hb).1) w0
  exact codeAny_compStart_list loop (T.self _ _ _ _ _ st4 loop)
theorem pe_comp {elt iter : Expr} {tg : Expr} {ifs : List Expr} {scope : Scope} {pos : Pos} {wi : TI} {Ni : List Str} {caps : List (Option Nat)} {g : TG} {tf : TT} {te : TE}
    (hc : X.calm = true) (hi : PI X tg iter wi) (S : CompScope X scope Ni caps) (hG : CompScope X scope Ni caps → ∀ cs s₃ H₃ fp pins, PG (compCx X scope Ni cs s₃ H₃ fp pins) tg g)
    (hF : ∀ cs s₃ H₃ fp pins, PF (compCx X scope Ni cs s₃ H₃ fp pins) ifs tf) (hE : ∀ cs s₃ H₃ fp pins, PE (compCx X scope Ni cs s₃ H₃ fp pins) elt te)
    (hs : autoParam (∀ x, foldedSetIterable iter X.env x = pure x) Internal.aut3._auto_1) : PE X (.ListComp elt [⟨tg, iter, ifs, 0⟩] scope pos) (tComp wi caps g tf te) := by
  intro pins s σ H Q I h
  rw [eval_ListComp]
  refine comp_core hc hi S hG hF hE hs I h fun D C H' s' m I' q ns hn hC h1 h2 h3 => ?_
  refine ⟨m, ns, fun h' sb => ?_⟩
  exact ⟨.ref D, H', I'.turned (t' := s'.toks) (it := C) (fun b o hb e => (sb.2 b hb).trans e) hn h1 (.inr hC) h2 h3, rfl, q⟩
theorem ps_setC {i : Nat} {y : Str} {py : Pos} {elt iter : Expr} {tg : Expr} {ifs : List Expr} {scope : Scope} {pos spos : Pos} {wi : TI} {Ni : List Str} {caps : List (Option Nat)} {g : TG} {tf : TT} {te : TE}
    (hN : X.N.Nodup) (hyi : X.N[i]? = some y) (hy : X.env.scope.names.lookup y = some .local) (hc : X.calm = true) (hi : PI X tg iter wi) (S : CompScope X scope Ni caps) (hG : CompScope X scope Ni caps → ∀ cs s₃ H₃ fp pins, PG (compCx X scope Ni cs s₃ H₃ fp pins) tg g)
    (hF : ∀ cs s₃ H₃ fp pins, PF (compCx X scope Ni cs s₃ H₃ fp pins) ifs tf) (hE : ∀ cs s₃ H₃ fp pins, PE (compCx X scope Ni cs s₃ H₃ fp pins) elt te)
    (hsw : autoParam (swapsWith (.ListComp elt [⟨tg, iter, ifs, 0⟩] scope pos) (some (.Name y py)) spos.line X.env = pure true) Internal.aut2._auto_1)
    (hs : autoParam (∀ x, foldedSetIterable iter X.env x = pure x) Internal.aut3._auto_1) : PS X (.Assign [.Name y py] (.ListComp elt [⟨tg, iter, ifs, 0⟩] scope pos) spos) (tAsg (tComp wi caps g tf te) (gName i)) := by
  intro pins s σ H D I h
  rw [exec_Assign_Name_used _ _ _ _ hsw]
  refine wpAny_bind (wpAny_standAt (wpAny_bind ?_))
  show wpAny _ X.A (do let _ ← comprehension (.ListComp elt [⟨tg, iter, ifs, 0⟩] scope pos) scope X.env _ (newList []) false (eval iter X.env) (some (assign (.Name y py) X.env))) _ _ s
  refine wpAny_bind (wpAny_mono (comp_core (R := fun _ s' => SP X pins D .next s') hc hi S hG hF hE hs I h fun L C H' s' m I' q ns hn hC h1 h2 h3 => ?_) (fun _ s' hq => wpAny_pure (wpAny_pure hq)) fun _ _ e => e)
  show wpAny _ X.A (assign (.Name y py) X.env (.ref L)) _ _ _
  refine wpAny_assign_Name (store_ok2 (v := .ref L) I' hN hyi (.inl hy) rfl (fun s2 I2 sb2 => ?_) (.inr hy))
  obtain ⟨a, sb, ha⟩ := sb2
  have hCa : C ≠ a := by
    rcases ha with z | z
    · rw [z]; exact h1
    · exact fun w' => h2 y a z w'.symm
  refine ⟨m, ns.sameBut sb hCa, fun h' sb' => ?_⟩
  exact ⟨_, H', I2.turned (t' := s2.toks) (it := C) (fun b o hb e => (sb'.2 b hb).trans e) hn h1 (.inr hC) h2 h3, q⟩
end
end Internal

namespace My
noncomputable def gc (a b : Int) : Int := (Int.gcd a b : Int)
theorem gc_nonneg (a b : Int) : 0 ≤ gc a b := Int.natCast_nonneg _
theorem gc_comm (a b : Int) : gc a b = gc b a := by unfold gc; rw [Int.gcd_comm]
theorem gc_dvd_left (a b : Int) : gc a b ∣ a := Int.gcd_dvd_left a b
theorem gc_dvd_right (a b : Int) : gc a b ∣ b := Int.gcd_dvd_right a b
theorem dvd_gc {k a b : Int} (h1 : k ∣ a) (h2 : k ∣ b) : k ∣ gc a b := Int.dvd_coe_gcd h1 h2
theorem gc_pos_right {a b : Int} (h : b ≠ 0) : 0 < gc a b := by
  have := Int.gcd_pos_of_ne_zero_right a h
  unfold gc; omega
theorem gc_zero_right {a : Int} (h : 0 ≤ a) : gc a 0 = a := by unfold gc; rw [Int.gcd_zero_right]; omega
theorem gc_abs (a b : Int) : gc (if a < 0 then -a else a) (if b < 0 then -b else b) = gc a b := by
  unfold gc; split <;> split <;> simp [Int.gcd]
theorem gc_step {a b : Int} : gc b (a % b) = gc a b := by
  rw [gc_comm a b]
  refine Int.dvd_antisymm (gc_nonneg _ _) (gc_nonneg _ _) ?_ ?_
  · refine dvd_gc (gc_dvd_left b (a % b)) ?_
    have e : a = b * (a / b) + a % b := (Int.mul_ediv_add_emod a b).symm
    have := Int.dvd_add (Int.dvd_mul_of_dvd_left (c := a / b) (gc_dvd_left b (a % b))) (gc_dvd_right b (a % b))
    rwa [← e] at this
  · refine dvd_gc (gc_dvd_left b a) ?_
    rw [Int.emod_def]
    exact Int.dvd_sub (gc_dvd_right b a) (Int.dvd_mul_of_dvd_left (gc_dvd_left b a))
theorem gc_one_nat {a b : Int} (h : gc a b = 1) : a.gcd b = 1 := by unfold gc at h; omega
theorem low_unique {x y : Int} {q : Rat} (hy : 0 < y) (hg : gc x y = 1) (e : Rat.divInt x y = q) : x = q.num ∧ y = (q.den : Int) := by
  obtain ⟨d, rfl⟩ := Int.eq_ofNat_of_zero_le (Int.le_of_lt hy)
  have hc : x.natAbs.Coprime d := by
    have := gc_one_nat hg
    rw [Int.gcd_eq_natAbs_gcd_natAbs] at this
    exact this
  have hd : d ≠ 0 := by omega
  have : Rat.mk' x d hd hc = q := by rw [Rat.mk_eq_divInt]; exact e
  subst this
  exact ⟨rfl, rfl⟩
theorem rat_den_pos (q : Rat) : 0 < (q.den : Int) := by have := q.den_nz; omega
theorem gc_div {a b : Int} (h : b ≠ 0) : gc (a / gc a b) (b / gc a b) = 1 := by
  have hp := gc_pos_right (a := a) h
  unfold gc
  have := Int.gcd_ediv (a := a) (b := b) (c := (a.gcd b : Int)) (gc_dvd_left a b) (gc_dvd_right a b)
  rw [this]
  have hp' : 0 < a.gcd b := by unfold gc at hp; omega
  rw [Int.natAbs_natCast, Nat.div_self hp']; rfl
theorem divInt_reduce {a b c : Int} (hb : b ≠ 0) (ha : c ∣ a) (hc : c ∣ b) : Rat.divInt (a / c) (b / c) = Rat.divInt a b := by
  obtain ⟨x, rfl⟩ := ha
  obtain ⟨y, rfl⟩ := hc
  have hc0 : c ≠ 0 := by rintro rfl; simp at hb
  rw [Int.mul_ediv_cancel_left _ hc0, Int.mul_ediv_cancel_left _ hc0, Rat.divInt_mul_left hc0]
theorem part_pos {t b : Int} (hb : 0 < b) : t / gc t b = (Rat.divInt t b).num ∧ b / gc t b = ((Rat.divInt t b).den : Int) := by
  have hp := gc_pos_right (a := t) (b := b) (by omega)
  refine low_unique ?_ (gc_div (by omega)) (divInt_reduce (by omega) (gc_dvd_left _ _) (gc_dvd_right _ _))
  exact Int.ediv_pos_of_pos_of_dvd hb (by omega) (gc_dvd_right _ _)
theorem part_neg {t b : Int} (hb : b < 0) : t.fdiv (-gc t b) = (Rat.divInt t b).num ∧ b.fdiv (-gc t b) = ((Rat.divInt t b).den : Int) := by
  have d1 : -gc t b ∣ t := Int.neg_dvd.mpr (gc_dvd_left _ _)
  have d2 : -gc t b ∣ b := Int.neg_dvd.mpr (gc_dvd_right _ _)
  rw [Int.fdiv_eq_ediv_of_dvd d1, Int.fdiv_eq_ediv_of_dvd d2]
  have e := part_pos (t := -t) (b := -b) (by omega)
  have g : gc (-t) (-b) = gc t b := by unfold gc; simp [Int.gcd]
  rw [g, Rat.neg_divInt_neg] at e
  rw [Int.ediv_neg, Int.ediv_neg]
  rw [Int.neg_ediv_of_dvd (gc_dvd_left _ _), Int.neg_ediv_of_dvd (gc_dvd_right _ _)] at e
  exact e
end My

set_option Elab.async false
set_option linter.all false
set_option maxRecDepth 100000
namespace Internal
open PySem PySem.Spec PyProof.Rows
section
variable {K : PySem.W.Frag} {H : Hp} {Q : VK}
theorem x_isII {i : Int} (q : Q (.bl true) H) : rIsi K [.int i, .ty "int"] H Q := x_isi (t' := .type "int") (cv := .type "int") (b := true) rfl (.int i) (by with_unfolding_all rfl) q
theorem x_isIB {i : Int} (q : Q (.bl false) H) : rIsi K [.int i, .ty "bool"] H Q := x_isi (t' := .type "int") (cv := .type "bool") (b := false) rfl (.int i) (by with_unfolding_all rfl) q
theorem x_isTT {a : Addr} {xs : List V} (h : H a = some (.tup xs)) (q : Q (.bl true) H) : rIsi K [.ref a, .ty "tuple"] H Q := x_isi (t' := .type "tuple") (cv := .type "tuple") (b := true) rfl (.tup h) (by with_unfolding_all rfl) q
theorem x_isLL {a : Addr} {xs : List V} (h : H a = some (.lst xs)) (q : Q (.bl true) H) : rIsi K [.ref a, .ty "list"] H Q := x_isi (t' := .type "list") (cv := .type "list") (b := true) rfl (.lst h) (by with_unfolding_all rfl) q
end
noncomputable def spDiv : Sp := fun vs H Q _ => ∃ a b : Int, vs = [.int a, .int b] ∧ Q (.int (My.gc a b)) H
theorem spDiv_i {a b : Int} {H : Hp} {Q : VK} {E : XK} (q : Q (.int (My.gc a b)) H) : spDiv [.int a, .int b] H Q E := ⟨a, b, rfl, q⟩
theorem abs_nn (a : Int) : 0 ≤ if a < 0 then -a else a := by split <;> omega
theorem sz_gc_right {a b : Int} {n : Nat} (h : b ≠ 0) (hs : sz b ≤ n) : sz (My.gc a b) ≤ n := by
  refine Nat.le_trans (sz_mono ?_) hs
  have h1 := My.gc_pos_right (a := a) h
  obtain ⟨c, hc⟩ := My.gc_dvd_right a b
  have hc0 : c ≠ 0 := by rintro rfl; rw [Int.mul_zero] at hc; exact h hc
  have e : b.natAbs = (My.gc a b).natAbs * c.natAbs := by rw [← Int.natAbs_mul, ← hc]
  rw [e]
  exact Nat.le_mul_of_pos_right _ (by omega)
noncomputable def cell (ns : List Int) (k : Int) : Int := ns.getD k.toNat 0
noncomputable def spCell (K : PySem.W.Frag) : Sp := fun vs H Q _ => ∃ (a : Addr) (ns : List Int) (k : Int), vs = [.ref a, .int k] ∧ SqL K H a (ns.map V.int) ∧ 0 ≤ k ∧ Q (.int (cell ns k)) H
theorem cell_in {ns : List Int} {k : Int} (h0 : 0 ≤ k) (h : k < ((ns.map V.int).length : Int)) : atI (ns.map V.int) k = some (.int (cell ns k)) := by
  rw [List.length_map] at h
  have hk : k.toNat < ns.length := by omega
  have ek : k = ((k.toNat : Nat) : Int) := by omega
  have q : atI (ns.map V.int) ((k.toNat : Nat) : Int) = some (.int ns[k.toNat]) := atI_nat (by rw [List.getElem?_map, List.getElem?_eq_getElem hk]; rfl)
  rw [← ek] at q
  rw [q]; unfold cell; rw [List.getD_eq_getElem?_getD, List.getElem?_eq_getElem hk]; rfl
theorem cell_out {ns : List Int} {k : Int} (h : ¬ k < ((ns.map V.int).length : Int)) : cell ns k = 0 := by
  rw [List.length_map] at h
  unfold cell; rw [List.getD_eq_getElem?_getD, List.getElem?_eq_none (by omega)]; rfl
theorem spCell_i {K : PySem.W.Frag} {a : Addr} {ns : List Int} {k : Int} {H : Hp} {Q : VK} {E : XK} (hS : SqL K H a (ns.map V.int)) (h0 : 0 ≤ k) (q : Q (.int (cell ns k)) H) : spCell K [.ref a, .int k] H Q E := ⟨a, ns, k, rfl, hS, h0, q⟩
noncomputable def spWhole : Sp := fun vs H Q _ => ∃ i : Int, vs = [.int i] ∧ Q (.bl true) H
theorem spWhole_i {a : Int} {H : Hp} {Q : VK} {E : XK} (q : Q (.bl true) H) : spWhole [.int a] H Q E := ⟨a, rfl, q⟩
noncomputable def IsQ (H : Hp) (a : Addr) (q : Rat) : Prop := H a = some (.tup [.int q.num, .int (q.den : Int)])
theorem IsQ.sq {K : PySem.W.Frag} {H : Hp} {a : Addr} {q : Rat} (h : IsQ H a q) : SqT K H a [.int q.num, .int (q.den : Int)] := SqT.of h
noncomputable def dQ (q : Rat) : PyData := .tuple [.int q.num, .int (q.den : Int)]
theorem IsQ.len {K : PySem.W.Frag} {H : Hp} {a : Addr} {q : Rat} {Q : VK} (h : IsQ H a q) (k : Q (.int 2) H) : rLen K [.ref a] H Q := x_lenT h.sq k
theorem IsQ.isT {K : PySem.W.Frag} {H : Hp} {a : Addr} {q : Rat} {Q : VK} (h : IsQ H a q) (k : Q (.bl true) H) : rIsi K [.ref a, .ty "tuple"] H Q := x_isTT h k
theorem IsQ.rep {K : PySem.W.Frag} {H : Hp} {a : Addr} {q : Rat} (h : IsQ H a q) : RepD K H (.ref a) (dQ q) := .tup h.sq (.cons (.int _) (.cons (.int _) .nil))
theorem IsQ.same {H H' : Hp} {a : Addr} {q : Rat} (h : IsQ H a q) (e : Same H H') : IsQ H' a q := e _ _ h
theorem depthQ (q : Rat) : (dQ q).depth = 1 := by simp [dQ, PyData.depth, PyData.depthAll]
theorem den_pos (q : Rat) : 0 < (q.den : Int) := My.rat_den_pos q
noncomputable def NewQ (H : Hp) (Q : VK) (q : Rat) : Prop := ∀ p H', Same H H' → IsQ H' p q → Q (.ref p) H'
theorem NewQ.mk {H : Hp} {Q : VK} {q : Rat} {x y : Int} (k : NewQ H Q q) (e : x = q.num ∧ y = (q.den : Int)) : rTup Q [.int x, .int y] H := by
  refine ⟨by show 2 ≤ sizeLine; decide, fun p hp => k p _ (Same.new hp _) ?_⟩
  rw [e.1, e.2]; exact upd_same
noncomputable def SzQ (q : Rat) (n m : Nat) : Prop := sz q.num ≤ n ∧ sz (q.den : Int) ≤ m
theorem SzQ.mono {q : Rat} {n m n' m' : Nat} (h : SzQ q n m) (h1 : n ≤ n') (h2 : m ≤ m') : SzQ q n' m' := ⟨Nat.le_trans h.1 h1, Nat.le_trans h.2 h2⟩
theorem szQ_div {t b : Int} {n m : Nat} (hb : 0 < b) (h1 : sz t ≤ n) (h2 : sz b ≤ m) : SzQ (Rat.divInt t b) n m := by
  have e := My.part_pos (t := t) hb
  unfold SzQ
  rw [← e.1, ← e.2]
  exact ⟨Nat.le_trans (sz_div _ _) h1, Nat.le_trans (sz_div _ _) h2⟩
theorem szQ_div' {t b : Int} {n m : Nat} (hb : b ≠ 0) (h1 : sz t ≤ n) (h2 : sz b ≤ m) : SzQ (Rat.divInt t b) n m := by
  rcases Int.lt_or_le 0 b with h | h
  · exact szQ_div h h1 h2
  · rw [← Rat.neg_divInt_neg]
    exact szQ_div (by omega) (Nat.le_trans (sz_neg _) h1) (Nat.le_trans (sz_neg _) h2)
noncomputable def IsQs (H : Hp) : List V → List Rat → Prop
  | [], [] => True
  | v :: vs, q :: qs => (∃ a, v = .ref a ∧ IsQ H a q) ∧ IsQs H vs qs
  | _, _ => False
theorem IsQs.same {H H' : Hp} (e : Same H H') : ∀ {vs : List V} {qs : List Rat}, IsQs H vs qs → IsQs H' vs qs
  | [], [], _ => trivial
  | _ :: _, _ :: _, ⟨⟨a, e1, h⟩, r⟩ => ⟨⟨a, e1, h.same e⟩, r.same e⟩
theorem IsQs.length {H : Hp} : ∀ {vs : List V} {qs : List Rat}, IsQs H vs qs → vs.length = qs.length
  | [], [], _ => rfl
  | _ :: _, _ :: _, ⟨_, r⟩ => by rw [List.length_cons, List.length_cons, r.length]
theorem IsQs.app {H : Hp} {a : Addr} {q : Rat} (h : IsQ H a q) : ∀ {vs : List V} {qs : List Rat}, IsQs H vs qs → IsQs H (vs ++ [.ref a]) (qs ++ [q])
  | [], [], _ => ⟨⟨a, rfl, h⟩, trivial⟩
  | _ :: _, _ :: _, ⟨x, r⟩ => ⟨x, IsQs.app h r⟩
theorem IsQs.get {H : Hp} : ∀ {vs : List V} {qs : List Rat} {i : Nat} {v : V}, IsQs H vs qs → vs[i]? = some v → ∃ a q, v = .ref a ∧ qs[i]? = some q ∧ IsQ H a q
  | _ :: _, _ :: _, 0, _, ⟨⟨a, e, h⟩, _⟩, rfl => ⟨a, _, e, rfl, h⟩
  | _ :: _, _ :: _, i + 1, _, ⟨_, r⟩, e => r.get (i := i) (by simpa using e)
  | [], [], _, _, _, e => by simp at e
theorem IsQs.rep {K : PySem.W.Frag} {H : Hp} : ∀ {vs : List V} {qs : List Rat}, IsQs H vs qs → RepAll K H vs (qs.map dQ)
  | [], [], _ => .nil
  | _ :: _, _ :: _, ⟨⟨a, e, h⟩, r⟩ => by subst e; exact .cons h.rep r.rep
noncomputable def sumQ (qs : List Rat) : Rat := qs.foldl (· + ·) 0
theorem depthAllQ : ∀ qs : List Rat, PyData.depthAll (qs.map dQ) ≤ 1
  | [] => by simp [PyData.depthAll]
  | q :: qs => by
    have h := depthAllQ qs
    have h1 := depthQ q
    simp only [List.map_cons, PyData.depthAll]
    omega
theorem szL {i : Int} {n : Nat} (hn : 200 ≤ n) (h1 : -1606938044258990275541962092341162602522202993782792835301376 < i) (h2 : i < 1606938044258990275541962092341162602522202993782792835301376) : sz i ≤ n := Nat.le_trans (sz200 h1 h2) hn
end Internal

set_option Elab.async false
set_option linter.all false
set_option maxRecDepth 100000
namespace Internal
open PySem PySem.Spec PyProof.Rows
section
variable {σ : St} {H : Hp} {Q : VK} {D : Ends} {ta tb tc te to : TE} {t u : TS} {K : PySem.W.Frag}
noncomputable def ForK (J : It) (g : TG) (tb : TS) : TS := fun D σ H => ∃ W : Nat → Nat → St → Hp → Prop, (∃ m, W 0 m σ H) ∧ ∀ i m σ H, W i m σ H →
  (J.stop i H ∧ D.nx σ H) ∨ (J.go i H ∧ ∃ N : St → Hp → Prop, (∀ σ' H', N σ' H' → ∃ m', m' < m ∧ W (i + 1) m' σ' H') ∧ ∀ x H', J.yld i H x H' → g x σ H' fun σ2 H2 => tb { D with nx := N, ct := N, bk := D.nx } σ2 H2)
theorem x_for {wi : TI} {g : TG} {tb : TS} (q : wi σ H fun J H1 => ForK J g tb D σ H1) : tFor wi g tb D σ H := q
noncomputable def rRng1 (R : It → Hp → Prop) (vs : List V) (H : Hp) : Prop := ∃ j : Int, vs = [.int j] ∧ -(2 ^ 62) ≤ j ∧ j < 2 ^ 62 ∧ R (Itr 0 j.toNat) H
noncomputable def rRng2 (R : It → Hp → Prop) (vs : List V) (H : Hp) : Prop := ∃ i j : Int, vs = [.int i, .int j] ∧ (-(2 ^ 62) ≤ i ∧ i < 2 ^ 62 ∧ -(2 ^ 62) ≤ j ∧ j < 2 ^ 62) ∧ R (Itr i (j - i).toNat) H
noncomputable def rItL (K : PySem.W.Frag) (R : It → Hp → Prop) (x : V) (H : Hp) : Prop := ∃ a, x = .ref a ∧ (∃ xs, SqL K H a xs) ∧ R (Itl K a) H
theorem x_rng1 {tr : TA} {R : It → Hp → Prop} (q : tr σ H (rRng1 R)) : iRng1 tr σ H R := q
theorem x_rng2 {tr : TA} {R : It → Hp → Prop} (q : tr σ H (rRng2 R)) : iRng2 tr σ H R := q
theorem x_itL {R : It → Hp → Prop} (q : te σ H (rItL K R)) : iList K te σ H R := q
theorem x_rngk1 {R : It → Hp → Prop} {j : Int} (h1 : -4611686018427387904 ≤ j) (h2 : j < 4611686018427387904) (q : R (Itr 0 j.toNat) H) : rRng1 R [.int j] H := ⟨j, rfl, h1, h2, q⟩
theorem x_rngk2 {R : It → Hp → Prop} {i j : Int} (h0 : -4611686018427387904 ≤ i) (h0' : i < 4611686018427387904) (h1 : -4611686018427387904 ≤ j) (h2 : j < 4611686018427387904) (q : R (Itr i (j - i).toNat) H) : rRng2 R [.int i, .int j] H := ⟨i, j, rfl, ⟨h0, h0', h1, h2⟩, q⟩
theorem x_itk {R : It → Hp → Prop} {a : Addr} {xs : List V} (h : SqL K H a xs) (q : R (Itl K a) H) : rItL K R (.ref a) H := ⟨a, rfl, ⟨xs, h⟩, q⟩
theorem x_gName {i : Nat} {v : V} {R : St → Hp → Prop} (q : R (σ.set i (some v)) H) : gName i v σ H R := q
theorem x_forR {lo : Int} {n : Nat} {g : TG} {tb : TS} (Pv : Nat → St → Hp → Prop) (h0 : Pv 0 σ H)
    (hs : ∀ i σ H, i < n → Pv i σ H → g (.int (lo + i)) σ H fun σ2 H2 => tb { D with nx := Pv (i + 1), ct := Pv (i + 1), bk := D.nx } σ2 H2) (hd : ∀ σ H, Pv n σ H → D.nx σ H) : ForK (Itr lo n) g tb D σ H := for_range Pv h0 hs hd
theorem x_forL {a : Addr} {xs : List V} {g : TG} {tb : TS} (Pv : Nat → St → Hp → Prop) (h0 : Pv 0 σ H) (hl : ∀ i σ H, i ≤ xs.length → Pv i σ H → SqL K H a xs)
    (hs : ∀ i x σ H, xs[i]? = some x → Pv i σ H → g x σ H fun σ2 H2 => tb { D with nx := Pv (i + 1), ct := Pv (i + 1), bk := D.nx } σ2 H2) (hd : ∀ σ H, Pv xs.length σ H → D.nx σ H) : ForK (Itl K a) g tb D σ H := for_list Pv h0 hl hs hd
theorem x_bm {T : String} {r : V → List V → Hp → VK → Prop} {tr : TA} (q : to σ H fun x H1 => tyV K T x H1 ∧ tr σ H1 fun xs H2 => r x xs H2 Q) : tBM K T r to tr σ H Q := q
theorem x_tyL {l : Addr} {xs : List V} {A : Prop} (h : H l = some (.lst xs)) (q : A) : tyV K "list" (.ref l) H ∧ A := ⟨.inl ⟨rfl, xs, SqL.of h⟩, q⟩
theorem x_append {l : Addr} {xs : List V} {y : V} (h : H l = some (.lst xs)) (hl : xs.length < sizeLine) (q : Q .non (upd H l (.lst (xs ++ [y])))) : rAppend (.ref l) [y] H Q := ⟨l, xs, y, rfl, rfl, h, hl, q⟩
theorem x_setL {l : Addr} {xs : List V} {k : Int} {j : Nat} {v : V} {R : Hp → Prop} (h : H l = some (.lst xs)) (e : ixN xs.length k = some j) (q : R (upd H l (.lst (xs.set j v)))) : rSetL (.ref l) (.int k) v H R := ⟨l, xs, k, j, rfl, rfl, h, e, q⟩
theorem x_listOf {a : Addr} {xs : List V} (h : SqL K H a xs) (q : ∀ l, H l = none → Q (.ref l) (upd H l (.lst xs))) : rListOf K [.ref a] H Q := ⟨a, xs, rfl, .inl h, q⟩
theorem x_ixLs {a : Addr} {xs : List V} {i : Int} {v : V} (h : H a = some (.lst xs)) (e : atI xs i = some v) (q : Q v H) : rIx K (.ref a) (.int i) H Q := x_ixL (.of h) e q
noncomputable def rPart (R : Option Int → Hp → Prop) (x : V) (H : Hp) : Prop := ∃ i, x = .int i ∧ R (some i) H
theorem x_part {R : Option Int → Hp → Prop} (q : te σ H (rPart R)) : tPart te σ H R := q
theorem x_partI {R : Option Int → Hp → Prop} {i : Int} (q : R (some i) H) : rPart R (.int i) H := ⟨i, rfl, q⟩
theorem x_cut {a : Addr} {xs : List V} {lo hi : Option Int} (h : SqL K H a xs) (q : ∀ p, H p = none → Q (.ref p) (upd H p (.lst (cutV xs lo hi)))) : rSlL K (.ref a) lo hi H Q := ⟨a, xs, rfl, h, q⟩
end
theorem Same.fresh {H H' : Hp} {l : Addr} (g : Same H H') (h : H' l = none) : H l = none := by
  cases e : H l with
  | none => rfl
  | some o => rw [g l o e] at h; cases h
theorem small_of {n : Nat} (h : n ≤ 100000) : n < sizeLine := Nat.lt_of_le_of_lt h (by decide)
theorem small_le {n : Nat} (h : n ≤ 100000) : n ≤ sizeLine := Nat.le_of_lt (small_of h)
noncomputable def But (l : Addr) (H H' : Hp) : Prop := ∀ b, b ≠ l → H' b = H b
theorem But.upd {H : Hp} {l : Addr} {o : HO} : But l H (Internal.upd H l o) := fun _ h => upd_ne h
theorem But.at {l : Addr} {H H' : Hp} (g : But l H H') {a : Addr} {o : HO} (h : H a = some o) (n : a ≠ l) : H' a = some o := by rw [g a n]; exact h
theorem But.same {l : Addr} {H0 H H' : Hp} (g : But l H H') (e : Same H0 H) (h : H0 l = none) : Same H0 H' := fun b o q => by rw [g b (ne_of_none q h)]; exact e b o q
noncomputable def LBut (l : Addr) (H H' : Hp) : Prop := But l H H' ∧ ∃ xs, H l = some (.lst xs)
theorem LBut.tup {l : Addr} {H H' : Hp} (g : LBut l H H') {a : Addr} {xs : List V} (h : H a = some (.tup xs)) : H' a = some (.tup xs) := by
  obtain ⟨ys, e⟩ := g.2
  exact g.1.at h (ne_of h e (by intro z; cases z))
theorem LBut.isQ {l : Addr} {H H' : Hp} (g : LBut l H H') {a : Addr} {q : Rat} (h : IsQ H a q) : IsQ H' a q := g.tup h
theorem LBut.isQs {l : Addr} {H H' : Hp} (g : LBut l H H') : ∀ {vs : List V} {qs : List Rat}, IsQs H vs qs → IsQs H' vs qs
  | [], [], _ => trivial
  | _ :: _, _ :: _, ⟨⟨a, e, h⟩, r⟩ => ⟨⟨a, e, g.isQ h⟩, g.isQs r⟩
theorem LBut.lst {l : Addr} {H H' : Hp} (g : LBut l H H') {a : Addr} {o : HO} (h : H a = some o) (n : a ≠ l) : H' a = some o := g.1.at h n
theorem LBut.same {l : Addr} {H0 H H' : Hp} (g : LBut l H H') (e : Same H0 H) (h : H0 l = none) : Same H0 H' := g.1.same e h
theorem Same.at {H H' : Hp} (e : Same H H') {a : Addr} {o : HO} (h : H a = some o) : H' a = some o := e a o h
theorem Same.isQ {H H' : Hp} (e : Same H H') {a : Addr} {q : Rat} (h : IsQ H a q) : IsQ H' a q := h.same e
theorem SqL.keep {K : PySem.W.Frag} {H H' : Hp} {a : Addr} {xs : List V} (h : SqL K H a xs) (e : Same H H') : SqL K H' a xs := e.seq h
theorem Same.after {H H1 H2 : Hp} (b : Same H1 H2) (a : Same H H1) : Same H H2 := a.trans b
theorem Same.none {H H' : Hp} {l : Addr} (h : H' l = none) (g : Same H H') : H l = none := g.fresh h
theorem ne_new' {H : Hp} {a b : Addr} {o : HO} (h' : H b = none) (h : H a = some o) : b ≠ a := (ne_of_none h h').symm
section
variable {σ : St} {H : Hp} {Q : VK} {D : Ends} {t u : TS} {K : PySem.W.Frag}
theorem x_lstN {xs : List V} (hl : xs.length ≤ 100000) (q : ∀ p H', H p = none → Same H H' → H' p = some (.lst xs) → Q (.ref p) H') : rLst Q xs H := ⟨small_le hl, fun p hp => q p _ hp (Same.new hp _) upd_same⟩
theorem x_tupQ {q : Rat} {x y : Int} (e : x = q.num ∧ y = (q.den : Int)) (k : NewQ H Q q) : rTup Q [.int x, .int y] H := NewQ.mk k e
theorem x_appN {l : Addr} {xs : List V} {y : V} (h : H l = some (.lst xs)) (hl : xs.length ≤ 100000) (q : ∀ H', LBut l H H' → H' l = some (.lst (xs ++ [y])) → Q .non H') : rAppend (.ref l) [y] H Q :=
  x_append h (small_of hl) (q _ ⟨But.upd, xs, h⟩ upd_same)
theorem x_setN {l : Addr} {xs : List V} {k : Int} {j : Nat} {v : V} {R : Hp → Prop} (h : H l = some (.lst xs)) (e : ixN xs.length k = some j) (q : ∀ H', LBut l H H' → H' l = some (.lst (xs.set j v)) → R H') : rSetL (.ref l) (.int k) v H R :=
  x_setL h e (q _ ⟨But.upd, xs, h⟩ upd_same)
theorem x_listOfN {a : Addr} {xs : List V} (h : SqL K H a xs) (q : ∀ p H', H p = none → Same H H' → H' p = some (.lst xs) → Q (.ref p) H') : rListOf K [.ref a] H Q := x_listOf h fun p hp => q p _ hp (Same.new hp _) upd_same
theorem x_cutN {a : Addr} {xs : List V} {lo hi : Option Int} (h : SqL K H a xs) (q : ∀ p H', H p = none → Same H H' → H' p = some (.lst (cutV xs lo hi)) → Q (.ref p) H') : rSlL K (.ref a) lo hi H Q := x_cut h fun p hp => q p _ hp (Same.new hp _) upd_same
theorem x_midS (i : Nat) (P : V → Hp → Prop) (q : t { D with nx := fun σ' H' => ∃ v, σ' = σ.set i (some v) ∧ P v H' } σ H) (r : ∀ v H', P v H' → u D (σ.set i (some v)) H') : tMid t u D σ H :=
  ⟨_, q, fun σ' H' ⟨v, e, p⟩ => by subst e; exact r v H' p⟩
end
theorem ixN_lt {n : Nat} {k : Int} (h0 : 0 ≤ k) (h : k < n) : ixN n k = some k.toNat := by unfold ixN; rw [if_pos h0, if_pos h]
theorem atI_lt {α : Type} {xs : List α} {k : Int} {v : α} (h0 : 0 ≤ k) (h : xs[k.toNat]? = some v) : atI xs k = some v := by
  have e : k = (k.toNat : Int) := by omega
  rw [e]; exact atI_nat h
end Internal

set_option Elab.async false
set_option linter.all false
set_option maxRecDepth 100000
namespace Internal
open PySem PySem.Spec PyProof.Rows

theorem ObjOk.obj {P : Program} {w : World} {H : Hp} {h : Heap} {a : Addr} {o : HO} (x : ObjOk P w H h a o) : ∃ u, h.get? a = some u := by
  cases o with
  | lst xs => exact ⟨_, x.2.choose_spec.choose_spec.2⟩
  | tup xs => obtain ⟨_, _, _, ob, e, _⟩ := x; exact ⟨ob, e⟩
  | dK kvs => obtain ⟨_, _, _, _, ob, _, _, e, _⟩ := x; exact ⟨ob, e⟩
  | dT kvs => obtain ⟨_, _, _, _, ob, _, _, e, _⟩ := x; exact ⟨ob, e⟩
  | set S n => obtain ⟨ob, _, _, _, e, _⟩ := x; exact ⟨ob, e⟩
  | ins C dx fs => exact ⟨_, x.2.2.2.1⟩
  | own y => exact x
  | xd fs => obtain ⟨_, ⟨ob, _, _, e, _⟩, _⟩ := x; exact ⟨ob, e⟩
  | rng lo hi => obtain ⟨_, _, _, e⟩ := x; exact ⟨_, e⟩
  | frz ob u => exact ⟨ob, x.1⟩
  | tbl ps => exact ⟨_, show h.get? a = some _ from x⟩
  | met f y => exact ⟨_, show h.get? a = some _ from x⟩
  | ext φ => exact x.2.1

noncomputable def DK {α : Type} : Sem α → Prop
  | .pure _ => True
  | .raise _ => True
  | .unsupported _ => True
  | .finish _ => True
  | .rule _ k => DK (k ())
  | .at _ k => DK (k ())
  | .load _ _ k => ∀ o, DK (k o)
  | .update _ _ f k => (∀ o, (f o).dict = o.dict) ∧ DK (k ())
  | .alloc _ k => ∀ a, DK (k a)
  | .loadIfAlive _ k => ∀ o, DK (k o)
  | .point _ k => DK (k ())
  | .fresh k => ∀ t, DK (k t)
  | .ask k => ∀ t, DK (k t)
  | .handled _ k => ∀ t, DK (k t)
  | .stack k => ∀ t, DK (k t)
  | .thread k => ∀ t, DK (k t)
  | _ => False
theorem DK.bind {α β : Type} {m : Sem α} {f : α → Sem β} (hm : DK m) (hf : ∀ a, DK (f a)) : DK (m >>= f) := by
  show DK (Sem.bind m f)
  induction m with
  | pure a => exact hf a
  | raise e => trivial
  | unsupported w => trivial
  | finish e => trivial
  | rule t k ih => exact ih () hm
  | «at» p k ih => exact ih () hm
  | load a p k ih => exact fun o => ih o (hm o)
  | update a p g k ih => exact ⟨hm.1, ih () hm.2⟩
  | alloc o k ih => exact fun a => ih a (hm a)
  | loadIfAlive a k ih => exact fun a => ih a (hm a)
  | point l k ih => exact ih () hm
  | fresh k ih => exact fun a => ih a (hm a)
  | ask k ih => exact fun a => ih a (hm a)
  | handled o k ih => exact fun a => ih a (hm a)
  | stack k ih => exact fun a => ih a (hm a)
  | thread k ih => exact fun a => ih a (hm a)
  | _ => exact hm.elim
noncomputable def Bare (er : Addr) (s : Shared) : Prop := ∃ o, s.heap.objs[er]? = some o ∧ o.dict = none
theorem DK.wp {α : Type} {M : Model} {Γ : PySem.Ctx} {er : Addr} {t : Sem α} (h : DK t) : ∀ {Q : α → Pos → Shared → Prop} {E : Value → Pos → Shared → Prop} {p : Pos} {s : Shared}, Bare er s → Sem.wp M Γ t Q E p s →
    Sem.wp M Γ t (fun a p s' => Q a p s' ∧ Bare er s') (fun e p s' => E e p s' ∧ Bare er s') p s := by
  induction t with
  | pure a => intro Q E p s b w; rw [Sem.wp] at *; exact ⟨w, b⟩
  | raise e => intro Q E p s b w; rw [Sem.wp] at *; exact ⟨w, b⟩
  | unsupported _ => intro Q E p s b w; rw [Sem.wp] at *; exact w
  | finish _ => intro Q E p s b w; rw [Sem.wp] at *; exact w
  | rule t k ih => intro Q E p s b w; rw [Sem.wp] at *; exact ih () h b w
  | «at» q k ih => intro Q E p s b w; rw [Sem.wp] at *; exact ih () h b w
  | load a q k ih =>
    intro Q E p s b w; rw [Sem.wp] at *
    obtain ⟨o, e, w⟩ := w
    exact ⟨o, e, ih o (h o) b w⟩
  | update a q g k ih =>
    intro Q E p s b w; rw [Sem.wp] at *
    refine ⟨w.1, ih () h.2 ?_ w.2⟩
    obtain ⟨o, e, d⟩ := b
    by_cases c : a = er
    · subst c
      exact ⟨g o, by simp [Heap.update, Array.getElem?_modify, e], by rw [h.1]; exact d⟩
    · exact ⟨o, by simp [Heap.update, Array.getElem?_modify, c, e], d⟩
  | alloc o k ih =>
    intro Q E p s b w; rw [Sem.wp] at *
    refine ih _ (h _) ?_ w
    obtain ⟨o', e, d⟩ := b
    refine ⟨o', ?_, d⟩
    have hl : er < s.heap.objs.size := (Array.getElem?_eq_some_iff.mp e).1
    show (s.heap.objs.push o)[er]? = some o'
    rw [Array.getElem?_push]
    rw [if_neg (Nat.ne_of_lt hl)]; exact e
  | loadIfAlive a k ih => intro Q E p s b w; rw [Sem.wp] at *; exact ih _ (h _) b w
  | point l k ih => intro Q E p s b w; rw [Sem.wp] at *; exact ih () h b w
  | fresh k ih => intro Q E p s b w; rw [Sem.wp] at *; exact ih _ (h _) b w
  | ask k ih => intro Q E p s b w; rw [Sem.wp] at *; exact ih _ (h _) b w
  | handled o k ih => intro Q E p s b w; rw [Sem.wp] at *; exact ih _ (h _) b w
  | stack k ih => intro Q E p s b w; rw [Sem.wp] at *; exact ih _ (h _) b w
  | thread k ih => intro Q E p s b w; rw [Sem.wp] at *; exact ih _ (h _) b w
  | _ => exact h.elim
theorem DK.any {α : Type} {M : Model} {A : Around} {er : Addr} {t : Sem α} {Q : α → Shared → Prop} {E : Value → Shared → Prop} {s : Shared} (h : DK t) (b : Bare er s) (w : wpAny M A t Q E s) : wpAny M A t (fun a s' => Q a s' ∧ Bare er s') (fun e s' => E e s' ∧ Bare er s') s :=
  fun Γ p hΓ => h.wp b (w Γ p hΓ)
theorem Bare.get {er : Addr} {s : Shared} {o : Obj} (b : Bare er s) (e : s.heap.get? er = some o) : o.dict = none := by
  obtain ⟨o', e', d⟩ := b
  obtain ⟨e1, _⟩ := Heap.get?_some_iff.mp e
  rw [e'] at e1; cases e1; exact d
theorem mapFields_dict (f : Array Value → Array Value) (o : Obj) : (o.mapFields f).dict = o.dict := by
  obtain ⟨c, d, dt, sl⟩ := o; cases dt <;> rfl
theorem dk_load {a : Addr} : DK (load a) := fun _ => trivial
theorem dk_field (v : Value) (i : Nat) : DK (field v i) := by
  unfold field fieldsOf
  refine DK.bind ?_ fun x => ?_
  · cases v <;> try trivial
    refine DK.bind dk_load fun o => ?_
    split <;> trivial
  · split <;> trivial
theorem dk_setField (v : Value) (i : Nat) (x : Value) : DK (setField v i x) := by
  unfold setField updateField
  cases v <;> try trivial
  refine DK.bind dk_load fun o => ?_
  split
  · split
    · exact ⟨fun o => mapFields_dict _ o, trivial⟩
    · trivial
  · trivial
theorem dk_setFlight (e : Value) (f : Option Addr) : DK (setFlight e f) := by
  unfold setFlight
  refine DK.bind (dk_field _ _) fun tb => ?_
  split
  · exact dk_setField _ _ _
  · trivial
theorem dk_kept (env : Env) (i : Bool) (l : List Env) : DK (keptBack env i l) := by
  unfold keptBack
  cases l with
  | nil =>
    simp only
    split
    · trivial
    · refine DK.bind ?_ fun _ => trivial
      unfold underTheClaimsCaller
      exact fun _ => trivial
  | cons c r => trivial
theorem dk_behind (env : Env) (l : List Env) : DK (behindIsImport env l) := by
  unfold behindIsImport
  split
  · trivial
  · split
    · trivial
    · exact DK.bind (dk_field _ _) fun _ => trivial
theorem dk_ready : ∀ l : List Env, DK (readyFrames l)
  | [] => trivial
  | env :: outer => by
    unfold readyFrames
    split
    · refine DK.bind dk_load fun o => ?_
      split
      · trivial
      · refine DK.bind (dk_behind _ _) fun _ => DK.bind (dk_kept _ _ _) fun _ => DK.bind ⟨fun _ => rfl, trivial⟩ fun _ => dk_ready outer
    · trivial
theorem dk_frameObject (l : List Env) : DK (frameObject l) := by
  cases l with
  | nil => trivial
  | cons env outer => exact DK.bind (dk_ready _) fun _ => trivial
theorem dk_frameOf (env : Env) : DK (PySem.frameOf env) := by
  unfold PySem.frameOf frameEnvs
  refine DK.bind (DK.bind (fun _ => trivial) fun _ => trivial) fun _ => DK.bind (dk_frameObject _) fun o => ?_
  split <;> trivial
theorem dk_place (f : Addr) (b : Bool) : DK (entryPlaceOf f b) := by
  unfold entryPlaceOf
  refine DK.bind (fun _ => trivial) fun acts => ?_
  split <;> trivial
theorem dk_asIs (T : String) (d : Data) : DK (newObjAsIs (.type T) d) := by
  unfold newObjAsIs
  exact fun _ => trivial
theorem dk_rec (T : String) (vs : Array Value) : DK (newObj (.type T) (.fields vs)) := by
  unfold newObj
  simp only
  split
  · exact DK.bind (m := unsupported "record:memory") trivial fun _ => dk_asIs _ _
  · exact dk_asIs _ _
theorem dk_entry (a b c d e : Value) (pl : List Value) : DK (EntryCells.newEntry a b c d e pl) := dk_rec _ _
theorem dk_note (e : Value) (env : Env) : DK (noteFrame e env) := by
  unfold noteFrame
  have fin : ∀ (head : Value) (f : Addr), DK (do setField e 1 (← EntryCells.newEntry head (← frameOf env) .none (rawInt f) .none (← entryPlaceOf f (head != .none)))) := fun head f =>
    DK.bind (dk_frameOf _) fun _ => DK.bind (dk_place _ _) fun _ => DK.bind (dk_entry _ _ _ _ _ _) fun _ => dk_setField _ _ _
  split
  · refine DK.bind (dk_field _ _) fun head => ?_
    split
    · refine DK.bind (dk_field _ _) fun x => ?_
      split
      · trivial
      · exact DK.bind (dk_setField _ _ _) fun _ => fin _ _
    · exact fin _ _
  · trivial
theorem dk_leaving (env : Env) (e : Value) : DK (leaving env e) := DK.bind (dk_note _ _) fun _ => dk_setFlight _ _
set_option genInjectivity false in
set_option genSizeOf false in
structure Fly (P : Program) (w : World) (outer : List Env) (H : Hp) (s : Shared) (H' : Hp) (er C t : Addr) (B : Heap) (s' : Shared) : Prop where
  os : s'.os = s.os
  bare : AllBare s'.gens
  un : Un (frs outer) [] H H' s.heap s'.heap
  hok : HOk P w H' s'.heap
  fly : Heap.FlyingW B outer er (.ref C) (.ref t) s'.heap
  old : ∀ b o, s.heap.get? b = some o → H b = none → b ∉ frs outer → B.get? b = some o
  has : ∀ b o, s.heap.get? b = some o → b ∉ frs outer → ∃ u, B.get? b = some u
  trk : ∀ b o u, H' b = some o → s'.heap.get? b = some u → B.get? b = some u
  nod : Bare er s'
noncomputable def CXF (P : Program) (w : World) : CXT := fun outer H s E e s' => ∃ er C t B H', e = .ref er ∧ Fly P w outer H s H' er C t B s' ∧ E (.ref C) none H'
theorem nox_F {P : Program} {w : World} : NoX (CXF P w) := fun _ _ _ _ _ ⟨_, _, _, _, _, _, _, h⟩ => h

section
variable {P : Program} {w : World} {outer : List Env} {H H' : Hp} {s s' : Shared} {er C t : Addr} {B h : Heap}
theorem Fly.noTrk (F : Fly P w outer H s H' er C t B s') : H' er = none := by
  cases e : H' er with
  | none => rfl
  | some o =>
    obtain ⟨ob, q, _⟩ := F.fly.there
    have z := F.trk er o ob e q
    rw [F.fly.2.1] at z; cases z
theorem Fly.unAt (F : Fly P w outer H s H' er C t B s') (fr : s.heap.FunFrames base outer) (st : B.StaysIn h) (up : s'.heap.UpToSlots h) : Un (frs outer) [] H H' s.heap h where
  keep := fun b o q n hb _ => st b o (F.old b o q n hb)
  slot := fun b o q n hb _ => by
    obtain ⟨sl, e1⟩ := F.un.slot b o q n hb (by simp)
    obtain ⟨_, o', e', nf⟩ := fr.mem hb
    rw [q] at e'; cases e'
    obtain ⟨sl', e2⟩ := up b _ e1 nf
    exact ⟨sl', e2⟩
  free := F.un.free
  there := fun b o q _ => by
    by_cases hb : b ∈ frs outer
    · obtain ⟨_, o', e', nf⟩ := fr.mem hb
      rw [q] at e'; cases e'
      cases hn : H b with
      | none =>
        obtain ⟨sl, e1⟩ := F.un.slot b o q hn hb (by simp)
        obtain ⟨sl', e2⟩ := up b _ e1 nf
        exact ⟨_, e2⟩
      | some x =>
        obtain ⟨_, o1, e1, nf1⟩ := F.fly.2.2.1.mem hb
        obtain ⟨sl', e2⟩ := up b _ e1 nf1
        exact ⟨_, e2⟩
    · obtain ⟨u, e⟩ := F.has b o q hb
      exact ⟨u, st b u e⟩
  tups := F.un.tups
  frzs := F.un.frzs
  tbls := F.un.tbls
theorem Fly.hokAt (F : Fly P w outer H s H' er C t B s') (st : B.StaysIn h) : HOk P w H' h := fun a o e =>
  (F.hok a o e).stay (fun b u hb q => st b u (by
    rcases hb with rfl | hb
    · exact F.trk b o u e q
    · exact F.trk b _ u hb q)) (fun _ q => q) fun _ _ q => q
noncomputable def IsExc (er C : Addr) (h : Heap) : Prop := ∃ oe : Obj, PySem.W.InstAt h er oe C none
noncomputable def ExcAt (er C : Addr) : HO := .ext (IsExc er C)
theorem isExc_of {l : List Env} {a0 : Value} {B h : Heap} {s : Shared} {er C : Addr} (f : Heap.FlyingW B l er (.ref C) a0 h) (b : Bare er { s with heap := h }) : IsExc er C h := by
  obtain ⟨oe, vs, e, c, d, _⟩ := f.first
  have nd : oe.dict = none := b.get e
  exact ⟨oe, e, c, by unfold PySem.W.notCls; rw [d], by rw [nd]; trivial⟩
theorem Fly.unEr (F : Fly P w outer H s H' er C t B s') (u : Un (frs outer) [] H H' s.heap h) : Un (frs outer) [] H (upd H' er (ExcAt er C)) s.heap h := by
  have ne : ∀ b o, s.heap.get? b = some o → b ≠ er := fun b o q z => by
    subst z
    by_cases hb : b ∈ frs outer
    · obtain ⟨_, o1, e1, nf1⟩ := F.fly.2.2.1.mem hb
      obtain ⟨oe, vs, e2, _, d, _⟩ := F.fly.first
      rw [e1] at e2; cases e2
      exact nf1 vs d
    · obtain ⟨u, e⟩ := F.has b o q hb
      rw [F.fly.2.1] at e; cases e
  have nt := F.noTrk
  exact ⟨u.keep, u.slot, fun b o q n hx => by rw [upd_ne (ne b o q)]; exact u.free b o q n hx, u.there, fun b xs q => by
      rw [upd_ne (ne_of_none (u.tups b xs q) nt)]; exact u.tups b xs q, fun b o v q => by
      rw [upd_ne (ne_of_none (u.frzs b o v q) nt)]; exact u.frzs b o v q, fun b ps q => by
      obtain ⟨m, e⟩ := u.tbls b ps q
      exact ⟨m, by rw [upd_ne (ne_of_none e nt)]; exact e⟩⟩
theorem hok_er (hk : HOk P w H' h) (nt : H' er = none) (he : IsExc er C h) : HOk P w (upd H' er (ExcAt er C)) h := fun a o e => by
  by_cases ha : a = er
  · subst ha
    rw [upd_same] at e; cases e
    obtain ⟨oe, i⟩ := he
    refine ⟨⟨oe, i⟩, ⟨oe, i.at_⟩, fun h1 h2 ⟨o1, i1⟩ k => ⟨o1, k o1 i1.at_, i1.cls, i1.no, ?_⟩⟩
    have z := i1.dict
    cases hd : o1.dict with
    | none => trivial
    | some dx => rw [hd] at z; exact z.elim
  · rw [upd_ne ha] at e
    exact (hk a o e).stay (fun _ _ _ q => q) (fun b q => by rw [upd_ne (ne_of_none q nt)]; exact q) fun b xs q => by rw [upd_ne (ne_of_none q nt)]; exact q
end

noncomputable def bmV : List Value := [.type "ValueError", .type "Exception", .type "BaseException", .type "object"]
noncomputable def OwnErr (K : PySem.W.Frag) (C : Addr) : Prop := PySem.W.excIn K C bmV "ValueError.__new__" = true
theorem OwnErr.obj {K : PySem.W.Frag} {h : Heap} {C : Addr} (q : OwnErr K C) (X : K.In h) : ∃ bm N nm qn bs hd sn sub ab col dd k0 k1 k2 k3 k5 mN,
    h.get? C = some (excClassObj nm qn C N bs bm hd sn sub ab col dd k0 k1 k2 k3 k5 "ValueError.__new__") ∧ h.Ns N mN ∧ mN "__init__" = none ∧ OwnTail h bmV bm := by
  have q' : PySem.W.excIn K C bmV "ValueError.__new__" = true := q
  unfold PySem.W.excIn at q'
  split at q'
  · rename_i dd cd sl lk
    split at q'
    · rename_i C' bm k0 k1 k2 k3 nid k5 em es
      rw [Bool.and_eq_true, Bool.and_eq_true, Bool.and_eq_true, Bool.and_eq_true, Bool.and_eq_true] at q'
      obtain ⟨⟨⟨⟨⟨a1, a2⟩, a3⟩, a4⟩, a5⟩, a6⟩ := q'
      have b1 : C' = C := eq_of_beq a1
      have b2 : nid = "ValueError.__new__" := eq_of_beq a2
      have b3 : cd.hasDel = false := by simpa using a3
      have b6 := eq_of_beq a6
      have g := X C _ lk
      obtain ⟨nm, bs, mro, ns, qn, hd, sn, sub, ab, col, del⟩ := cd
      simp only at em b3 a5 b6
      subst em b3 b1 b2
      have hsl : sl = #[k0, k1, k2, k3, some (.builtin "ValueError.__new__"), k5] := by
        rw [← Array.toList_inj]; exact es
      subst hsl
      exact ⟨bm, ns, nm, qn, bs, hd, sn, sub, ab, col, dd, k0, k1, k2, k3, k5, _, g, Heap.Ns.of_isNs (PySem.W.isNs_of_in X a5), PySem.W.nsMap_none_of_in X a5 b6, PySem.W.tail_of_in X a4⟩
    · cases q'
  · cases q'
theorem exc_class {prog : Program} {w : World} {A : Around} {E : Value → Shared → Prop} {s : Shared} {K : PySem.W.Frag} {er C : Addr} {oe : Obj} {Q : Option Value → Shared → Prop}
    (ga : PySem.W.findIn K (.ref C) "__getattribute__" = some (some (.builtin "BaseException.__getattribute__"))) (gn : PySem.W.findIn K (.ref C) "__getattr__" = some none)
    (hf : PySem.W.findObj K C none "__class__" = some (.bind (.builtin "getset_descriptor.__get__") (.builtin "object.__class__"))) (mo : PySem.W.mroIn K C (.type "object") = some true) (be : PySem.W.mroIn K C (.type "BaseException") = some true)
    (X : K.In s.heap) (i : PySem.W.InstAt s.heap er oe C none) (q : Q (some (.ref C)) { s with toks := s.toks + 1 }) : wpAny (model prog w) A (getAttr? (.ref er) "__class__") Q E s := by
  obtain ⟨hh, g, d, t, os⟩ := s
  have L0 := i.type (M := model prog w)
  have L1 := PySem.W.looks_findIn (M := model prog w) X ga
  have Internal' := PySem.W.looks_findIn (M := model prog w) X gn
  have L3 := PySem.W.looks_find (M := model prog w) X i hf
  have L4 := PySem.W.looks_mroIn (M := model prog w) X be
  have f3 := PySem.F.attr_ValueError.ga.bind (.ref er)
  unfold getAttr? getAttrBy? getAttrBy
  refine wpAny_bind (wpAny_mkText (wpAny_bind (wpAny_attempt (wpAny_holding (wpAny_bind (L0.at (wpAny_bind (L1.at ?_))))))))
  show wpAny _ _ (getAttrByItsOwn _ _ _ _ _ _) _ _ _
  unfold getAttrByItsOwn hookBefore
  refine wpAny_bind (Internal'.at ?_)
  refine wpAny_bind (wpAny_attempt (wpAny_holding ?_))
  show wpAny _ _ (boundAndCalled _ _ _) _ _ _
  unfold boundAndCalled
  rw [f3]
  refine wpAny_bind (wpAny_pure ?_)
  refine wpAny_call (codeAny_call_builtin PySem.F.attr_ValueError.ga.plain PySem.F.entry_bexc_ga ?_)
  have hk : builtinKind "BaseException.__getattribute__" = some .slot := by decide +kernel
  have hsp : splitId "BaseException.__getattribute__" = some ("BaseException", "__getattribute__") := by decide +kernel
  simp only [checkBuiltinCall, hk, hsp]
  unfold isInstance
  refine wpAny_bind (wpAny_bind (L0.at (L4.at ?_)))
  simp only [Bool.not_true, Bool.false_eq_true, if_false]
  have ha := PySem.F.args_bexc_ga (.ref er) (.str "__class__" t)
  unfold argsOk at ha
  refine wpAny_of_eq (a := ()) ha ?_
  show wpAny _ _ (Builtin.«object.__getattribute__» _) _ _ _
  unfold Builtin.«object.__getattribute__»
  refine wpAny_bind (wpAny_pure ?_)
  refine wpAny_bind (wpAny_pure ?_)
  refine wpAny_bind (L0.at ?_)
  refine wpAny_bind (L3.at ?_)
  show wpAny _ _ (Builtin.ObjectAttr.bindTo _ _ _ _) _ _ _
  unfold Builtin.ObjectAttr.bindTo
  refine wpAny_bind (wpAny_holding (wpAny_call (PySem.W.class_get X i mo ?_)))
  exact wpAny_pure (PySem.W.handed_on rfl (wpAny_pure q))
noncomputable def errOk (K : PySem.W.Frag) (C : Addr) : Bool := PySem.W.excIn K C bmV "ValueError.__new__" && (PySem.W.findIn K (.ref C) "__getattribute__" == some (some (.builtin "BaseException.__getattribute__"))) && (PySem.W.findIn K (.ref C) "__getattr__" == some none) && (PySem.W.mroIn K C (.type "BaseException") == some true) && (PySem.W.clsIn K C).isSome && (PySem.W.findIn K (.ref C) "__class__" == some (some (.builtin "object.__class__"))) &&
  (PySem.W.specialIn K (.builtin "object.__class__") "__get__" == some (some (.builtin "getset_descriptor.__get__"))) && (PySem.W.takesIn K (.builtin "object.__class__") == some true) && (PySem.W.mroIn K C (.type "object") == some true)
theorem errOk.own {K : PySem.W.Frag} {C : Addr} (h : errOk K C = true) : OwnErr K C := by
  unfold errOk at h
  simp only [Bool.and_eq_true] at h
  exact h.1.1.1.1.1.1.1.1
theorem kitx_err {K : PySem.W.Frag} {er C : Addr} (h : errOk K C = true) : PySem.W.KitX K (.ref er) (.ref C) (IsExc er C) := by
  unfold errOk at h
  simp only [Bool.and_eq_true, beq_iff_eq] at h
  obtain ⟨⟨⟨⟨⟨⟨⟨⟨_, ga⟩, gn⟩, be⟩, cl⟩, fa⟩, sn⟩, tk⟩, mo⟩ := h
  obtain ⟨cd, hc⟩ := Option.isSome_iff_exists.mp cl
  have there : ∃ o : Obj, K.lookup C = some o ∧ o.data = .cls cd := by
    unfold PySem.W.clsIn at hc
    split at hc
    · rename_i lk; cases hc; exact ⟨_, lk, rfl⟩
    · cases hc
  obtain ⟨o, lk, dt⟩ := there
  refine ⟨fun M h _ ⟨oe, i⟩ => i.type, fun M h X _ A Q E s k q => ?_, fun h tp dd its n sl X e => ?_, fun {prog w A E Q s} X ⟨oe, i⟩ q => ?_⟩
  · have g := k _ _ (X _ _ lk)
    obtain ⟨oc, od, oda, osl⟩ := o
    simp only at dt
    subst dt
    unfold isType loadHead
    exact wpAny_bind (wpAny_loadPart g (wpAny_pure q))
  · rw [Bool.eq_false_iff]
    intro z
    have ec : C = tp := Value.ref.inj (beq_iff_eq.mp z)
    subst ec
    have g := X _ _ lk
    rw [e] at g; cases g; cases dt
  · have hf : PySem.W.findObj K C none "__class__" = some (.bind (.builtin "getset_descriptor.__get__") (.builtin "object.__class__")) := by
      unfold PySem.W.findObj
      rw [hc, Option.bind_some, fa, Option.bind_some]
      simp [sn, tk]
    exact exc_class ga gn hf mo be X i q
noncomputable def tRaise (C : Addr) (Ex : XK) (ta : TA) : TS := fun _ σ H => ta σ H fun vs H1 => vs.length ≤ sizeLine ∧ Ex (.ref C) none H1
noncomputable def Made (X : Cx) (C : Addr) (Ex : XK) : Prop := ∀ (pins : List (Addr × Obj)) (σ : St) (H : Hp) (s : Shared) (h' : Heap) (er : Addr) (args : List Value), Inv X pins σ H s → Heap.MadeExcOf s.heap h' er (.ref C) args → Ex (.ref C) none H → X.xe (.ref er) { s with heap := h' }
theorem ps_raise {X : Cx} {C : Addr} {x : Str} {np cpos pos : Pos} {e : Expr} {es : List Expr} {ta : TA} {Ex : XK} (hc : X.calm = true) (hg : Gl X x) (hm : X.mg x = some (.ref C)) (hX : OwnErr X.K C) (ha : PA X (e :: es) ta) (hl : Made X C Ex)
    (hdb : autoParam ((x == ("__debug__" : Str)) = false) Internal.aut1._auto_1) (he : autoParam (starEach (e :: es) X.env = (false, eval e X.env) :: starEach es X.env) Internal.aut2._auto_1) (hpl : autoParam ((backTo cpos (starEach es X.env)).any (·.1) = false) Internal.aut2._auto_1) :
    PS X (.Raise (some (.Call (.Name x np) (e :: es) [] cpos)) none pos) (tRaise C Ex ta) := by
  intro pins s σ H D I h
  obtain ⟨bm, N, nm, qn, bs, hd, sn, sub, ab, col, dd, k0, k1, k2, k3, k5, mN, g1, g2, g3, g4⟩ := hX.obj I.ok.mod.kin
  have pl : (backTo cpos (starEach (e :: es) X.env)).any (·.1) = false := by rw [he]; exact hpl
  refine wpAny_Raise_call_subT PySem.F.excBase_ValueError (C := C) (nm := nm) (q := qn) (N := N) (bs := bs) (hdct := hd) (sn := sn) (sub := sub) (ab := ab) (col := col) (dd := dd) (k0 := k0) (k1 := k1) (k2 := k2) (k3 := k3) (k5 := k5) (g4.hasType (by decide)) (I.ok.hd hc) pl g3 (ld_glob I hg hm ⟨rfl, ?_⟩ hdb)
  have run := ha cpos pins s σ H _ I h
  rw [he] at run ⊢
  refine Calls.evalArgs_plain (wpAny_mono run (fun us s1 q => ?_) fun _ _ z => z)
  obtain ⟨vs, H1, I1, r, z, ex⟩ := q
  exact ⟨rfl, by rw [← r.length]; exact z, I1.bk _ _ g1, g2.keeps I1.bk, g4.keeps I1.bk, fun h' er mk => hl pins σ H1 s1 h' er us I1 mk ex⟩
theorem made_F {P : Program} {w : World} {K : PySem.W.Frag} {mg : Str → Option Value} {base : Heap} {N : List Str} {qual : Str} {scope : Scope} {f : Addr} {cd : Value} {A : Around} {outer : List Env} {s : Shared} {H : Hp} {E : XK} {C : Addr} :
    Made (cxOf (CXF P w) P w K mg base N qual scope f cd A outer s H E) C E := by
  intro pins σ H1 s1 h' er args I mk ex
  have fr := I.stack
  have hin : ∀ env ∈ (envOfC qual scope s.heap.objs.size f cd :: outer), ∀ b, env.frame = some b → b ∈ frs (envOfC qual scope s.heap.objs.size f cd :: outer) := fun env he b hb => List.mem_filterMap.mpr ⟨env, he, hb⟩
  have sb : ∀ b o, (PySem.W.hideAll s1.heap (frs (envOfC qual scope s.heap.objs.size f cd :: outer))).get? b = some o → s1.heap.get? b = some o := fun b o q => PySem.W.of_hideAll _ q
  have inB : ∀ b o, s1.heap.get? b = some o → b ∉ frs (envOfC qual scope s.heap.objs.size f cd :: outer) → (PySem.W.hideAll s1.heap (frs (envOfC qual scope s.heap.objs.size f cd :: outer))).get? b = some o := fun b o q n => PySem.W.hideAll_get _ q n
  have nfr : ∀ b o, s.heap.get? b = some o → b ∉ frs outer → b ∉ frs (envOfC qual scope s.heap.objs.size f cd :: outer) := fun b o q n z => by
    rcases List.mem_cons.mp (show b ∈ s.heap.objs.size :: frs outer from z) with z | z
    · exact Nat.ne_of_lt (Heap.lt_size q) z
    · exact n z
  have trkB : ∀ b o u, H1 b = some o → s1.heap.get? b = some u → (PySem.W.hideAll s1.heap (frs (envOfC qual scope s.heap.objs.size f cd :: outer))).get? b = some u := fun b o u q e => inB b u e fun z => by
    have := I.stkFree b z
    rw [q] at this; cases this
  show wpAny (model P w) (A.deeper (envOfC qual scope s.heap.objs.size f cd)) (leaving (envOfC qual scope s.heap.objs.size f cd) (.ref er)) _ _ _
  have b0 : Bare er { s1 with heap := h' } := by
    obtain ⟨t, e, _⟩ := mk.there
    exact ⟨_, (Heap.get?_some_iff.mp e).1, rfl⟩
  refine wpAny_mono (DK.any (E := fun _ _ => False) (Q := fun _ s'' => Bare er s'' → CXF P w outer H s E (.ref er) s'') (dk_leaving _ _) b0 ?_) (fun _ s'' q => q.1 q.2) fun _ _ q => q.1.elim
  refine wpAny_leaves_madeW (L := s.heap.objs.size) (base := PySem.W.hideAll s1.heap (frs (envOfC qual scope s.heap.objs.size f cd :: outer))) (h := s1.heap) I.ok.frames rfl sb (PySem.W.funFrames_hide fr hin) mk fun h'' t fly _ _ up b1 => ?_
  refine ⟨er, C, t, _, H1, rfl, ⟨I.os, I.bare, ⟨fun b o q n hb _ => ?_, fun b o q n hb _ => ?_, fun b o q n _ => I.base.free b o q n (by simp [cxOf]), fun b o q _ => ?_, I.base.tups, I.base.frzs, I.base.tbls⟩, ?_, fly, fun b o q n hb => ?_, fun b o q hb => ?_, ?_, b1⟩, ex⟩
  · exact fly.1 b o (inB b o (I.base.keep b o q n hb (by simp [cxOf])) (nfr b o q hb))
  · obtain ⟨sl, e1⟩ := I.base.slot b o q n hb (by simp [cxOf])
    obtain ⟨_, o1, e2, nf⟩ := I.ok.funs.mem hb
    have e3 : s.heap.get? b = some o1 := e2
    rw [q] at e3; cases e3
    obtain ⟨sl', e4⟩ := up b _ (mk.keeps b _ e1) nf
    exact ⟨sl', e4⟩
  · by_cases hb : b ∈ frs outer
    · obtain ⟨_, o1, e1, _⟩ := fly.2.2.1.mem hb
      exact ⟨o1, e1⟩
    · obtain ⟨o1, e1⟩ := I.base.there b o q (by simp [cxOf])
      exact ⟨o1, fly.1 b o1 (inB b o1 e1 (nfr b o q hb))⟩
  · intro a o e
    exact (I.hok a o e).stay (fun b u hb q => fly.1 b u (by
      rcases hb with rfl | hb
      · exact trkB b o u e q
      · exact trkB b _ u hb q)) (fun _ q => q) fun _ _ q => q
  · exact inB b o (I.base.keep b o q n hb (by simp [cxOf])) (nfr b o q hb)
  · obtain ⟨o1, e1⟩ := I.base.there b o q (by simp [cxOf])
    exact ⟨o1, inB b o1 e1 (nfr b o q hb)⟩
  · intro b o u q e
    obtain ⟨u1, e1⟩ := (I.hok b o q).obj
    have z := fly.1 b u1 (trkB b o u1 q e1)
    have e' : h''.get? b = some u := e
    rw [z] at e'; cases e'
    exact trkB b o _ q e1

noncomputable abbrev Cx.inH (X : Cx) (er : Addr) : Cx := { X with A := X.A.mark (some (.ref er)), calm := false, xe := fun _ _ => False }
theorem Cx.Ok.inH {X : Cx} (ok : X.Ok) (er : Addr) : (X.inH er).Ok :=
  ⟨ok.mod, ok.kind, ok.glob, ok.blt, ok.above, ok.inj, ok.has, ok.cab, fun z => (by cases z), ok.frames, ok.stk, ok.exf, ok.bs, ok.bsz, ok.noex, ok.exfs, ok.funs, ok.frf⟩
section
variable {X : Cx} {pins : List (Addr × Obj)} {σ : St} {H H' : Hp} {s s' : Shared}
theorem Inv.inH (I : Inv X pins σ H s) (er : Addr) : Inv (X.inH er) pins σ H s := ⟨I.ok.inH er, I.os, I.bare, I.base, I.loc, I.cell, I.free, I.freeC, I.pin, I.hok, I.len⟩
theorem Inv.outH {er : Addr} (ok : X.Ok) (I : Inv (X.inH er) pins σ H s) : Inv X pins σ H s := ⟨ok, I.os, I.bare, I.base, I.loc, I.cell, I.free, I.freeC, I.pin, I.hok, I.len⟩
theorem unbind_ok {i : Nat} {n : Str} {pos : Pos} {Q : Unit → Shared → Prop} {E : Value → Shared → Prop} (I : Inv X pins σ H s) (hN : X.N.Nodup) (hi : X.N[i]? = some n) (hl : X.env.kindOf n = some .local) (q : ∀ s2, Inv X pins (σ.set i none) H s2 → Q () s2) :
    wpAny (model X.prog X.w) X.A (do bindName X.env n .none; unbindBehindTheSuite X.env n pos) Q E s := by
  obtain ⟨m, hn, lk⟩ := id I.loc
  obtain ⟨oL, _, _, hoL, _⟩ := id hn
  refine wpAny_nameGoes_keeps hl hn (by rw [I.ok.kind]; rfl) fun h' v hn' hs => q _ ?_
  have nL : ∀ b o, X.s₀.heap.get? b = some o → b ≠ X.env.locals := fun b o e => Nat.ne_of_lt (Nat.lt_of_lt_of_le (Heap.lt_size e) I.ok.above)
  refine ⟨I.ok, I.os, I.bare, ⟨fun b o e n hb hx => (hs.2 b (nL b o e)).trans (I.base.keep b o e n hb hx), fun b o e n hb hx => ?_, I.base.free, fun b o e hx => ?_, I.base.tups, I.base.frzs, I.base.tbls⟩, ⟨_, hn', fun j y v' e1 e2 e3 => ?_⟩, fun y c e => ?_, I.free, I.freeC, fun p hp => ?_, fun b ob e => ?_, by rw [List.length_set]; exact I.len⟩
  · obtain ⟨sl, e1⟩ := I.base.slot b o e n hb hx
    exact ⟨sl, (hs.2 b (nL b o e)).trans e1⟩
  · obtain ⟨o', e1⟩ := I.base.there b o e hx
    exact ⟨o', (hs.2 b (nL b o e)).trans e1⟩
  · by_cases hj : j = i
    · subst hj
      have hlt : j < σ.length := by rw [I.len]; exact (List.getElem?_eq_some_iff.mp hi).1
      rw [List.getElem?_set_self hlt] at e2
      cases e2
    · rw [List.getElem?_set_ne (Ne.symm hj)] at e2
      obtain ⟨u, r, z⟩ := lk j y v' e1 e2 e3
      refine ⟨u, r, ?_⟩
      have ny : y ≠ n := fun z => hj (nodup_ix hN e1 (z ▸ hi))
      rcases z with ⟨k, e⟩ | ⟨k, c, e, z⟩
      · exact .inl ⟨k, by show (if y = n then v else m y) = some u; rw [if_neg ny]; exact e⟩
      · exact .inr ⟨k, c, e, z.sameBut hs (I.cne y c e)⟩
  · obtain ⟨u, z⟩ := I.cell y c e
    exact ⟨u, z.sameBut hs (I.cne y c e)⟩
  · obtain ⟨e, n, ne, nf, d⟩ := I.pin p hp
    exact ⟨(hs.2 p.1 ne).trans e, n, ne, nf, d⟩
  · refine (I.hok b ob e).stay (fun c u hc q => (hs.2 c ?_).trans q) (fun _ q => q) fun _ _ q => q
    rintro rfl
    rcases hc with rfl | hc
    · have := I.free; rw [e] at this; cases this
    · have := I.free; rw [hc] at this; cases this
noncomputable def Ends.gone (D : Ends) (i : Nat) : Ends := ⟨fun σ H => D.nx (σ.set i none) H, D.rt, fun σ H => D.bk (σ.set i none) H, fun σ H => D.ct (σ.set i none) H⟩
theorem SP.gone {i : Nat} {D : Ends} {f : Flow} {er : Addr} (ok : X.Ok) (h : SP (X.inH er) pins (D.gone i) f s) : ∃ σ' H', Inv X pins σ' H' s ∧ ∀ s2, Inv X pins (σ'.set i none) H' s2 → SP X pins D f s2 := by
  cases f with
  | next => obtain ⟨σ', H', I, q⟩ := h; exact ⟨σ', H', I.outH ok, fun s2 J => ⟨_, _, J, q⟩⟩
  | brk => obtain ⟨σ', H', I, q⟩ := h; exact ⟨σ', H', I.outH ok, fun s2 J => ⟨_, _, J, q⟩⟩
  | cont => obtain ⟨σ', H', I, q⟩ := h; exact ⟨σ', H', I.outH ok, fun s2 J => ⟨_, _, J, q⟩⟩
  | ret u => obtain ⟨v, σ', H', I, r, q⟩ := h; exact ⟨σ', H', I.outH ok, fun s2 J => ⟨v, _, _, J, r, q⟩⟩
theorem taken {er C CQ t : Addr} {B : Heap} {qn n : Str} {qp hp : Pos} {b0 : Stmt} {suite : List Stmt} {rest : List ExceptHandler} {i : Nat} {th : TS} {D : Ends} (hst : X.stack = X.env :: X.outer ∧ X.env.frame = some X.env.locals) (I : Inv X pins σ H s)
    (F : Fly X.prog X.w X.stack H s H' er C t B s') (hg : Gl X qn) (hm : X.mg qn = some (.ref CQ)) (hx : PySem.W.exmOne X.K (.ref C) (.ref CQ) = some true) (hN : X.N.Nodup) (hi : X.N[i]? = some n) (hl : X.env.kindOf n = some .local)
    (hth : PSs (X.inH er) (b0 :: suite) th) (q : th (D.gone i) (σ.set i (some (.ref er))) (upd H' er (ExcAt er C))) (hdb : (qn == ("__debug__" : Str)) = false) :
    wpAny (model X.prog X.w) X.A (noteFrame (.ref er) X.env) (fun _ s₂ => wpAny (model X.prog X.w) X.A (setFlight (.ref er) none) (fun _ s₃ =>
      wpAny (model X.prog X.w) X.A (handleBy (.ref er) X.env (.ExceptHandler (some (.Name qn qp)) (some n) (b0 :: suite) hp :: rest)) (SP X pins D) X.xe s₃) X.xe s₂) X.xe s' := by
  have hfr : X.A.frames = some (X.env :: X.outer) := by rw [I.ok.frames, hst.1]
  have fly0 : Heap.FlyingW B (X.env :: X.outer) er (.ref C) (.ref t) s'.heap := hst.1 ▸ F.fly
  have at' : ∀ {h : Heap}, B.StaysIn h → s'.heap.UpToSlots h → ∀ tk, Inv X pins σ H' { s' with heap := h, toks := tk } := fun {h} st up tk =>
    I.call' (s' := { s' with heap := h, toks := tk }) (ch := []) F.os (F.unAt I.stack st up) (F.hokAt st) F.bare fun _ z => nomatch z
  refine wpAny_mono (DK.any (E := fun _ _ => False) (Q := fun _ s2 => Bare er s2 → _) (dk_note _ _) F.nod (wpAny_looks_onW hfr hst.2 fly0 fun h4 held up4 b4 => ?_)) (fun _ s2 q => q.1 q.2) fun _ _ q => q.1.elim
  refine wpAny_mono (DK.any (E := fun _ _ => False) (Q := fun _ s2 => Bare er s2 → _) (dk_setFlight _ _) b4 (wpAny_landsW held fun h5 fly5 up5 b5 => ?_)) (fun _ s2 q => q.1 q.2) fun _ _ q => q.1.elim
  have up : s'.heap.UpToSlots h5 := up4.trans up5
  have J5 := (at' fly5.1 up s'.toks).inH er
  obtain ⟨ob, hob, hoc⟩ := fly5.there
  refine wpAny_handleBy_cons (codeAny_handlers_test (ld_glob (X := X.inH er) J5 hg hm ?_ hdb)) (by intro z; cases z)
  have LT : PySem.W.Looks (model X.prog X.w) h5 (typeOf (.ref er)) (.ref C) := hoc ▸ (PySem.W.Looks.ld hob).andThen .now
  refine (PySem.W.exm_one J5.kIn LT hx) _ _ _ _ (fun _ _ e => e) ?_
  show codeAny _ _ _ _ _
  refine codeAny_handlers_suite_as ?_
  refine wpAny_mono (DK.any (E := fun _ _ => False) (Q := fun _ s2 => Bare er s2 → _) (dk_setFlight _ _) b5 (lands_againW fly5 fun h6 fly6 up6 b6 => ?_)) (fun _ s2 q => q.1 q.2) fun _ _ q => q.1.elim
  have J6 := at' fly6.1 (up.trans up6) s'.toks
  have u6 : Un (frs X.stack) [] H (upd H' er (ExcAt er C)) s.heap h6 := F.unEr (F.unAt I.stack fly6.1 (up.trans up6))
  have K6 : Inv X pins σ (upd H' er (ExcAt er C)) { s' with heap := h6 } :=
    I.call' (s' := { s' with heap := h6 }) (ch := []) F.os u6 (hok_er (F.hokAt fly6.1) F.noTrk (isExc_of fly6 b6)) F.bare fun _ z => nomatch z
  refine store_ok (X := X.inH er) (i := i) (v := .ref er) (K6.inH er) hN hi (.inl hl) rfl (fun s7 J7 => ?_) (.inr hl)
  refine wpAny_mono (hth pins s7 _ _ _ J7 q) (fun fl s8 hs => ?_) fun _ _ z => z.elim
  obtain ⟨σ9, H9, I9, fin⟩ := SP.gone I.ok hs
  exact unbind_ok I9 hN hi hl fun s10 J10 => fin s10 J10
end

theorem Fun.okX {P : Program} {w : World} {K : PySem.W.Frag} {mg : Str → Option Value} {base : Heap} {CX : CXT} {x qual : Str} {st : Stmt} {f : Addr} {fd : FuncData} {N ps : List Str} {k : Nat} {sp : Sp} (F : Fun K x qual st f fd) (S : FnScope N ps (defScope st)) (len : ∀ vs H Q E, sp vs H Q E → vs.length = ps.length)
    (body : ∀ (cdv : Value) (A : Around) (outer : List Env) (s : Shared) (H : Hp) (vs : List V) (Q : VK) (E : XK), Room k (A.deeper (envOfC qual (defScope st) s.heap.objs.size f cdv)) → sp vs H Q E →
      ∃ t, PSs (cxOf CX P w K mg base N qual (defScope st) f cdv A outer s H E) (defBody st) t ∧ t { nx := fun _ H' => Q .non H', rt := Q } (start N vs) H) : FnOk P w K mg base CX (k + 1) f fd ps sp := by
  obtain ⟨oc, od, kV, doc, pm, an, cdv, ct, osl, rfl, lk, hcd⟩ := F.ex
  exact fn_of lk hcd S len fun A outer s H vs Q E hr hsp => body cdv A outer s H vs Q E hr hsp
noncomputable def tTryE (K : PySem.W.Frag) (CQ : Addr) (i : Nat) (sp : Sp) (ta : TA) (th : TS) : TS := fun D σ H => ta σ H fun vs H1 => sp vs H1 (fun _ H2 => D.nx σ H2) fun cls _ H2 =>
  ∃ C, cls = .ref C ∧ PySem.W.exmOne K (.ref C) (.ref CQ) = some true ∧ ∀ er, H2 er = none → th (D.gone i) (σ.set i (some (.ref er))) (upd H2 er (ExcAt er C))
theorem ps_tryE {X : Cx} {k : Nat} {f CQ : Addr} {fd : FuncData} {ps : List Str} {sp : Sp} {x qn n : Str} {p cp ep qp hp pos : Pos} {e : Expr} {es : List Expr} {ta : TA} {b0 : Stmt} {suite : List Stmt} {i : Nat} {th : TS}
    (hst : X.stack = X.env :: X.outer ∧ X.env.frame = some X.env.locals) (F : FnOk X.prog X.w X.K X.mg X.base (CXF X.prog X.w) k f fd ps sp) (hr : Room k X.A) (hgf : Gl X x) (hmf : X.mg x = some (.ref f)) (hk : PySem.W.keepIn X.K (.ref f) = true) (hb : Binds X.K fd ps [])
    (ha : PA X.nox (e :: es) ta) (hg : Gl X qn) (hm : X.mg qn = some (.ref CQ)) (hN : X.N.Nodup) (hi : X.N[i]? = some n) (hl : X.env.kindOf n = some .local) (hth : ∀ er, PSs (X.inH er) (b0 :: suite) th)
    (hdf : autoParam ((x == ("__debug__" : Str)) = false) Internal.aut1._auto_1) (hdb : autoParam ((qn == ("__debug__" : Str)) = false) Internal.aut1._auto_1) (he : autoParam (starEach (e :: es) X.env = (false, eval e X.env) :: starEach es X.env) Internal.aut2._auto_1) (hpl : autoParam ((backTo cp (starEach es X.env)).any (·.1) = false) Internal.aut2._auto_1)
    (hsw : autoParam (swapsWith (.Call (.Name x p) (e :: es) [] cp) none ep.line X.env = pure false) Internal.aut2._auto_1) :
    PS X (.Try [.Expr (.Call (.Name x p) (e :: es) [] cp) ep] [.ExceptHandler (some (.Name qn qp)) (some n) (b0 :: suite) hp] [] [] pos) (tTryE X.K CQ i sp ta th) := by
  intro pins s σ H D I h
  refine wpAny_Try_except (wpAny_execs_cons (wpAny_Expr_any ?_ I.quiet hsw))
  refine wpAny_Call_Name_kw (ld_glob I hgf hmf ?_ hdf)
  refine PySem.W.callWith_K (h₀ := X.base) I.ok.mod.kin hk (wpAny_mono (ha cp pins s σ H _ (I.wish _) h) (fun us s1 q => ?_) fun _ _ z => z.elim) he hpl
  obtain ⟨vs, H1, J1, r, q⟩ := q
  have I1 := J1.unwish
  refine ⟨I1.kIn, ?_⟩
  have hlen : us.length = ps.length := by rw [← r.length]; exact F.len _ _ _ _ q
  have hbd := hb s1 us I1.kIn (by rw [List.append_nil]; exact hlen)
  rw [List.append_nil] at hbd
  refine wpAny_call (codeAny_mono (F.run X.A X.stack s1 H1 ⟨us, []⟩ us vs _ _ hr I1.env0 hbd r q) fun res s' hq => ?_)
  cases res with
  | error er0 =>
    obtain ⟨er, C, t, B, H2, rfl, fl, C', ec, hx, hh⟩ := hq
    cases ec
    exact taken hst I1 fl hg hm hx hN hi hl (hth er) (hh er fl.noTrk) hdb
  | ok fw =>
    cases fw with
    | ret u =>
      obtain ⟨v, H2, I2, _, q2⟩ := I1.after hq
      exact wpAny_execs_nil (wpAny_execs_nil ⟨σ, H2, I2, q2⟩)
    | next => exact hq.elim
    | brk => exact hq.elim
    | cont => exact hq.elim
noncomputable def rIsiU (K : PySem.W.Frag) : List V → Hp → VK → Prop := fun xs H Q => (∃ er C c cv b, xs = [.ref er, c] ∧ RelV c cv ∧ H er = some (ExcAt er C) ∧ errOk K C = true ∧ PySem.W.kitOne K (.ref C) cv = some b ∧ Q (.bl b) H) ∨ rIsi K xs H Q
theorem call_isiU {X : Cx} : CallR X (.builtin "isinstance") (rIsiU X.K) := by
  refine CallR.or ?_ call_isinst
  intro pins s σ H xs us Q I r h
  obtain ⟨er, C, c, cv, b, rfl, rc, he, ok, hk, q⟩ := h
  obtain ⟨u, w', rfl, r1, r2⟩ := vals2 r
  obtain rfl : u = Value.ref er := r1
  have ie : IsExc er C s.heap := (I.hok er _ he).1
  have ec : w' = cv := by
    cases c with
    | ty n => exact (show w' = _ from r2).trans (show cv = _ from rc).symm
    | ref a => exact (show w' = _ from r2).trans (show cv = _ from rc).symm
    | non => exact (show w' = _ from r2).trans (show cv = _ from rc).symm
    | bl b => exact (show w' = _ from r2).trans (show cv = _ from rc).symm
    | _ => obtain ⟨_, rfl⟩ := rc; simp [PySem.W.kitOne, PySem.W.kitCls] at hk
  subst ec
  exact PySem.W.kia_one (kitx_err ok) I.kIn ie hk (by intro z; cases z) fun tk => ⟨.bl b, H, I.tok tk, rfl, q⟩
theorem x_isU {K : PySem.W.Frag} {xs : List V} {H : Hp} {Q : VK} (q : rIsi K xs H Q) : rIsiU K xs H Q := .inr q
theorem x_isE {K : PySem.W.Frag} {H : Hp} {Q : VK} {er C : Addr} {c : V} {cv : Value} {b : Bool} (h : H er = some (ExcAt er C)) (ok : errOk K C = true) (rc : RelV c cv) (e : PySem.W.kitOne K (.ref C) cv = some b) (q : Q (.bl b) H) : rIsiU K [.ref er, c] H Q := .inl ⟨er, C, c, cv, b, rfl, rc, h, ok, e, q⟩
theorem x_raise {C : Addr} {Ex : XK} {ta : TA} {D : Ends} {σ : St} {H : Hp} (q : ta σ H fun vs H1 => vs.length ≤ sizeLine ∧ Ex (.ref C) none H1) : tRaise C Ex ta D σ H := q
theorem x_tryE {K : PySem.W.Frag} {CQ : Addr} {i : Nat} {sp : Sp} {ta : TA} {th : TS} {D : Ends} {σ : St} {H : Hp} (q : ta σ H fun vs H1 => sp vs H1 (fun _ H2 => D.nx σ H2) fun cls _ H2 =>
  ∃ C, cls = .ref C ∧ PySem.W.exmOne K (.ref C) (.ref CQ) = some true ∧ ∀ er, H2 er = none → th (D.gone i) (σ.set i (some (.ref er))) (upd H2 er (ExcAt er C))) : tTryE K CQ i sp ta th D σ H := q
theorem x_catch {K : PySem.W.Frag} {C CQ : Addr} {th : TS} {D : Ends} {σ : St} {i : Nat} {H : Hp} (hx : PySem.W.exmOne K (.ref C) (.ref CQ) = some true) (q : ∀ er H', H er = none → Same H H' → H' er = some (ExcAt er C) → th D (σ.set i (some (.ref er))) H') :
    ∃ C', Value.ref C = Value.ref C' ∧ PySem.W.exmOne K (.ref C') (.ref CQ) = some true ∧ ∀ er, H er = none → th D (σ.set i (some (.ref er))) (upd H er (ExcAt er C')) := ⟨C, rfl, hx, fun er hn => q er _ hn (Same.new hn _) upd_same⟩
theorem cls_some {K : PySem.W.Frag} {D : Addr} (h : PySem.W.hasDictIn K D = true) : (PySem.W.clsIn K D).isSome = true := by
  obtain ⟨cd, e, _⟩ := PySem.W.any_some h
  rw [e]; rfl
theorem errOk_mk {K : PySem.W.Frag} {C : Addr} (x : PySem.W.excIn K C [.type "ValueError", .type "Exception", .type "BaseException", .type "object"] "ValueError.__new__" = true) (ga : PySem.W.findIn K (.ref C) "__getattribute__" = some (some (.builtin "BaseException.__getattribute__"))) (gn : PySem.W.findIn K (.ref C) "__getattr__" = some none) (be : PySem.W.mroIn K C (.type "BaseException") = some true) (hd : PySem.W.hasDictIn K C = true)
    (fa : PySem.W.findIn K (.ref C) "__class__" = some (some (.builtin "object.__class__"))) (sn : PySem.W.specialIn K (.builtin "object.__class__") "__get__" = some (some (.builtin "getset_descriptor.__get__"))) (tk : PySem.W.takesIn K (.builtin "object.__class__") = some true)
    (mo : PySem.W.mroIn K C (.type "object") = some true) : errOk K C = true := by
  unfold errOk bmV
  rw [x, ga, gn, be, cls_some hd, fa, sn, tk, mo]; simp
theorem kit_cls_of {K : PySem.W.Frag} {t : Value} {D : Addr} {b : Bool} (hd : PySem.W.hasDictIn K D = true) (ht : PySem.W.typeIn K (.ref D) = some (.type "type")) (hs : PySem.W.subIn K t (.ref D) = some b) : PySem.W.kitCls K t (.ref D) = some b := by
  unfold PySem.W.kitCls
  simp only
  rw [cls_some hd, ht, if_pos (by simp)]; exact hs
theorem kit_ne {K : PySem.W.Frag} {C D : Addr} {b : Bool} (h : C ≠ D) (hd : PySem.W.hasDictIn K D = true) (ht : PySem.W.typeIn K (.ref D) = some (.type "type")) (hs : PySem.W.subIn K (.ref C) (.ref D) = some b) : PySem.W.kitOne K (.ref C) (.ref D) = some b := by
  unfold PySem.W.kitOne
  rw [if_neg (by intro z; exact h (Value.ref.inj (beq_iff_eq.mp z)))]
  exact kit_cls_of hd ht hs
theorem kit_self {K : PySem.W.Frag} {C : Addr} : PySem.W.kitOne K (.ref C) (.ref C) = some true := by
  unfold PySem.W.kitOne
  rw [if_pos (by simp)]
theorem kit_V {K : PySem.W.Frag} {C : Addr} {b : Bool} (hs : PySem.W.subIn K (.ref C) (.type "ValueError") = some b) : PySem.W.kitOne K (.ref C) (.type "ValueError") = some b := by
  unfold PySem.W.kitOne
  rw [if_neg (by intro z; cases beq_iff_eq.mp z)]
  unfold PySem.W.kitCls
  simp only
  rw [if_pos (by decide +kernel)]; exact hs
theorem exm_mk {K : PySem.W.Frag} {C D : Addr} {b : Bool} (hq : PySem.W.subIn K (.ref D) (.type "BaseException") = some true) (hd : PySem.W.hasDictIn K D = true) (ht : PySem.W.typeIn K (.ref D) = some (.type "type")) (hs : PySem.W.subIn K (.ref C) (.ref D) = some b) : PySem.W.exmOne K (.ref C) (.ref D) = some b := by
  unfold PySem.W.exmOne
  rw [hq, if_pos (by simp)]
  exact kit_cls_of hd ht hs
end Internal

set_option Elab.async false
set_option linter.all false
set_option maxRecDepth 100000
namespace Internal
open PySem PySem.Spec PyProof.Rows
theorem pass_F {P : Program} {w : World} {K : PySem.W.Frag} {mg : Str → Option Value} {base : Heap} {N : List Str} {qual : Str} {scope : Scope} {f : Addr} {cd : Value} {A : Around} {outer : List Env} {s : Shared} {H : Hp} {E : XK} :
    Passes (CXF P w) (cxOf (CXF P w) P w K mg base N qual scope f cd A outer s H E) E := by
  intro pins σ H1 s1 e s2 I hx
  obtain ⟨er, C, t, B, H', rfl, F, ex⟩ := hx
  have fr := I.stack
  have nfr : ∀ b o, s.heap.get? b = some o → b ∉ frs outer → b ∉ frs (envOfC qual scope s.heap.objs.size f cd :: outer) := fun b o q n z => by
    rcases List.mem_cons.mp (show b ∈ s.heap.objs.size :: frs outer from z) with z | z
    · exact Nat.ne_of_lt (Heap.lt_size q) z
    · exact n z
  have sub : ∀ b ∈ frs outer, b ∈ frs (envOfC qual scope s.heap.objs.size f cd :: outer) := fun b hb => List.mem_cons_of_mem _ hb
  show wpAny (model P w) (A.deeper (envOfC qual scope s.heap.objs.size f cd)) (leaving (envOfC qual scope s.heap.objs.size f cd) (.ref er)) _ _ _
  refine wpAny_mono (DK.any (E := fun _ _ => False) (Q := fun _ s'' => Bare er s'' → CXF P w outer H s E (.ref er) s'') (dk_leaving _ _) F.nod ?_) (fun _ s'' q => q.1 q.2) fun _ _ q => q.1.elim
  refine wpAny_leaves_onW (L := s.heap.objs.size) I.ok.frames rfl F.fly fun h'' fly up b1 => ?_
  have u2 := F.unAt fr fly.1 up
  refine ⟨er, C, t, B, H', rfl, ⟨F.os.trans I.os, F.bare, ⟨fun b o q n hb _ => ?_, fun b o q n hb _ => ?_, fun b o q n _ => ?_, fun b o q _ => ?_, fun b xs q => u2.tups b xs (I.base.tups b xs q), fun b o xs q => u2.frzs b o xs (I.base.frzs b o xs q), fun b ps q => ?_⟩, F.hokAt fly.1, fly, fun b o q n hb => ?_, fun b o q hb => ?_, fun b o u q e => ?_, b1⟩, ex⟩
  · exact u2.keep b o (I.base.keep b o q n hb (by simp [cxOf])) (I.base.free b o q n (by simp [cxOf])) (nfr b o q hb) (by simp)
  · obtain ⟨sl, e1⟩ := I.base.slot b o q n hb (by simp [cxOf])
    obtain ⟨sl', e2⟩ := u2.slot b _ e1 (I.base.free b o q n (by simp [cxOf])) (sub b hb) (by simp)
    exact ⟨sl', e2⟩
  · obtain ⟨o1, e1⟩ := I.base.there b o q (by simp [cxOf])
    exact u2.free b o1 e1 (I.base.free b o q n (by simp [cxOf])) (by simp)
  · obtain ⟨o1, e1⟩ := I.base.there b o q (by simp [cxOf])
    exact u2.there b o1 e1 (by simp)
  · obtain ⟨m1, e1⟩ := I.base.tbls b ps q
    obtain ⟨m2, e2⟩ := u2.tbls b _ e1
    exact ⟨m1 ++ m2, by rw [e2, Array.append_assoc]⟩
  · exact F.old b o (I.base.keep b o q n hb (by simp [cxOf])) (I.base.free b o q n (by simp [cxOf])) (nfr b o q hb)
  · obtain ⟨o1, e1⟩ := I.base.there b o q (by simp [cxOf])
    exact F.has b o1 e1 (nfr b o q hb)
  · obtain ⟨u1, e1⟩ := (F.hok b o q).obj
    have z := F.trk b o u1 q e1
    have z2 := fly.1 b u1 z
    have e' : h''.get? b = some u := e
    rw [z2] at e'; cases e'
    exact z
noncomputable abbrev TEr := St → Hp → VK → (Addr → Hp → Prop) → Prop
noncomputable abbrev TTr := Ends → (Addr → St → Hp → Prop) → St → Hp → Prop
section
variable {X : Cx} {pos : Pos}
noncomputable abbrev tExprR (te : TEr) : TTr := fun D Eh σ H => te σ H (fun _ H2 => D.nx σ H2) fun C H2 => Eh C σ H2
noncomputable abbrev tIfR (c : TT) (t u : TTr) : TTr := fun D Eh σ H => c σ H fun b H1 => if b = true then t D Eh σ H1 else u D Eh σ H1
noncomputable abbrev tNilR : TTr := fun D _ σ H => D.nx σ H
end
section
variable {σ : St} {H : Hp} {Q : VK} {D : Ends} {K : PySem.W.Frag} {Eh : Addr → Hp → Prop} {Eg : Addr → St → Hp → Prop}
end
end Internal

set_option Elab.async false
set_option linter.all false
set_option maxRecDepth 100000
namespace Internal
open PySem PySem.Spec PyProof.Rows
section
variable {X : Cx} {pins : List (Addr × Obj)} {σ : St} {H : Hp} {s : Shared} {h' : Heap}
theorem Inv.turnedL {t' : Nat} {fp : List Addr} (I : Inv X pins σ H s) (k : ∀ b o, b ∉ fp → s.heap.get? b = some o → h'.get? b = some o) (f : ∀ b ∈ fp, FpOk X pins H b) : Inv X pins σ H { s with heap := h', toks := t' } := by
  have nit : ∀ b u, H b = some u → b ∉ fp := fun b u e z => by rw [(f b z).1] at e; cases e
  refine I.step (g' := s.gens) (d' := s.drawn) (ch := fp) (fun b hb => ⟨(f b hb).2.2.2.1, (f b hb).2.1, (f b hb).2.2.2.2.1, (f b hb).2.2.2.2.2⟩) (fun b o _ _ hc e _ => k b o hc e) (fun b o _ _ hc e _ => ⟨o.slots, k b o hc e⟩) (fun _ _ _ _ n => n)
    (fun b o hc e => ⟨o, k b o hc e⟩) (fun _ _ e => e) (fun _ _ _ e => e) (fun b ps e => ⟨#[], by rw [e]; simp⟩) (fun m hm => ?_) (fun b u e => ?_) I.bare
  · obtain ⟨o, es, ep, ho, r⟩ := hm
    exact ⟨o, es, ep, k _ o (fun z => (f _ z).2.1 rfl) ho, r⟩
  · refine (I.hok b u e).stay (fun c v hc q => k c v ?_ q) (fun _ q => q) fun _ _ q => q
    rcases hc with z | z
    · rw [z]; exact nit b u e
    · exact nit c _ z
theorem Inv.turnedNew {t' : Nat} {fp : List Addr} {p : Addr} {o : HO} (I : Inv X pins σ H s) (k : ∀ b o, b ∉ fp → s.heap.get? b = some o → h'.get? b = some o) (f : ∀ b ∈ fp, FpOk X pins H b) (hp : s.heap.objs.size ≤ p) (new : ObjOk X.prog X.w (upd H p o) h' p o) :
    Inv X pins σ (upd H p o) { s with heap := h', toks := t' } := by
  have nit : ∀ b u, H b = some u → b ∉ fp := fun b u e z => by rw [(f b z).1] at e; cases e
  have hn : H p = none := I.hok.fresh hp
  refine I.step (g' := s.gens) (d' := s.drawn) (ch := fp) (fun b hb => ⟨(f b hb).2.2.2.1, (f b hb).2.1, (f b hb).2.2.2.2.1, (f b hb).2.2.2.2.2⟩) (fun b o _ _ hc e _ => k b o hc e) (fun b o _ _ hc e _ => ⟨o.slots, k b o hc e⟩) (fun b u _ e n => ?_)
    (fun b o hc e => ⟨o, k b o hc e⟩) (fun b xs e => by rw [upd_ne (ne_of_none e hn)]; exact e) (fun b u v e => by rw [upd_ne (ne_of_none e hn)]; exact e) (fun b ps e => ⟨#[], by rw [upd_ne (ne_of_none e hn), e]; simp⟩) (fun m hm => ?_) (fun b u e => ?_) I.bare
  · rw [upd_ne (Nat.ne_of_lt (Nat.lt_of_lt_of_le (Heap.lt_size e) hp))]; exact n
  · obtain ⟨o, es, ep, ho, r⟩ := hm
    exact ⟨o, es, ep, k _ o (fun z => (f _ z).2.1 rfl) ho, r⟩
  · by_cases hb : b = p
    · subst hb; rw [upd_same] at e; cases e; exact new
    · rw [upd_ne hb] at e
      refine (I.hok b u e).stay (fun c v hc q => k c v ?_ q) (fun c q => by rw [upd_ne (ne_of_none q hn)]; exact q) fun c xs q => by rw [upd_ne (ne_of_none q hn)]; exact q
      rcases hc with z | z
      · rw [z]; exact nit b u e
      · exact nit c _ z
end
theorem ne_ty {h : Heap} {a b : Addr} {o o' : Obj} {m n : String} (e : h.get? a = some o) (c : o.cls = .type m) (e' : h.get? b = some o') (c' : o'.cls = .type n) (hc : (m == n) = false) : a ≠ b := by
  rintro rfl
  rw [e] at e'
  cases e'
  rw [c] at c'
  cases c'
  rw [beq_self_eq_true] at hc
  cases hc
theorem tup2 {P : Program} {w : World} {H : Hp} {h : Heap} {p : Addr} {x y : V} {u v : Value} (e : h.get? p = some { cls := .type "tuple", data := .seq #[u, v] }) (r1 : RelV x u) (r2 : RelV y v) : ObjOk P w H h p (.tup [x, y]) :=
  ⟨small_le (by simp), [u, v], .cons r1 (.cons r2 .nil), _, e, rfl, _, rfl⟩
noncomputable def Itn (K : PySem.W.Frag) (a : Addr) : It :=
  ⟨fun i H => ∃ xs x, SqL K H a xs ∧ xs[i]? = some x, fun i H v H' => ∃ p x, H p = none ∧ v = .ref p ∧ (∀ xs, SqL K H a xs → xs[i]? = some x) ∧ H' = upd H p (.tup [.int i, x]), fun i H => ∃ xs, SqL K H a xs ∧ xs.length ≤ i⟩
theorem turn_enum {P : Program} {w : World} {K : PySem.W.Frag} {es : List Expr} {kx : Nat} {tp : Pos} (a e it : Addr) (hne : e ≠ it) : Turn P w K (.Tuple es kx tp) (Itn K a) [e, it] e (fun i h => (∃ old, IsEnum h e it i old) ∧ h.IsListIter it a i) where
  mem := by simp
  obj := fun i h st b hb => by
    obtain ⟨⟨old, h1⟩, o, h2, c, d⟩ := st
    rcases List.mem_cons.mp hb with z | z
    · subst z; exact ⟨_, h1, fun v z => by cases z⟩
    · have e : b = it := by simpa using z
      subst e
      exact ⟨o, h2, fun v z => by rw [d] at z; cases z⟩
  keep := fun i h h' st k => by
    obtain ⟨⟨old, h1⟩, h2⟩ := st
    exact ⟨⟨old, k e (by simp) _ h1⟩, h2.at fun o q => k it (by simp) o q⟩
  item := by
    intro X hP hw hK hc i pins s σ H E I hf st hg
    subst hP hw hK
    obtain ⟨⟨old, he⟩, hit⟩ := st
    obtain ⟨xs, x, hq, hx⟩ := hg
    obtain ⟨its, rv, p, hz⟩ := I.list hq
    obtain ⟨u, hu, ru⟩ := rv.get hx
    refine wpAny_pyNext_enum_item he hit p.isList (x := u) (by simpa using hu) hne fun h1 eo it1 tp1 sz1 k1 => ?_
    refine ⟨_, rfl, wpAny_letOwnedTupleGo_enum eo fun h2 e2 sb2 => ?_⟩
    have hes : e ≠ s.heap.objs.size := Nat.ne_of_lt (Heap.lt_size he)
    have sb2' : Heap.SameBut e h1 h2 := sb2
    have t2 : h2.get? s.heap.objs.size = some { cls := .type "tuple", data := .seq #[.int i s.toks, u] } := (sb2'.2 _ (Ne.symm hes)).trans tp1
    have k2 : ∀ b o, b ∉ [e, it] → s.heap.get? b = some o → h2.get? b = some o := fun b o hb q => by
      have n1 : b ≠ e := fun z => hb (by simp [z])
      have n2 : b ≠ it := fun z => hb (by simp [z])
      exact (sb2'.2 b n1).trans (k1 b o n1 n2 q)
    have I2 : Inv X pins σ (upd H s.heap.objs.size (.tup [.int i, x])) { s with heap := h2, toks := s.toks + 1 } := I.turnedNew k2 hf (Nat.le_refl _) (tup2 t2 ⟨_, rfl⟩ ru)
    have hn : H s.heap.objs.size = none := I.hok.fresh (Nat.le_refl _)
    refine ⟨.ref s.heap.objs.size, _, I2, rfl, ⟨_, x, hn, rfl, fun ys hy => by rw [I.list_inj hy hq]; exact hx, rfl⟩, ⟨⟨_, e2⟩, it1.at fun o q => (sb2'.2 it (Ne.symm hne)).trans q⟩, fun b hb => ?_⟩
    have hbs : b ≠ s.heap.objs.size := by
      rcases List.mem_cons.mp hb with z | z
      · rw [z]; exact hes
      · have e : b = it := by simpa using z
        subst e
        obtain ⟨o, q, _⟩ := hit
        exact Nat.ne_of_lt (Heap.lt_size q)
    rw [upd_ne hbs]
    exact (hf b hb).1
  done := by
    intro X hP hw hK hc i pins s σ H E I hf st hg
    subst hP hw hK
    obtain ⟨⟨old, he⟩, hit⟩ := st
    obtain ⟨xs, hq, hx⟩ := hg
    obtain ⟨its, rv, p, hz⟩ := I.list hq
    have hl := rv.length
    refine wpAny_pyNext_enum_end (I.ok.hd hc) he hit p.isList (by simp; omega) fun h1 eb => ⟨rfl, I.turnedL (t' := s.toks) (fp := [e, it]) (fun b o hb q => eb b o (fun z => hb (by simp [z])) q) hf⟩
  self := fun _ _ _ _ _ st h => by
    obtain ⟨⟨old, he⟩, _⟩ := st
    exact wpAny_pyIter_enum he h
noncomputable def Itz (K : PySem.W.Frag) (a b : Addr) : It :=
  ⟨fun i H => ∃ xs ys x y, SqL K H a xs ∧ SqL K H b ys ∧ xs[i]? = some x ∧ ys[i]? = some y, fun i H v H' => ∃ p x y, H p = none ∧ v = .ref p ∧ (∀ xs, SqL K H a xs → xs[i]? = some x) ∧ (∀ ys, SqL K H b ys → ys[i]? = some y) ∧ H' = upd H p (.tup [x, y]),
    fun i H => ∃ xs ys, SqL K H a xs ∧ SqL K H b ys ∧ (xs.length ≤ i ∨ ys.length ≤ i)⟩
theorem apart_of {h : Heap} {z TI TO i1 i2 a b : Addr} {f0 x1 y1 x2 y2 : Value} {k1 k2 : Nat} {xs ys : Array Value} (hz : IsZip h z TI TO f0) (hTI : IsPair h TI x1 y1) (hTO : IsPair h TO x2 y2) (h1 : h.IsListIter i1 a k1) (h2 : h.IsListIter i2 b k2)
    (l1 : h.IsList a xs) (l2 : h.IsList b ys) (nT : TI ≠ TO) (ni : i1 ≠ i2) : ZipApart z TI TO i1 i2 a b := by
  obtain ⟨o1, e1, c1, _⟩ := h1
  obtain ⟨o2, e2, c2, _⟩ := h2
  obtain ⟨m1, g1, d1, _⟩ := l1
  obtain ⟨m2, g2, d2, _⟩ := l2
  exact ⟨ne_ty hTI rfl hz rfl (by decide), ne_ty hTO rfl hz rfl (by decide), ne_ty e1 c1 hz rfl (by decide), ne_ty e2 c2 hz rfl (by decide), nT, ne_ty hTI rfl e1 c1 (by decide), ne_ty hTI rfl e2 c2 (by decide), ne_ty hTO rfl e1 c1 (by decide), ne_ty hTO rfl e2 c2 (by decide), ni, ne_ty g1 d1 hz rfl (by decide), ne_ty g1 d1 hTO rfl (by decide), ne_ty g1 d1 e1 c1 (by decide), ne_ty g1 d1 e2 c2 (by decide), ne_ty g2 d2 hz rfl (by decide), ne_ty g2 d2 hTO rfl (by decide), ne_ty g2 d2 e1 c1 (by decide), ne_ty g2 d2 e2 c2 (by decide)⟩
theorem turn_zip {P : Program} {w : World} {K : PySem.W.Frag} {es : List Expr} {kx : Nat} {tp : Pos} (a b z TI TO i1 i2 : Addr) (nT : TI ≠ TO) (ni : i1 ≠ i2) : Turn P w K (.Tuple es kx tp) (Itz K a b) [z, TI, TO, i1, i2] z
    (fun i h => IsZip h z TI TO .none ∧ IsPair h TI (.ref i1) (.ref i2) ∧ (∃ x y, IsPair h TO x y) ∧ h.IsListIter i1 a i ∧ h.IsListIter i2 b i) where
  mem := by simp
  obj := fun i h st c hb => by
    obtain ⟨hz, hTI, ⟨x, y, hTO⟩, ⟨o1, e1, c1, d1⟩, ⟨o2, e2, c2, d2⟩⟩ := st
    simp only [List.mem_cons, List.not_mem_nil, or_false] at hb
    rcases hb with rfl | rfl | rfl | rfl | rfl
    · exact ⟨_, hz, fun v q => by cases q⟩
    · exact ⟨_, hTI, fun v q => by cases q⟩
    · exact ⟨_, hTO, fun v q => by cases q⟩
    · exact ⟨_, e1, fun v q => by rw [d1] at q; cases q⟩
    · exact ⟨_, e2, fun v q => by rw [d2] at q; cases q⟩
  keep := fun i h h' st k => by
    obtain ⟨hz, hTI, ⟨x, y, hTO⟩, h1, h2⟩ := st
    exact ⟨k z (by simp) _ hz, k TI (by simp) _ hTI, ⟨x, y, k TO (by simp) _ hTO⟩, h1.at fun o q => k i1 (by simp) o q, h2.at fun o q => k i2 (by simp) o q⟩
  item := by
    intro X hP hw hK hc i pins s σ H E I hf st hg
    subst hP hw hK
    obtain ⟨hz, hTI, ⟨x0, y0, hTO⟩, h1, h2⟩ := st
    obtain ⟨xs, ys, x, y, hq, hq', hx, hy⟩ := hg
    obtain ⟨its, rv, p, hsz⟩ := I.list hq
    obtain ⟨jts, rv', p', hsz'⟩ := I.list hq'
    obtain ⟨u, hu, ru⟩ := rv.get hx
    obtain ⟨u', hu', ru'⟩ := rv'.get hy
    have A := apart_of hz hTI hTO h1 h2 p.isList p'.isList nT ni
    refine wpAny_pyNext_zip_item A hz hTI hTO h1 h2 p.isList p'.isList (x := u) (y := u') (by simpa using hu) (by simpa using hu') fun g1 z1 to1 j1 j2 t1 sz1 k1 => ?_
    refine ⟨_, rfl, wpAny_letOwnedTupleGo_zip z1 fun g2 z2 sb2 => ?_⟩
    have sb2' : Heap.SameBut z g1 g2 := sb2
    have hzs : z ≠ s.heap.objs.size := Nat.ne_of_lt (Heap.lt_size hz)
    have t2 : g2.get? s.heap.objs.size = some { cls := .type "tuple", data := .seq #[u, u'] } := (sb2'.2 _ (Ne.symm hzs)).trans t1
    have k2 : ∀ c o, c ∉ [z, TI, TO, i1, i2] → s.heap.get? c = some o → g2.get? c = some o := fun c o hb q => by
      have n1 : c ≠ z := fun z => hb (by simp [z])
      exact (sb2'.2 c n1).trans (k1 c o n1 (fun z => hb (by simp [z])) (fun z => hb (by simp [z])) (fun z => hb (by simp [z])) q)
    have I2 : Inv X pins σ (upd H s.heap.objs.size (.tup [x, y])) { s with heap := g2, toks := s.toks } := I.turnedNew k2 hf (Nat.le_refl _) (tup2 t2 ru ru')
    have hn : H s.heap.objs.size = none := I.hok.fresh (Nat.le_refl _)
    refine ⟨.ref s.heap.objs.size, _, I2, rfl, ⟨_, x, y, hn, rfl, fun ys hy' => by rw [I.list_inj hy' hq]; exact hx, fun ys hy' => by rw [I.list_inj hy' hq']; exact hy, rfl⟩,
      ⟨z2, (sb2'.2 TI A.TIz).trans (k1 TI _ A.TIz A.TITO A.TIi1 A.TIi2 hTI), ⟨_, _, (sb2'.2 TO A.TOz).trans to1⟩, j1.at fun o q => (sb2'.2 i1 A.i1z).trans q, j2.at fun o q => (sb2'.2 i2 A.i2z).trans q⟩, fun c hb => ?_⟩
    have hbs : c ≠ s.heap.objs.size := by
      simp only [List.mem_cons, List.not_mem_nil, or_false] at hb
      obtain ⟨o1, e1, _⟩ := h1
      obtain ⟨o2, e2, _⟩ := h2
      rcases hb with rfl | rfl | rfl | rfl | rfl
      · exact hzs
      · exact Nat.ne_of_lt (Heap.lt_size hTI)
      · exact Nat.ne_of_lt (Heap.lt_size hTO)
      · exact Nat.ne_of_lt (Heap.lt_size e1)
      · exact Nat.ne_of_lt (Heap.lt_size e2)
    rw [upd_ne hbs]
    exact (hf c hb).1
  done := by
    intro X hP hw hK hc i pins s σ H E I hf st hg
    subst hP hw hK
    obtain ⟨hz, hTI, ⟨x0, y0, hTO⟩, h1, h2⟩ := st
    obtain ⟨xs, ys, hq, hq', hx⟩ := hg
    obtain ⟨its, rv, p, hsz⟩ := I.list hq
    obtain ⟨jts, rv', p', hsz'⟩ := I.list hq'
    have hl := rv.length
    have hl' := rv'.length
    have A := apart_of hz hTI hTO h1 h2 p.isList p'.isList nT ni
    refine wpAny_pyNext_zip_end (I.ok.hd hc) A hz hTI hTO h1 h2 p.isList p'.isList ?_ fun g1 k1 => ⟨rfl, I.turnedL (t' := s.toks) (fp := [z, TI, TO, i1, i2]) (fun c o hb q => k1 c o (fun z => hb (by simp [z])) (fun z => hb (by simp [z])) (fun z => hb (by simp [z])) (fun z => hb (by simp [z])) q) hf⟩
    rcases hx with q | q
    · exact .inl (by simp; omega)
    · exact .inr (by simp; omega)
  self := fun _ _ _ _ _ st h => wpAny_pyIter_zip st.1 h
section
variable {X : Cx} {es : List Expr} {kx : Nat} {tp : Pos}
noncomputable def rEnum (K : PySem.W.Frag) (R : It → Hp → Prop) (vs : List V) (H : Hp) : Prop := ∃ a, vs = [.ref a] ∧ (∃ xs, SqL K H a xs) ∧ R (Itn K a) H
noncomputable def rZip (K : PySem.W.Frag) (R : It → Hp → Prop) (vs : List V) (H : Hp) : Prop := ∃ a b, vs = [.ref a, .ref b] ∧ (∃ xs, SqL K H a xs) ∧ (∃ ys, SqL K H b ys) ∧ R (Itz K a b) H
noncomputable abbrev iEnum (K : PySem.W.Frag) (ta : TA) : TI := fun σ H R => ta σ H (rEnum K R)
noncomputable abbrev iZip (K : PySem.W.Frag) (ta : TA) : TI := fun σ H R => ta σ H (rZip K R)
theorem pi_enum {a : Expr} {ta : TA} {p pos : Pos} (hg : Gl X "enumerate") (hm : X.mg "enumerate" = none) (ha : PA X [a] ta) (hs : autoParam (starEach [a] X.env = [(false, eval a X.env)]) Internal.aut2._auto_1) : PI X (.Tuple es kx tp) (.Call (.Name "enumerate" p) [a] [] pos) (iEnum X.K ta) := by
  intro pins s σ H R I h
  refine Call_ (ld_blt I hg hm boot_enumerate (PyProof.Rows.callWith_type1 (thn (ha pos pins s σ H _ I h) fun us s1 ⟨vs, H1, I1, r1, q1⟩ => ?_) hs rfl))
  obtain ⟨l, e, ⟨xs, hq⟩, q⟩ := q1
  subst e
  obtain ⟨u, rfl, r⟩ := vals1 r1
  cases r
  obtain ⟨its, rv, pl, hz⟩ := I1.list hq
  refine call_enumerate_list pl.isList fun h1 e1 i1 sz1 k1 => ?_
  refine wpAny_pyIter_enum e1 ?_
  have I2 : Inv X pins σ H1 { s1 with heap := h1, toks := s1.toks } := I1.kept k1
  refine ⟨s1.heap.objs.size + 1, [s1.heap.objs.size + 1, s1.heap.objs.size], _, _, H1, rfl, I2, turn_enum l _ _ (Nat.succ_ne_self _), ⟨⟨_, e1⟩, i1⟩, fun b hb => ?_, q⟩
  have hb' : s1.heap.objs.size ≤ b := by
    simp only [List.mem_cons, List.not_mem_nil, or_false] at hb
    rcases hb with rfl | rfl <;> omega
  exact I1.fpOk hb' (I1.hok.fresh hb')
theorem pi_zip {a b : Expr} {ta : TA} {p pos : Pos} (hg : Gl X "zip") (hm : X.mg "zip" = none) (ha : PA X [a, b] ta) (hs : autoParam (starEach [a, b] X.env = [(false, eval a X.env), (false, eval b X.env)]) Internal.aut2._auto_1) (hs2 : autoParam (starEach [b] X.env = [(false, eval b X.env)]) Internal.aut2._auto_1) :
    PI X (.Tuple es kx tp) (.Call (.Name "zip" p) [a, b] [] pos) (iZip X.K ta) := by
  intro pins s σ H R I h
  refine Call_ (ld_blt I hg hm boot_zip (PyProof.Rows.callWith_type1 (thn (ha pos pins s σ H _ I h) fun us s1 ⟨vs, H1, I1, r1, q1⟩ => ?_) (by rw [hs, hs2]) (by rw [hs2]; rfl)))
  obtain ⟨l, m, e, ⟨xs, hq⟩, ⟨ys, hq'⟩, q⟩ := q1
  subst e
  obtain ⟨u, u', rfl, r, r'⟩ := vals2 r1
  cases r
  cases r'
  obtain ⟨its, rv, pl, hz⟩ := I1.list hq
  obtain ⟨jts, rv', pl', hz'⟩ := I1.list hq'
  refine call_zip_2 pl.isList pl'.isList fun h1 z1 ti to i1 i2 sz1 k1 => ?_
  refine wpAny_pyIter_zip z1 ?_
  have I2 : Inv X pins σ H1 { s1 with heap := h1, toks := s1.toks } := I1.kept k1
  refine ⟨s1.heap.objs.size + 4, [s1.heap.objs.size + 4, s1.heap.objs.size + 2, s1.heap.objs.size + 3, s1.heap.objs.size, s1.heap.objs.size + 1], _, _, H1, rfl, I2, turn_zip l m _ _ _ _ _ (Nat.ne_of_lt (Nat.lt_succ_self _)) (Nat.ne_of_lt (Nat.lt_succ_self _)), ⟨z1, ti, ⟨_, _, to⟩, i1, i2⟩, fun b hb => ?_, q⟩
  have hb' : s1.heap.objs.size ≤ b := by
    simp only [List.mem_cons, List.not_mem_nil, or_false] at hb
    rcases hb with rfl | rfl | rfl | rfl | rfl <;> omega
  exact I1.fpOk hb' (I1.hok.fresh hb')
end
section
variable {X : Cx}
noncomputable def sumI (ns : List Int) : Int := ns.foldl (· + ·) 0
end
end Internal

set_option Elab.async false
set_option linter.all false
set_option maxRecDepth 100000
namespace Internal
open PySem PySem.Spec PyProof.Rows
section
variable {X : Cx}
end
noncomputable def Src (J : It) (P : Hp → Prop) (n : Nat) (Y : Nat → V → Hp → Prop) : Prop :=
  (∀ i H, P H → i < n → J.go i H) ∧ (∀ H, P H → J.stop n H) ∧ ∀ i H x H', P H → i < n → J.yld i H x H' → Same H H' ∧ Y i x H'
theorem lt_some {α : Type} {xs : List α} {i : Nat} (h : i < xs.length) : ∃ x, xs[i]? = some x := ⟨xs[i], by simp [h]⟩
theorem src_list {K : PySem.W.Frag} {a : Addr} {xs : List V} : Src (Itl K a) (fun H => SqL K H a xs) xs.length (fun i x _ => xs[i]? = some x) :=
  ⟨fun i H h hi => by obtain ⟨x, hx⟩ := lt_some hi; exact ⟨xs, x, h, hx⟩, fun H h => ⟨xs, h, Nat.le_refl _⟩, fun i H x H' h hi ⟨q, r⟩ => by subst q; exact ⟨Same.refl _, r xs h⟩⟩
theorem src_range {lo : Int} {n : Nat} : Src (Itr lo n) (fun _ => True) n (fun i x _ => x = .int (lo + i)) :=
  ⟨fun i H e hi => hi, fun H e => Nat.le_refl _, fun i H x H' e hi ⟨q, r⟩ => by subst q; exact ⟨Same.refl _, r⟩⟩
theorem src_enum {K : PySem.W.Frag} {a : Addr} {xs : List V} : Src (Itn K a) (fun H => SqL K H a xs) xs.length (fun i x H => ∃ p v, x = .ref p ∧ xs[i]? = some v ∧ H p = some (.tup [.int i, v])) :=
  ⟨fun i H h hi => by obtain ⟨x, hx⟩ := lt_some hi; exact ⟨xs, x, h, hx⟩, fun H h => ⟨xs, h, Nat.le_refl _⟩, fun i H x H' h hi ⟨p, v, hp, q, r, z⟩ => by subst z; exact ⟨Same.new hp _, p, v, q, r xs h, upd_same⟩⟩
theorem src_zip {K : PySem.W.Frag} {a b : Addr} {xs ys : List V} : Src (Itz K a b) (fun H => SqL K H a xs ∧ SqL K H b ys) (min xs.length ys.length) (fun i x H => ∃ p v w, x = .ref p ∧ xs[i]? = some v ∧ ys[i]? = some w ∧ H p = some (.tup [v, w])) :=
  ⟨fun i H h hi => by
    obtain ⟨x, hx⟩ := lt_some (show i < xs.length by omega)
    obtain ⟨y, hy⟩ := lt_some (show i < ys.length by omega)
    exact ⟨xs, ys, x, y, h.1, h.2, hx, hy⟩, fun H h => ⟨xs, ys, h.1, h.2, by omega⟩, fun i H x H' h hi ⟨p, v, w, hp, q, r, r', z⟩ => by subst z; exact ⟨Same.new hp _, p, v, w, q, r xs h.1, r' ys h.2, upd_same⟩⟩
section
variable {σ : St} {H : Hp} {Q : VK} {D : Ends} {ta tb tc te to ti : TE} {t u : TS} {K : PySem.W.Frag}
theorem x_forS {J : It} {P : Hp → Prop} {n : Nat} {Y : Nat → V → Hp → Prop} {g : TG} {tb : TS} (S : Src J P n Y) (Pv : Nat → St → Hp → Prop) (h0 : Pv 0 σ H) (hk : ∀ i σ H, Pv i σ H → P H)
    (hs : ∀ i x σ H H', i < n → Pv i σ H → Same H H' → Y i x H' → g x σ H' fun σ2 H2 => tb { D with nx := Pv (i + 1), ct := Pv (i + 1), bk := D.nx } σ2 H2) (hd : ∀ σ H, Pv n σ H → D.nx σ H) : ForK J g tb D σ H := by
  refine ⟨fun i m σ H => m = n - i ∧ i ≤ n ∧ Pv i σ H, ⟨n, by simp, Nat.zero_le _, h0⟩, ?_⟩
  rintro i m σ H ⟨rfl, hi, p⟩
  by_cases hlt : i < n
  · refine .inr ⟨S.1 i H (hk i σ H p) hlt, Pv (i + 1), fun σ' H' q => ⟨n - (i + 1), by omega, rfl, hlt, q⟩, fun x H' y => ?_⟩
    obtain ⟨e, y'⟩ := S.2.2 i H x H' (hk i σ H p) hlt y
    exact hs i x σ H H' hlt p e y'
  · have : i = n := by omega
    subst this
    exact .inl ⟨S.2.1 H (hk i σ H p), hd σ H p⟩
noncomputable def CompK (J : It) (caps : List (Option Nat)) (g : TG) (tf : TT) (te : TE) (σ : St) (Q : VK) (H1 : Hp) : Prop := ∀ D, H1 D = none →
  ∃ W : Nat → Nat → St → Hp → Prop, (∃ m, W 0 m (capSt caps σ) (upd H1 D (.lst []))) ∧ ∀ i m σ' H', W i m σ' H' →
    (J.stop i H' ∧ Q (.ref D) H') ∨ (J.go i H' ∧ ∃ N : St → Hp → Prop, (∀ σ2 H2, N σ2 H2 → ∃ m', m' < m ∧ W (i + 1) m' σ2 H2) ∧
      ∀ x H2, J.yld i H' x H2 → g x σ' H2 fun σ1 H3 => tf σ1 H3 fun b H4 => if b = true then te σ1 H4 fun v H5 => rAppend (.ref D) [v] H5 fun _ H6 => N σ1 H6 else N σ1 H4)
theorem x_comp {wi : TI} {caps : List (Option Nat)} {g : TG} {tf : TT} {te : TE} (q : wi σ H fun J H1 => CompK J caps g tf te σ Q H1) : tComp wi caps g tf te σ H Q := q
theorem x_yes {T : Bool → Hp → Prop} (q : T true H) : tYes σ H T := q
noncomputable def CompN (H : Hp) (Sv : St → Prop) (Pv : Nat → List V → Hp → Prop) (D : Addr) (i : Nat) (σ' : St) (H' : Hp) : Prop := Sv σ' ∧ Same H H' ∧ ∃ vs, H' D = some (.lst vs) ∧ vs.length ≤ i ∧ Pv i vs H'
theorem x_compS {J : It} {P : Hp → Prop} {n : Nat} {Y : Nat → V → Hp → Prop} {caps : List (Option Nat)} {g : TG} {tf : TT} {te : TE} (S : Src J P n Y) (e0 : ∀ H', Same H H' → P H') (Sv : St → Prop) (Pv : Nat → List V → Hp → Prop) (hc : Sv (capSt caps σ)) (h0 : ∀ H', Same H H' → Pv 0 [] H')
    (hs : ∀ i x D vs σ' H' H2, i < n → H D = none → Sv σ' → Same H H' → H' D = some (.lst vs) → vs.length ≤ i → Pv i vs H' → Same H' H2 → Y i x H2 → g x σ' H2 fun σ1 H3 => tf σ1 H3 fun b H4 => if b = true then te σ1 H4 fun v H5 => rAppend (.ref D) [v] H5 fun _ H6 => CompN H Sv Pv D (i + 1) σ1 H6 else CompN H Sv Pv D (i + 1) σ1 H4)
    (hq : ∀ D H' vs, H D = none → Same H H' → H' D = some (.lst vs) → vs.length ≤ n → Pv n vs H' → Q (.ref D) H') : CompK J caps g tf te σ Q H := by
  intro D hD
  refine ⟨fun i m σ' H' => m = n - i ∧ i ≤ n ∧ CompN H Sv Pv D i σ' H', ⟨n, by simp, Nat.zero_le _, hc, Same.new hD _, [], upd_same, Nat.le_refl _, h0 _ (Same.new hD _)⟩, ?_⟩
  rintro i m σ' H' ⟨rfl, hi, sv, e, vs, hv, hl, p⟩
  by_cases hlt : i < n
  · refine .inr ⟨S.1 i H' (e0 _ e) hlt, CompN H Sv Pv D (i + 1), fun σ2 H2 q => ⟨n - (i + 1), by omega, rfl, hlt, q⟩, fun x H2 y => ?_⟩
    obtain ⟨e', y'⟩ := S.2.2 i H' x H2 (e0 _ e) hlt y
    exact hs i x D vs σ' H' H2 hlt hD sv e hv hl p e' y'
  · have : i = n := by omega
    subst this
    exact .inl ⟨S.2.1 H' (e0 _ e), hq D H' vs hD e hv hl p⟩
theorem x_compS1 {J : It} {P : Hp → Prop} {n : Nat} {Y : Nat → V → Hp → Prop} {caps : List (Option Nat)} {g : TG} {tf : TT} {te : TE} {rest : St} (S : Src J P n Y) (e0 : ∀ H', Same H H' → P H') (hc : capSt caps σ = none :: rest) (Pv : Nat → List V → Hp → Prop) (h0 : ∀ H', Same H H' → Pv 0 [] H')
    (hs : ∀ i x D vs o H' H2, i < n → H D = none → Same H H' → H' D = some (.lst vs) → vs.length ≤ i → Pv i vs H' → Same H' H2 → Y i x H2 → g x (o :: rest) H2 fun σ1 H3 => tf σ1 H3 fun b H4 => if b = true then te σ1 H4 fun v H5 => rAppend (.ref D) [v] H5 fun _ H6 => CompN H (fun σ' => ∃ o, σ' = o :: rest) Pv D (i + 1) σ1 H6 else CompN H (fun σ' => ∃ o, σ' = o :: rest) Pv D (i + 1) σ1 H4)
    (hq : ∀ D H' vs, H D = none → Same H H' → H' D = some (.lst vs) → vs.length ≤ n → Pv n vs H' → Q (.ref D) H') : CompK J caps g tf te σ Q H :=
  x_compS S e0 (fun σ' => ∃ o, σ' = o :: rest) Pv ⟨_, hc⟩ h0 (fun i x D vs σ' H' H2 a1 a2 ⟨o, a3⟩ a4 a5 a6 a7 a8 a9 => by subst a3; exact hs i x D vs o H' H2 a1 a2 a4 a5 a6 a7 a8 a9) hq
theorem x_compS2 {J : It} {P : Hp → Prop} {n : Nat} {Y : Nat → V → Hp → Prop} {caps : List (Option Nat)} {g : TG} {tf : TT} {te : TE} {rest : St} (S : Src J P n Y) (e0 : ∀ H', Same H H' → P H') (hc : capSt caps σ = none :: none :: rest) (Pv : Nat → List V → Hp → Prop) (h0 : ∀ H', Same H H' → Pv 0 [] H')
    (hs : ∀ i x D vs o o' H' H2, i < n → H D = none → Same H H' → H' D = some (.lst vs) → vs.length ≤ i → Pv i vs H' → Same H' H2 → Y i x H2 → g x (o :: o' :: rest) H2 fun σ1 H3 => tf σ1 H3 fun b H4 => if b = true then te σ1 H4 fun v H5 => rAppend (.ref D) [v] H5 fun _ H6 => CompN H (fun σ' => ∃ o o', σ' = o :: o' :: rest) Pv D (i + 1) σ1 H6 else CompN H (fun σ' => ∃ o o', σ' = o :: o' :: rest) Pv D (i + 1) σ1 H4)
    (hq : ∀ D H' vs, H D = none → Same H H' → H' D = some (.lst vs) → vs.length ≤ n → Pv n vs H' → Q (.ref D) H') : CompK J caps g tf te σ Q H :=
  x_compS S e0 (fun σ' => ∃ o o', σ' = o :: o' :: rest) Pv ⟨_, _, hc⟩ h0 (fun i x D vs σ' H' H2 a1 a2 ⟨o, o', a3⟩ a4 a5 a6 a7 a8 a9 => by subst a3; exact hs i x D vs o o' H' H2 a1 a2 a4 a5 a6 a7 a8 a9) hq
theorem x_enumk {R : It → Hp → Prop} {a : Addr} {xs : List V} (h : SqL K H a xs) (q : R (Itn K a) H) : rEnum K R [.ref a] H := ⟨a, rfl, ⟨xs, h⟩, q⟩
theorem x_zipk {R : It → Hp → Prop} {a b : Addr} {xs ys : List V} (h : SqL K H a xs) (h' : SqL K H b ys) (q : R (Itz K a b) H) : rZip K R [.ref a, .ref b] H := ⟨a, b, rfl, ⟨xs, h⟩, ⟨ys, h'⟩, q⟩
theorem x_gTup {a : Addr} {xs : List V} {n : Nat} {t : TGs} {R : St → Hp → Prop} (h : H a = some (.tup xs)) (hn : xs.length = n) (q : t xs σ H R) : gTup K n t (.ref a) σ H R := ⟨a, xs, rfl, SqT.of h, hn, q⟩
theorem x_gCons {v : V} {r : List V} {t : TG} {u : TGs} {R : St → Hp → Prop} (q : t v σ H fun σ' H' => u r σ' H' R) : gCons t u (v :: r) σ H R := ⟨v, r, rfl, q⟩
theorem x_gNil {R : St → Hp → Prop} (q : R σ H) : gNil [] σ H R := ⟨rfl, q⟩
theorem x_catN {l b : Addr} {xs zs : List V} (h : H l = some (.lst xs)) (h' : H b = some (.lst zs)) (hz : xs.length + zs.length ≤ 100000) (q : ∀ p H', H p = none → Same H H' → H' p = some (.lst (xs ++ zs)) → Q (.ref p) H') : rAddU K (.ref l) (.ref b) H Q :=
  .inr (.inl ⟨l, b, xs, zs, rfl, rfl, h, h', small_le hz, fun p hp => q p _ hp (Same.new hp _) upd_same⟩)
end
theorem x_iteZ {p : Prop} [Decidable p] {A B : Prop} (h : ¬ p) (b : B) : if decide p = true then A else B := by rw [decide_eq_false h]; exact x_iteF b
section
variable {α : Type} {f : α → List V}
noncomputable def IsTs (f : α → List V) (H : Hp) : List V → List α → Prop
  | [], [] => True
  | v :: vs, x :: xs => (∃ a, v = .ref a ∧ H a = some (.tup (f x))) ∧ IsTs f H vs xs
  | _, _ => False
end
noncomputable def vec (n : Nat) (f : Nat → Int) : List Int := (List.range n).map f
theorem vec_len {n : Nat} {f : Nat → Int} : (vec n f).length = n := by simp [vec]
theorem vec_get {n i : Nat} {f : Nat → Int} (h : i < n) : (vec n f)[i]? = some (f i) := by simp [vec, h]
theorem vec_congr {n : Nat} {f g : Nat → Int} (h : ∀ i, i < n → f i = g i) : vec n f = vec n g := by
  unfold vec; exact List.map_congr_left fun i hi => h i (List.mem_range.mp hi)
theorem vec_succ {n : Nat} {f : Nat → Int} : vec (n + 1) f = vec n f ++ [f n] := by unfold vec; rw [List.range_succ, List.map_append]; rfl
theorem ints_at {ns : List Int} {k : Int} {v : Int} (h0 : 0 ≤ k) (h : ns[k.toNat]? = some v) : atI (ns.map V.int) k = some (.int v) := atI_lt h0 (by rw [List.getElem?_map, h]; rfl)
theorem vec_at {n : Nat} {f : Nat → Int} {k : Int} (h0 : 0 ≤ k) (h : k < n) : atI ((vec n f).map V.int) k = some (.int (f k.toNat)) := ints_at h0 (vec_get (by omega))
theorem depth_list {ds : List PyData} : (PyData.list ds).depth = PyData.depthAll ds + 1 := by simp [PyData.depth]; try omega
section
variable {H : Hp} {Q : VK} {K : PySem.W.Frag}
end
end Internal

set_option Elab.async false
set_option linter.all false
set_option maxRecDepth 100000
namespace Internal
open PySem PySem.Spec PyProof.Rows
section
variable {σ : St} {H : Hp} {Q : VK} {D : Ends} {K : PySem.W.Frag}
theorem x_ixVec {l : Addr} {n : Nat} {f : Nat → Int} {k : Int} (h : H l = some (.lst ((vec n f).map V.int))) (h0 : 0 ≤ k) (h1 : k < n) (q : Q (.int (f k.toNat)) H) : rIx K (.ref l) (.int k) H Q := x_ixLs h (vec_at h0 h1) q
theorem x_ixTs {a : Addr} {xs : List V} {i : Int} {v : V} (h : H a = some (.tup xs)) (e : atI xs i = some v) (q : Q v H) : rIx K (.ref a) (.int i) H Q := x_ixT (.of h) e q
theorem CompN.int {Sv : St → Prop} {D : Addr} {i : Nat} {σ' : St} {H6 : Hp} {f : Nat → Int} {v : Int} (sv : Sv σ') (e : Same H H6) (h : H6 D = some (.lst ((vec i f).map V.int ++ [.int v]))) (hv : v = f i) : CompN H Sv (fun i vs _ => vs = (vec i f).map V.int) D (i + 1) σ' H6 :=
  ⟨sv, e, _, h, by simp [vec_len], by show _ ++ [V.int v] = List.map V.int (vec (i + 1) f); rw [hv, vec_succ, List.map_append]; rfl⟩
end
theorem x_comp0 {H : Hp} {Q : VK} {σ : St} {lo : Int} {n : Nat} {caps : List (Option Nat)} {c : Int} {rest : St} (hc : capSt caps σ = none :: rest) (hn : n ≤ 100000) (q : ∀ p H', H p = none → Same H H' → H' p = some (.lst ((vec n fun _ => c).map V.int)) → Q (.ref p) H') : CompK (Itr lo n) caps (gName 0) tYes (tC (.int c)) σ Q H := by
  refine x_compS1 src_range (fun _ _ => trivial) hc (fun i vs _ => vs = (vec i fun _ => c).map V.int) (fun _ _ => rfl) ?_ ?_
  · rintro i x D vs o H' H2 hi hD e hv hvl rfl e2 rfl
    refine x_gName (x_yes (x_iteT (x_c (x_appN (e2.at hv) (by omega) fun H6 b h6 => ?_))))
    exact CompN.int ⟨_, rfl⟩ (b.same (e.trans e2) hD) h6 rfl
  · rintro D H' vs hD e hv hvl rfl
    exact q D H' hD e hv
set_option genInjectivity false in
set_option genSizeOf false in
structure Due where
  p : Int
  q : Int
  r : Int
  a : Int
section
variable {K : PySem.W.Frag} {H : Hp} {Q : VK} {E : XK} {n : Int} {a : Addr} {ds : List Due}
end
end Internal

set_option Elab.async false
set_option linter.all false
set_option maxRecDepth 100000
namespace Internal
open PySem PySem.Spec PyProof.Rows
noncomputable def Rows (H : Hp) (as : List Addr) (k : Nat) (F : Nat → Nat → Int) : Prop := as.Nodup ∧ ∀ i a, as[i]? = some a → H a = some (.lst ((vec k (F i)).map V.int))
section
variable {H H' : Hp} {as bs : List Addr} {k : Nat} {F G : Nat → Nat → Int} {K : PySem.W.Frag} {Q : VK}
theorem Rows.same (h : Rows H as k F) (e : Same H H') : Rows H' as k F := ⟨h.1, fun i a q => e _ _ (h.2 i a q)⟩
theorem Rows.mem (h : Rows H as k F) {a : Addr} (m : a ∈ as) : ∃ i, i < as.length ∧ as[i]? = some a ∧ H a = some (.lst ((vec k (F i)).map V.int)) := by
  obtain ⟨i, hi, e⟩ := List.getElem_of_mem m
  have : as[i]? = some a := by rw [List.getElem?_eq_some_iff]; exact ⟨hi, e⟩
  exact ⟨i, hi, this, h.2 i a this⟩
theorem Rows.but {l : Addr} (h : Rows H as k F) (g : LBut l H H') (n : l ∉ as) : Rows H' as k F :=
  ⟨h.1, fun i a q => g.lst (h.2 i a q) fun z => n (z ▸ List.mem_of_getElem? q)⟩
theorem nodup_get {i j : Nat} {a : Addr} (n : as.Nodup) (h : as[i]? = some a) (h' : as[j]? = some a) : i = j := by
  obtain ⟨hi, e⟩ := List.getElem?_eq_some_iff.mp h
  obtain ⟨hj, e'⟩ := List.getElem?_eq_some_iff.mp h'
  exact (List.getElem_inj n).mp (e.trans e'.symm)
theorem Rows.congr (h : Rows H as k F) (e : ∀ i, i < as.length → ∀ j, j < k → F i j = G i j) : Rows H as k G := by
  refine ⟨h.1, fun i a q => ?_⟩
  have hi : i < as.length := (List.getElem?_eq_some_iff.mp q).1
  rw [h.2 i a q, vec_congr fun j hj => e i hi j hj]
theorem Rows.app {p : Addr} (h : Rows H as k F) (n : p ∉ as) (hp : H p = some (.lst ((vec k (F as.length)).map V.int))) : Rows H (as ++ [p]) k F := by
  refine ⟨List.nodup_append.mpr ⟨h.1, by simp, fun a ha b hb e => n (by rw [List.mem_singleton] at hb; subst hb; subst e; exact ha)⟩, fun i a q => ?_⟩
  rw [List.getElem?_append] at q
  split at q
  · exact h.2 i a q
  · rename_i hi
    have hi' : i - as.length = 0 := by
      cases e : i - as.length with
      | zero => rfl
      | succ m => rw [e] at q; cases q
    rw [hi'] at q; cases q
    have : i = as.length := by omega
    subst this; exact hp
theorem Rows.ne {D : Addr} (h : Rows H as k F) (hk : 0 < k) (hD : H D = some (.lst (as.map V.ref))) : D ∉ as := fun m => by
  obtain ⟨i, hi, q, e⟩ := h.mem m
  rw [hD] at e
  have e' : as.map V.ref = (vec k (F i)).map V.int := by simpa using e
  cases as with
  | nil => cases m
  | cons x xs =>
    cases k with
    | zero => omega
    | succ k =>
      have := congrArg (·[0]?) e'
      simp [vec] at this
theorem Rows.fresh {p : Addr} (h : Rows H as k F) (hp : H p = none) : p ∉ as := fun m => by
  obtain ⟨i, _, _, e⟩ := h.mem m
  rw [hp] at e; cases e
theorem x_ixRow {l a : Addr} {p : Int} (h : H l = some (.lst (as.map V.ref))) (h0 : 0 ≤ p) (e : as[p.toNat]? = some a) (q : Q (.ref a) H) : rIx K (.ref l) (.int p) H Q := x_ixLs h (atI_lt h0 (by rw [List.getElem?_map, e]; rfl)) q
end
noncomputable def rankF (ds : List Due) (m r : Nat) : Int := ds.foldl (fun (s : Int) (d : Due) => if d.p = (m : Int) ∧ d.r = (r : Int) then s + d.a else s) 0
end Internal

set_option linter.all false
namespace My
section
variable (ch : Nat → Bool) (x : Nat → Int) (L : Int)
noncomputable def rest : Nat → Int
  | 0 => L
  | i + 1 => if ch i = true ∧ rest i > 0 then rest i - 1 else rest i
noncomputable def more (i : Nat) : Int := if ch i = true ∧ rest ch L i > 0 then x i + 1 else x i
variable {ch x L}
end
end My

set_option Elab.async false
set_option linter.all false
set_option maxRecDepth 100000
namespace Internal
open PySem PySem.Spec PyProof.Rows
theorem sq_le {k m : Int} (h0 : 0 ≤ k) (h : k ≤ m) : k * k ≤ m * m := Int.mul_le_mul h h h0 (by omega)
noncomputable def big : Int := 1000000000000000000000000000000000000000000000000000000000000
end Internal

set_option Elab.async false
set_option linter.all false
set_option maxRecDepth 100000
namespace Internal
open PySem PySem.Spec PyProof.Rows
end Internal

set_option Elab.async false
set_option linter.all false
set_option maxRecDepth 100000
namespace Internal
open PySem PySem.Spec PyProof.Rows
section
variable {X : Cx}
end
section
variable {H : Hp} {Q : VK} {K : PySem.W.Frag}
end
noncomputable def optV : Option Nat → V
  | none => .non
  | some i => .int i
noncomputable def optL (n : Nat) (w : Nat → Option Nat) : List V := (List.range n).map fun m => optV (w m)
noncomputable def useful (g : Nat → Bool) (m : Nat) (d : Due) : Prop := d.p = (m : Int) ∧ 0 < d.a ∧ g d.p.toNat = true ∧ g d.q.toNat = true
noncomputable instance {g : Nat → Bool} {m : Nat} {d : Due} : Decidable (useful g m d) := by unfold useful; infer_instance
theorem x_isNone {A : Prop} (q : A) : V.non = V.non ∧ A := ⟨rfl, q⟩
set_option genInjectivity false in
set_option genSizeOf false in
structure Lined (n : Nat) (ds : List Due) (ls : List Int) : Prop where
  nd : ls.Nodup
  lt : ∀ x ∈ ls, 0 ≤ x ∧ x < n
  up : ∀ d ∈ ds, 0 < d.a → ∀ j : Nat, ls[j]? = some d.q → ∃ i : Nat, i < j ∧ ls[i]? = some d.p
end Internal

set_option Elab.async false
set_option linter.all false
set_option maxRecDepth 100000
namespace Internal
open PySem PySem.Spec PyProof.Rows
section
variable {X : Cx} {tg : Expr}
end
end Internal

set_option Elab.async false
set_option linter.all false
set_option maxRecDepth 100000
namespace Internal
open PySem PySem.W PySem.Calls PyProof.Rows
theorem weights_le {n : Nat} : ∀ (ns : List Int), WData.weightAll (ns.map WData.int) ≤ n → ∀ i ∈ ns, sz i ≤ n
  | [], _, _, h => nomatch h
  | j :: r, h, i, hi => by
    rw [List.map_cons, WData.weightAll] at h
    rcases List.mem_cons.mp hi with rfl | hi
    · have : WData.weight (.int i) = sz i := by rw [WData.weight]; rfl
      omega
    · exact weights_le r (by omega) i hi
noncomputable def Light (ns : List Int) : Prop := ∀ i ∈ ns, sz i ≤ 1048576
theorem light_of {ns : List Int} (h : WData.layableAll [WData.list (ns.map WData.int)] = true) : Light ns := by
  unfold WData.layableAll at h
  rw [List.all_cons, List.all_nil, Bool.and_true] at h
  unfold WData.layable at h
  rw [Bool.and_eq_true, decide_eq_true_eq] at h
  have h2 := h.2
  rw [WData.weight] at h2
  exact weights_le ns (Nat.le_trans h2 (by decide))
theorem attach_callZ {l : OpenLaw} {n : Nat} {q : Program} {loose : List Str} {XP : (Str → Option Value) → Heap → Prop} {YP : World → Heap → Prop} {d : DefRec}
    (hn : l.most = some n) (hdf : d.params.defaults = [])
    (call : ∀ (w : World) (s₀ s₁ : Shared) (mg mb : Str → Option Value) (fa : Addr) (a : Addr) (vs : List Value) (ns : List Int),
      Ground q loose [] XP w s₀ mg mb s₁.heap → YP w s₁.heap → mg d.name = some (.ref fa) →
      s₁.heap.get? a = some { cls := .type "list", data := .seq vs.toArray } → IntsAre vs ns → ns.length ≤ n → Light ns → s₁.gens = #[] →
      codeAny (model l.prog w) callerA (.call (.ref fa) ⟨[.ref a], []⟩) (fun r s' => r = .ok (.ret (.bool true)) ∧ OldK s₁.heap s'.heap ∧ s'.os = s₁.os ∧ AllBare s'.gens) s₁) :
    WalkO q loose XP YP l.row.toRowW d [] (fun f vs => PySem.call f vs) := by
  intro w s₀ s₁ mg mb G Y fa o pm cd doc dV kV ho hd hcd hD hmg hg args vals as hpre hlay hrd hwl hlo
  obtain ⟨a, vs, ns, rfl, rfl, hobj, hints, hlen⟩ := Att.script_of hn hpre hwl
  refine enter_call (codeAny_mono (call w s₀ s₁ mg mb fa a vs ns G Y hmg hobj hints hlen (light_of hlay) hg) fun r s' hq => ?_)
  obtain ⟨rfl, h2, h3, h4⟩ := hq
  exact ⟨.inl ⟨.bool true, .bool true, [], rfl, fun _ => rfl, .bool true, Att.post_true l _, fun _ => ⟨List.Pairwise.nil, fun _ hm => (nomatch hm)⟩⟩, h2, h3, h4⟩
end Internal
namespace Internal
open PySem PySem.Spec PyProof.Rows
theorem walk_ofZ {l : PySem.W.OpenLaw} {n k : Nat} {q : Program} {loose : List Str} {XP : (Str → Option Value) → Heap → Prop} {YP : World → Heap → Prop} {d : DefRec} {K : Params → PySem.W.Frag} {CX : World → CXT} {sp : World → Sp} {x : Str}
    (hn : l.most = some n) (hn2 : n ≤ sizeLine) (hdf : d.params.defaults = []) (hr : Room k callerA)
    (hY : ∀ (w : World) (h : Heap), YP w h → (K w.params).In h)
    (F : ∀ (w : World) (mg : Str → Option Value) (fa : Addr) (h : Heap), (K w.params).In h → h.Ns mainGlobals mg → mg d.name = some (.ref fa) →
      ∃ fd : FuncData, (∀ (s : Shared) (u : Value), BindsTo s fd ⟨[u], []⟩ [(x, u)]) ∧
        ∀ base : Heap, (K w.params).In base → base.Ns mainGlobals mg → FnOk l.prog w (K w.params) mg base (CX w) k fa fd [x] (sp w))
    (hsp : ∀ (w : World) (H : Hp) (a : Addr) (ns : List Int), ns.length ≤ n → Light ns → Only H → SqL (K w.params) H a (ns.map V.int) → sp w [.ref a] H (fun v _ => v = .bl true) fun _ _ _ => False)
    (hCX : ∀ (w : World) (H : Hp) (s : Shared) (e : Value) (s' : Shared), CX w [] H s (fun _ _ _ => False) e s' → False) :
    PySem.W.WalkO q loose XP YP l.row.toRowW d [] (fun f vs => PySem.call f vs) := by
  refine attach_callZ hn hdf fun w s₀ s₁ mg mb fa a vs ns G Y hmg hobj hints hlen hz hg => ?_
  have KX := hY w _ Y
  obtain ⟨fd, hb, hF⟩ := F w mg fa _ KX G.T.g hmg
  exact law_call KX G.T.g G.T.b G.T.builtins G.T.nolimit hg hobj hints (Nat.le_trans hlen hn2) hr hF hb (fun H hO hS => hsp w H a ns hlen hz hO hS) fun H e s' => hCX w H s₁ e s'
theorem Light.cell {ns : List Int} (h : Light ns) (k : Int) : sz (cell ns k) ≤ 1048576 := by
  unfold Internal.cell
  rw [List.getD_eq_getElem?_getD]
  cases e : ns[k.toNat]? with
  | none => show sz 0 ≤ _; exact Nat.zero_le _
  | some i => exact h i (List.mem_of_getElem? e)
noncomputable def mixF (c k : Int) : Int := c * 48271 + 7919 * k * k + 11
noncomputable def drawP (ns : List Int) (k p m : Int) : Int := mixF (cell ns k) k % p % m
noncomputable def spDrawP (K : PySem.W.Frag) : Sp := fun vs H Q _ => ∃ (a : Addr) (ns : List Int) (k p m : Int), vs = [.ref a, .int k, .int p, .int m] ∧ SqL K H a (ns.map V.int) ∧ Light ns ∧ 0 ≤ k ∧ k ≤ 1000 ∧ 1 ≤ p ∧ 1 ≤ m ∧ ∀ x, x = drawP ns k p m → 0 ≤ x → x < m → Q (.int x) H
theorem spDrawP_i {K : PySem.W.Frag} {a : Addr} {ns : List Int} {k p m : Int} {H : Hp} {Q : VK} {E : XK} (hS : SqL K H a (ns.map V.int)) (hz : Light ns) (h0 : 0 ≤ k) (h1 : k ≤ 1000) (p0 : 1 ≤ p) (m0 : 1 ≤ m) (q : ∀ x, x = drawP ns k p m → 0 ≤ x → x < m → Q (.int x) H) : spDrawP K [.ref a, .int k, .int p, .int m] H Q E := ⟨a, ns, k, p, m, rfl, hS, hz, h0, h1, p0, m0, q⟩
noncomputable def Within (m : Int) (k : Nat) (f : Nat → Int) : Prop := ∀ j, j < k → -m ≤ f j ∧ f j ≤ m
theorem Rows.snoc {H : Hp} {as : List Addr} {k : Nat} {F : Nat → Nat → Int} {p : Addr} {f : Nat → Int} (h : Rows H as k F) (n : p ∉ as) (hp : H p = some (.lst ((vec k f).map V.int))) : Rows H (as ++ [p]) k (fun i => if i = as.length then f else F i) := by
  refine Rows.app (h.congr fun i hi j _ => ?_) n (by show H p = some (HO.lst ((vec k (if as.length = as.length then f else F as.length)).map V.int)); rw [if_pos rfl]; exact hp)
  show F i j = (if i = as.length then f else F i) j
  rw [if_neg (by omega)]
theorem vec_more {n : Nat} {f : Nat → Int} (x : Int) : (vec n f).map V.int ++ [.int x] = (vec (n + 1) fun i => if i = n then x else f i).map V.int := by
  rw [vec_succ, List.map_append]
  congr 1
  · rw [vec_congr (g := fun i => if i = n then x else f i) fun i hi => by show f i = if i = n then x else f i; rw [if_neg (by omega)]]
  · show [V.int x] = [V.int (if n = n then x else f n)]; rw [if_pos rfl]
end Internal

set_option Elab.async false
set_option linter.all false
set_option maxRecDepth 100000
namespace Internal
open PySem PySem.Spec PyProof.Rows
noncomputable def spDivP : Sp := fun vs H Q _ => ∃ a b : Int, vs = [.int a, .int b] ∧ 0 ≤ a ∧ 0 ≤ b ∧ Q (.int (My.gc a b)) H
theorem spDivP_i {a b : Int} {H : Hp} {Q : VK} {E : XK} (h0 : 0 ≤ a) (h1 : 0 ≤ b) (q : Q (.int (My.gc a b)) H) : spDivP [.int a, .int b] H Q E := ⟨a, b, rfl, h0, h1, q⟩
noncomputable def spPartP : Sp := fun vs H Q _ => ∃ t b : Int, vs = [.int t, .int b] ∧ 0 < b ∧ sz b ≤ 8999 ∧ NewQ H Q (Rat.divInt t b)
theorem spPartP_i {t b : Int} {H : Hp} {Q : VK} {E : XK} (hb : 0 < b) (hs : sz b ≤ 8999) (q : NewQ H Q (Rat.divInt t b)) : spPartP [.int t, .int b] H Q E := ⟨t, b, rfl, hb, hs, q⟩
noncomputable def cumF (f : Nat → Int) : Nat → Int
  | 0 => 0
  | r + 1 => cumF f r + f r
noncomputable def UnderC (f : Nat → Int) (q : Rat) (r : Nat) : Prop := q.num < cumF f (r + 1) * (q.den : Int)
noncomputable instance (f : Nat → Int) (q : Rat) (r : Nat) : Decidable (UnderC f q r) := inferInstanceAs (Decidable (_ < _))
noncomputable def stopF (f : Nat → Int) (q : Rat) : Nat → Option Nat
  | 0 => none
  | k + 1 => match stopF f q k with
    | some r => some r
    | none => if UnderC f q k then some k else none
noncomputable abbrev stopsL (ds : List Due) (qs : List Rat) : List V := optL qs.length fun m => stopF (rankF ds m) (qs.getD m 0) 3
theorem x_eqQs {K : PySem.W.Frag} {H : Hp} {Q : VK} {a b : Addr} {vs ws : List V} {qs : List Rat} (h1 : SqL K H a vs) (h2 : SqL K H b ws) (i1 : IsQs H vs qs) (i2 : IsQs H ws qs) (q : Q (.bl true) H) : rEqU K (.ref a) (.ref b) H Q := by
  have hdep : ∀ (l : List Rat), PyData.depthAll (l.map dQ) ≤ 1 := by
    intro l
    induction l with
    | nil => exact Nat.zero_le _
    | cons x xs ih =>
      rw [List.map_cons, PyData.depthAll]
      have : (dQ x).depth ≤ 1 := by simp [dQ, PyData.depth, PyData.depthAll]
      omega
  have hlay : ∀ (l : List Rat), PyData.canLayAll0 (l.map dQ) = true := by
    intro l
    induction l with
    | nil => rfl
    | cons x xs ih => rw [List.map_cons, PyData.canLayAll0, ih]; simp [dQ, PyData.canLay0, PyData.canLayAll0]
  refine x_eqD (.lst h1 i1.rep) (.lst h2 i2.rep) (by have := hdep qs; rw [depth_list]; omega) ?_
  rw [PySem.SeqAt.eqv_refl _ (by rw [PyData.canLay0]; exact hlay qs)]
  exact q
end Internal

set_option Elab.async false
set_option linter.all false
set_option maxRecDepth 100000
namespace Internal
open PySem PySem.Spec PyProof.Rows
noncomputable def restQ (f : Nat → Int) (q : Rat) : Nat → Rat
  | 0 => q
  | r + 1 => restQ f q r - (if ((f r : Int) : Rat) < restQ f q r then ((f r : Int) : Rat) else restQ f q r)
noncomputable def laidQ (f : Nat → Int) (q : Rat) (r : Nat) : Rat := if ((f r : Int) : Rat) < restQ f q r then ((f r : Int) : Rat) else restQ f q r
noncomputable def shareQ (f : Nat → Int) (q : Rat) (r : Nat) : Rat := if 0 < f r then laidQ f q r / ((f r : Int) : Rat) else 0
section
variable {f : Nat → Int} {q : Rat}
end
noncomputable def payQ (ds : List Due) (qs : List Rat) (d : Due) : Rat := ((d.a : Int) : Rat) * shareQ (rankF ds d.p.toNat) (qs.getD d.p.toNat 0) d.r.toNat
end Internal

set_option Elab.async false
set_option linter.all false
set_option maxRecDepth 100000
namespace Internal
open PySem PySem.Spec PyProof.Rows
theorem gc_part (q : Rat) : My.gc (if q.num < 0 then -q.num else q.num) (q.den : Int) = 1 := by
  have h := My.gc_abs q.num (q.den : Int)
  rw [if_neg (show ¬ ((q.den : Int) < 0) by omega)] at h
  rw [h]
  have := q.reduced
  unfold My.gc
  show ((Nat.gcd q.num.natAbs (q.den : Int).natAbs : Nat) : Int) = 1
  rw [Int.natAbs_natCast]
  exact congrArg _ this
noncomputable def spIsPartQ : Sp := fun vs H Q _ => ∃ (a : Addr) (q : Rat), vs = [.ref a] ∧ IsQ H a q ∧ Q (.bl true) H
theorem spIsPartQ_i {a : Addr} {q : Rat} {H : Hp} {Q : VK} {E : XK} (h : IsQ H a q) (k : Q (.bl true) H) : spIsPartQ [.ref a] H Q E := ⟨a, q, rfl, h, k⟩
noncomputable def spPartsQ (K : PySem.W.Frag) : Sp := fun vs H Q _ => ∃ (a : Addr) (ws : List V) (qs : List Rat) (n : Int), vs = [.ref a, .int n] ∧ H a = some (.lst ws) ∧ IsQs H ws qs ∧ (qs.length : Int) = n ∧ Q (.bl true) H
theorem spPartsQ_i {K : PySem.W.Frag} {a : Addr} {ws : List V} {qs : List Rat} {n : Int} {H : Hp} {Q : VK} {E : XK} (h : H a = some (.lst ws)) (hq : IsQs H ws qs) (hn : (qs.length : Int) = n) (k : Q (.bl true) H) : spPartsQ K [.ref a, .int n] H Q E := ⟨a, ws, qs, n, rfl, h, hq, hn, k⟩
set_option genInjectivity false in
set_option genSizeOf false in
structure PayOk (ds : List Due) (g : Due → Rat) : Prop where
  nn : ∀ d ∈ ds, 0 ≤ g d
  le : ∀ d ∈ ds, g d ≤ ((d.a : Int) : Rat)
  sz : ∀ d ∈ ds, SzQ (g d) 1000 1000
  am : ∀ d ∈ ds, 0 ≤ d.a ∧ d.a ≤ 100000000000000
section
variable {ds : List Due} {qs : List Rat}
end
theorem x_neQs {K : PySem.W.Frag} {H : Hp} {Q : VK} {a b : Addr} {vs ws : List V} {qs : List Rat} (h1 : SqL K H a vs) (h2 : SqL K H b ws) (i1 : IsQs H vs qs) (i2 : IsQs H ws qs) (q : Q (.bl false) H) : rNeU K (.ref a) (.ref b) H Q := by
  have hdep : ∀ (l : List Rat), PyData.depthAll (l.map dQ) ≤ 1 := by
    intro l
    induction l with
    | nil => exact Nat.zero_le _
    | cons x xs ih =>
      rw [List.map_cons, PyData.depthAll]
      have : (dQ x).depth ≤ 1 := by simp [dQ, PyData.depth, PyData.depthAll]
      omega
  have hlay : ∀ (l : List Rat), PyData.canLayAll0 (l.map dQ) = true := by
    intro l
    induction l with
    | nil => rfl
    | cons x xs ih => rw [List.map_cons, PyData.canLayAll0, ih]; simp [dQ, PyData.canLay0, PyData.canLayAll0]
  refine x_neD (.lst h1 i1.rep) (.lst h2 i2.rep) (by have := hdep qs; rw [depth_list]; omega) ?_
  rw [PySem.SeqAt.eqv_refl _ (by rw [PyData.canLay0]; exact hlay qs)]
  exact q
end Internal

set_option Elab.async false
set_option linter.all false
set_option maxRecDepth 100000
namespace Internal
open PySem PySem.Spec PyProof.Rows
section
variable {f : Nat → Int} {q : Rat}
end
noncomputable def gainF (ds : List Due) (g : Due → Rat) (m : Nat) : List Rat := (ds.filter fun d => decide (d.q = (m : Int))).map g
noncomputable def gotF (ds : List Due) (g : Due → Rat) (m : Nat) : Rat := sumQ (gainF ds g m)
noncomputable def PRows (H : Hp) (as : List Addr) (F : Nat → List Rat) : Prop := as.Nodup ∧ ∀ (m : Nat) (a : Addr), as[m]? = some a → ∃ vs, H a = some (.lst vs) ∧ IsQs H vs (F m)
section
variable {H H' : Hp} {as : List Addr} {F : Nat → List Rat}
theorem PRows.same (h : PRows H as F) (e : Same H H') : PRows H' as F := ⟨h.1, fun m a q => by obtain ⟨vs, h1, h2⟩ := h.2 m a q; exact ⟨vs, e.at h1, h2.same e⟩⟩
theorem PRows.but {l : Addr} (h : PRows H as F) (g : LBut l H H') (n : l ∉ as) : PRows H' as F :=
  ⟨h.1, fun m a q => by
    obtain ⟨vs, h1, h2⟩ := h.2 m a q
    exact ⟨vs, g.lst h1 fun z => n (z ▸ List.mem_of_getElem? q), LBut.isQs g h2⟩⟩
theorem PRows.fresh {p : Addr} (h : PRows H as F) (hp : H p = none) : p ∉ as := fun m => by
  obtain ⟨i, hi, e⟩ := List.getElem_of_mem m
  obtain ⟨vs, h1, _⟩ := h.2 i p (by rw [List.getElem?_eq_getElem hi, e])
  rw [hp] at h1; cases h1
end
end Internal

set_option Elab.async false
set_option linter.all false
set_option maxRecDepth 100000
namespace Internal
open PySem PySem.Spec PyProof.Rows
end Internal

set_option Elab.async false
set_option linter.all false
set_option maxRecDepth 100000
namespace Internal
open PySem PySem.Spec PyProof.Rows
noncomputable def owedQ (ds : List Due) (m : Nat) : Rat := ((sumI (vec 3 (rankF ds m)) : Int) : Rat)
end Internal

set_option Elab.async false
set_option linter.all false
set_option maxRecDepth 100000
namespace Internal
open PySem PySem.Spec PyProof.Rows
section
variable {K : PySem.W.Frag} {σ : St} {H : Hp} {Q : VK} {D : Ends} {a C dx : Addr} {fs : List (Str × V)} {f m : Str}
end
noncomputable def rMethR (C : Addr) (m : Str) (sp : Sp) (t : TA) (σ : St) (Q : VK) (Eh : Addr → Hp → Prop) (x : V) (H : Hp) : Prop := ∃ a dx fs, x = .ref a ∧ H a = some (.ins C dx fs) ∧ fs.lookup m = none ∧ t σ H fun vs H2 => sp (x :: vs) H2 Q fun cls _ H3 => ∃ C', cls = .ref C' ∧ Eh C' H3
noncomputable abbrev tMethR (C : Addr) (m : Str) (sp : Sp) (ta : TE) (t : TA) : TEr := fun σ H Q Eh => ta σ H (rMethR C m sp t σ Q Eh)
end Internal

set_option Elab.async false
set_option linter.all false
set_option maxRecDepth 100000
namespace Internal
open PySem PySem.Spec PyProof.Rows
noncomputable def bfl (m w y : Int) (d : Addr) : List (Str × V) := putF "deals" (.ref d) (putF "day" (.int y) (putF "wares" (.int w) (putF "many" (.int m) [])))
section
variable {m w y : Int} {d : Addr}
end
set_option genInjectivity false in
set_option genSizeOf false in
structure T7 where
  p : Int
  q : Int
  w : Int
  u : Int
  a : Int
  y : Int
  r : Int
noncomputable def termV (t : T7) : List V := [.int t.p, .int t.q, .int t.w, .int t.u, .int t.a, .int t.y, .int t.r]
noncomputable def dealV (x : T7 × Str) : List V := termV x.1 ++ [.str x.2]
set_option genInjectivity false in
set_option genSizeOf false in
structure TermOk (m w y : Int) (t : T7) : Prop where
  p0 : 0 ≤ t.p
  p1 : t.p < m
  q0 : 0 ≤ t.q
  q1 : t.q < m
  pq : t.p ≠ t.q
  w0 : 0 ≤ t.w
  w1 : t.w < w
  u0 : 1 ≤ t.u
  u1 : t.u ≤ 1000000
  a0 : 1 ≤ t.a
  a1 : t.a ≤ 1000000000
  y0 : 0 ≤ t.y
  y1 : t.y ≤ 1000000
  r0 : 0 ≤ t.r
  r1 : t.r ≤ 2
  yd : y ≤ t.y
set_option genInjectivity false in
set_option genSizeOf false in
structure Bk (C : Addr) (H : Hp) (b d : Addr) (m w y : Int) (ts : List (T7 × Str)) : Prop where
  ob : ∃ dx, H b = some (.ins C dx (bfl m w y d))
  ds : ∃ xs, H d = some (.lst xs) ∧ IsTs dealV H xs ts
section
variable {C : Addr} {H H' : Hp} {b d : Addr} {m w y : Int} {ts : List (T7 × Str)}
end
noncomputable def stand (t : T7) : T7 × Str := (t, ("standing" : Str))
end Internal

set_option Elab.async false
set_option linter.all false
set_option maxRecDepth 100000
namespace Internal
open PySem PySem.Spec PyProof.Rows
noncomputable abbrev TAr := St → Hp → (List V → Hp → Prop) → (Addr → Hp → Prop) → Prop
section
variable {X : Cx} {pos : Pos}
noncomputable abbrev tLastR (te : TEr) : TAr := fun σ H Q Eh => te σ H (fun y H2 => Q [y] H2) Eh
noncomputable abbrev tConsR (tc : TE) (t : TAr) : TAr := fun σ H Q Eh => tc σ H fun x H1 => t σ H1 (fun xs H2 => Q (x :: xs) H2) Eh
noncomputable abbrev tTupR (t : TAr) : TEr := fun σ H Q Eh => t σ H (fun xs H1 => rTup Q xs H1) Eh
noncomputable abbrev tSetR (i : Nat) (te : TEr) : TTr := fun D Eh σ H => te σ H (fun y H2 => D.nx (σ.set i (some y)) H2) fun C H2 => Eh C σ H2
end
section
variable {σ : St} {H : Hp} {D : Ends} {Eh : Addr → Hp → Prop} {Eg : Addr → St → Hp → Prop}
end
end Internal

set_option Elab.async false
set_option linter.all false
set_option maxRecDepth 100000
namespace Internal
open PySem PySem.Spec PyProof.Rows
noncomputable def Dv (D : Nat) (x : Rat) : Prop := ∃ t : Int, x * ((D : Int) : Rat) = (t : Rat)
section
variable {D E : Nat} {x y : Rat}
end
noncomputable def DvB (D : Nat) (x : Rat) : Prop := 0 ≤ x ∧ x ≤ ((100000000000000000 : Int) : Rat) ∧ Dv D x
section
variable {f : Nat → Int} {q q' : Rat} {D : Nat}
noncomputable def rkN (t : Int) : Nat := if 0 < t then t.toNat else 1
end
noncomputable def prodT (F : Due → Int) : List Due → Nat
  | [] => 1
  | d :: ds => rkN (F d) * prodT F ds
noncomputable def rkD (ds : List Due) (d : Due) : Int := rankF ds d.p.toNat d.r.toNat
noncomputable def allT (ds : List Due) : Nat := prodT (rkD ds) ds
set_option genInjectivity false in
set_option genSizeOf false in
structure Deep (ds : List Due) (qs : List Rat) (D : Nat) : Prop where
  pos : 0 < D
  lay : ∀ q ∈ qs, DvB D q
  zs : sz ((D * allT ds : Nat) : Int) ≤ 3000
noncomputable def nextF (ds : List Due) (ps : List Int) (qs : List Rat) (m : Nat) : Rat :=
  if ((ps.getD m 0 : Int) : Rat) + gotF ds (payQ ds qs) m < owedQ ds m then ((ps.getD m 0 : Int) : Rat) + gotF ds (payQ ds qs) m else owedQ ds m
noncomputable def roundQ (ds : List Due) (ps : List Int) : Nat → List Rat
  | 0 => (List.range ps.length).map (owedQ ds)
  | k + 1 => (List.range ps.length).map (nextF ds ps (roundQ ds ps k))
set_option genInjectivity false in
set_option genSizeOf false in
structure Round (ds : List Due) (ps : List Int) (k : Nat) : Prop where
  nn : ∀ q ∈ roundQ ds ps k, 0 ≤ q ∧ q ≤ ((300000000000000 : Int) : Rat)
  dv : ∀ q ∈ roundQ ds ps k, Dv (allT ds ^ k) q
noncomputable def Drawn (ds : List Due) (c m : Int) : Prop := (m = 0 → ∀ d ∈ ds, d.a ≤ 12) ∧ (m ≠ 0 → c < 17) ∧ ds.length = c.toNat
end Internal

set_option Elab.async false
set_option linter.all false
set_option maxRecDepth 100000
namespace Internal
open PySem PySem.Spec PyProof.Rows
theorem PRows.snoc {H : Hp} {as : List Addr} {F : Nat → List Rat} {p : Addr} {vs : List V} (h : PRows H as F) (n : p ∉ as) (hp : H p = some (.lst vs)) (hv : IsQs H vs (F as.length)) : PRows H (as ++ [p]) F := by
  refine ⟨List.nodup_append.mpr ⟨h.1, by simp, fun a ha b hb e => n (by rw [List.mem_singleton] at hb; subst hb; subst e; exact ha)⟩, fun i a q => ?_⟩
  rw [List.getElem?_append] at q
  split at q
  · exact h.2 i a q
  · rename_i hi
    have hi' : i - as.length = 0 := by
      cases e : i - as.length with
      | zero => rfl
      | succ m => rw [e] at q; cases q
    rw [hi'] at q; cases q
    have : i = as.length := by omega
    subst this
    exact ⟨vs, hp, hv⟩
theorem PRows.nil {H : Hp} {F : Nat → List Rat} : PRows H [] F := ⟨List.nodup_nil, fun _ _ h => nomatch h⟩
theorem PRows.ne {H : Hp} {as : List Addr} {F : Nat → List Rat} {D : Addr} (h : PRows H as F) (hD : H D = some (.lst (as.map V.ref))) : D ∉ as := fun z => by
  obtain ⟨i, hi, e⟩ := List.getElem_of_mem z
  have hb : as[i]? = some D := by rw [List.getElem?_eq_getElem hi, e]
  obtain ⟨vs, h1, h2⟩ := h.2 i D hb
  rw [hD] at h1; cases h1
  obtain ⟨c0, hc0⟩ := lt_some (show 0 < as.length by omega)
  obtain ⟨v, q, ev, _, hv⟩ := h2.get (show (as.map V.ref)[0]? = some (.ref c0) by rw [List.getElem?_map, hc0]; rfl)
  obtain ⟨ws, w1, _⟩ := h.2 0 c0 hc0
  cases ev
  have hv' : H c0 = some (.tup [.int q.num, .int (q.den : Int)]) := hv
  rw [w1] at hv'; cases hv'
theorem PRows.congr {H : Hp} {as : List Addr} {F G : Nat → List Rat} (h : PRows H as F) (e : ∀ m, m < as.length → F m = G m) : PRows H as G :=
  ⟨h.1, fun m a q => by obtain ⟨vs, h1, h2⟩ := h.2 m a q; exact ⟨vs, h1, by rw [← e m (List.getElem?_eq_some_iff.mp q).1]; exact h2⟩⟩
theorem PRows.rep {K : PySem.W.Frag} {H : Hp} : ∀ {as : List Addr} {F : Nat → List Rat} (o : Nat), (∀ (m : Nat) (a : Addr), as[m]? = some a → ∃ vs, H a = some (.lst vs) ∧ IsQs H vs (F (o + m))) → RepAll K H (as.map V.ref) ((List.range as.length).map fun m => .list ((F (o + m)).map dQ))
  | [], F, o, _ => .nil
  | a :: as, F, o, h => by
    obtain ⟨vs, h1, h2⟩ := h 0 a rfl
    rw [List.map_cons, List.length_cons, List.range_succ_eq_map, List.map_cons, List.map_map]
    refine .cons (.lst (SqL.of h1) h2.rep) ?_
    have ih := PRows.rep (K := K) (H := H) (as := as) (F := F) (o + 1) fun m b hb => by
      obtain ⟨us, u1, u2⟩ := h (m + 1) b hb
      exact ⟨us, u1, by rw [show o + 1 + m = o + (m + 1) by omega]; exact u2⟩
    have e : ((fun m => PyData.list ((F (o + m)).map dQ)) ∘ Nat.succ) = fun m => PyData.list ((F (o + 1 + m)).map dQ) := by
      funext m
      show PyData.list ((F (o + (m + 1))).map dQ) = _
      rw [show o + (m + 1) = o + 1 + m by omega]
    rw [e]
    exact ih
end Internal

set_option Elab.async false
set_option linter.all false
set_option maxRecDepth 100000
namespace Dt
noncomputable def sm (n : Nat) (f : Nat → Rat) : Rat := match n with
  | 0 => 0
  | n + 1 => sm n f + f n
theorem sm_congr {f g : Nat → Rat} : ∀ {n : Nat}, (∀ i, i < n → f i = g i) → sm n f = sm n g
  | 0, _ => rfl
  | n + 1, h => by unfold sm; rw [sm_congr fun i hi => h i (by omega), h n (by omega)]
theorem sm_zero : ∀ {n : Nat} {f : Nat → Rat}, (∀ i, i < n → f i = 0) → sm n f = 0
  | 0, _, _ => rfl
  | n + 1, f, h => by unfold sm; rw [sm_zero fun i hi => h i (by omega), h n (by omega)]; grind
theorem sm_add {f g : Nat → Rat} : ∀ n : Nat, sm n (fun i => f i + g i) = sm n f + sm n g
  | 0 => by unfold sm; grind
  | n + 1 => by unfold sm; rw [sm_add n]; grind
theorem sm_mul {f : Nat → Rat} (a : Rat) : ∀ n : Nat, sm n (fun i => a * f i) = a * sm n f
  | 0 => by unfold sm; grind
  | n + 1 => by unfold sm; rw [sm_mul a n]; grind
theorem sm_neg {f : Nat → Rat} (n : Nat) : sm n (fun i => -f i) = -sm n f := by
  have := sm_mul (f := f) (-1) n
  rw [sm_congr (g := fun i => -1 * f i) (fun i _ => by grind), this]; grind
theorem sm_lin {f g : Nat → Rat} (a b : Rat) (n : Nat) : sm n (fun i => a * f i + b * g i) = a * sm n f + b * sm n g := by
  rw [sm_add, sm_mul, sm_mul]
theorem sm_swap {F : Nat → Nat → Rat} (m : Nat) : ∀ n : Nat, sm n (fun i => sm m (F i)) = sm m (fun j => sm n fun i => F i j)
  | 0 => by
    show (0 : Rat) = sm m fun _ => 0
    rw [sm_zero fun _ _ => rfl]
  | n + 1 => by
    show sm n (fun i => sm m (F i)) + sm m (F n) = sm m fun j => sm n (fun i => F i j) + F n j
    rw [sm_swap m n, sm_add]
theorem sm_one {n i : Nat} {f : Nat → Rat} (hi : i < n) (h : ∀ j, j < n → j ≠ i → f j = 0) : sm n f = f i := by
  induction n with
  | zero => omega
  | succ n ih =>
    unfold sm
    by_cases e : i = n
    · subst e
      rw [sm_zero fun j hj => h j (by omega) (by omega)]; grind
    · rw [ih (by omega) fun j hj hne => h j (by omega) hne, h n (by omega) (fun z => e z.symm)]; grind
noncomputable def skip (i : Nat) (f : Nat → Rat) : Nat → Rat := fun r => if r < i then f r else f (r + 1)
noncomputable def up (i k : Nat) : Nat := if k < i then k else k + 1
theorem skip_up (i : Nat) (f : Nat → Rat) (k : Nat) : skip i f k = f (up i k) := by unfold skip up; split <;> rfl
theorem sm_up {h : Nat → Rat} {i : Nat} : ∀ {n : Nat}, i < n + 1 → sm n (fun k => h (up i k)) = sm (n + 1) (fun j => if j = i then 0 else h j)
  | 0, hi => by
    have : i = 0 := by omega
    subst this
    unfold sm; unfold sm
    rw [if_pos rfl]; grind
  | n + 1, hi => by
    by_cases e : i = n + 1
    · subst e
      rw [show sm (n + 1 + 1) (fun j => if j = n + 1 then 0 else h j) = sm (n + 1) (fun j => if j = n + 1 then 0 else h j) + (if n + 1 = n + 1 then 0 else h (n + 1)) from rfl, if_pos rfl]
      rw [sm_congr (f := fun k => h (up (n + 1) k)) (g := fun j => if j = n + 1 then 0 else h j) fun k hk => by
        show h (up (n + 1) k) = if k = n + 1 then 0 else h k
        rw [if_neg (by omega)]
        unfold up
        rw [if_pos (by omega)]]
      grind
    · have ih := sm_up (h := h) (i := i) (n := n) (by omega)
      rw [show sm (n + 1) (fun k => h (up i k)) = sm n (fun k => h (up i k)) + h (up i n) from rfl, ih]
      rw [show sm (n + 1 + 1) (fun j => if j = i then 0 else h j) = sm (n + 1) (fun j => if j = i then 0 else h j) + (if n + 1 = i then 0 else h (n + 1)) from rfl, if_neg (fun z => e z.symm)]
      unfold up
      rw [if_neg (by omega)]
noncomputable def sgn : Nat → Rat
  | 0 => 1
  | n + 1 => -sgn n
noncomputable def det : Nat → (Nat → Nat → Rat) → Rat
  | 0, _ => 1
  | n + 1, c => sm (n + 1) fun i => sgn (n + i) * c n i * det n (fun j => skip i (c j))
theorem det_congr : ∀ {n : Nat} {c c' : Nat → Nat → Rat}, (∀ j r, j < n → r < n → c j r = c' j r) → det n c = det n c'
  | 0, _, _, _ => rfl
  | n + 1, c, c', h => by
    unfold det
    refine sm_congr fun i hi => ?_
    rw [h n i (by omega) hi, det_congr fun j r hj hr => ?_]
    unfold skip
    split
    · exact h j r (by omega) (by omega)
    · exact h j (r + 1) (by omega) (by omega)
noncomputable def setc (c : Nat → Nat → Rat) (m : Nat) (u : Nat → Rat) : Nat → Nat → Rat := fun j => if j = m then u else c j
theorem setc_skip {c : Nat → Nat → Rat} {m : Nat} {u : Nat → Rat} {i : Nat} : (fun j => skip i (setc c m u j)) = setc (fun j => skip i (c j)) m (skip i u) := by
  funext j
  unfold setc
  split <;> rfl
theorem det_lin {m : Nat} (a b : Rat) : ∀ {n : Nat} {c : Nat → Nat → Rat} {u v : Nat → Rat}, m < n → det n (setc c m fun r => a * u r + b * v r) = a * det n (setc c m u) + b * det n (setc c m v)
  | 0, _, _, _, h => by omega
  | n + 1, c, u, v, h => by
    unfold det
    rw [← sm_lin]
    refine sm_congr fun i hi => ?_
    by_cases e : m = n
    · subst e
      have e1 : ∀ w : Nat → Rat, setc c m w m = w := fun w => by unfold setc; rw [if_pos rfl]
      have e2 : ∀ w : Nat → Rat, det m (fun j => skip i (setc c m w j)) = det m (fun j => skip i (c j)) := fun w => det_congr fun j r hj hr => by
        unfold setc; rw [if_neg (by omega)]
      rw [e1, e1, e1, e2, e2, e2]
      grind
    · have e1 : ∀ w : Nat → Rat, setc c m w n = c n := fun w => by unfold setc; rw [if_neg (fun z => e z.symm)]
      rw [e1, e1, e1, setc_skip, setc_skip, setc_skip]
      have e3 : skip i (fun r => a * u r + b * v r) = fun r => a * skip i u r + b * skip i v r := by
        funext r; unfold skip; split <;> rfl
      rw [e3, det_lin a b (by omega)]
      grind
theorem setc_self {c : Nat → Nat → Rat} {m : Nat} : setc c m (c m) = c := by
  funext j; unfold setc; split
  · rename_i h; rw [h]
  · rfl
noncomputable def Alike (n : Nat) (c : Nat → Nat → Rat) (p q : Nat) : Prop := ∀ r, r < n → c p r = c q r
noncomputable def swapc (c : Nat → Nat → Rat) (p q : Nat) : Nat → Nat → Rat := fun j => if j = p then c q else if j = q then c p else c j
theorem det_swap_of {n p q : Nat} (hz : ∀ c : Nat → Nat → Rat, Alike n c p q → det n c = 0) (hp : p < n) (hq : q < n) (hpq : p ≠ q) (c : Nat → Nat → Rat) : det n (swapc c p q) = -det n c := by
  have two : ∀ u v : Nat → Rat, det n (setc (setc c p u) q v) = -det n (setc (setc c p v) q u) := fun u v => by
    have z0 := hz (setc (setc c p fun r => 1 * u r + 1 * v r) q fun r => 1 * u r + 1 * v r) fun r _ => by
      unfold setc; rw [if_neg hpq, if_pos rfl, if_pos rfl]
    have zu := hz (setc (setc c p u) q u) fun r _ => by unfold setc; rw [if_neg hpq, if_pos rfl, if_pos rfl]
    have zv := hz (setc (setc c p v) q v) fun r _ => by unfold setc; rw [if_neg hpq, if_pos rfl, if_pos rfl]
    have comm : ∀ a b : Nat → Rat, setc (setc c p a) q b = setc (setc c q b) p a := fun a b => by
      funext j; unfold setc
      by_cases h1 : j = q
      · rw [if_pos h1, if_neg (fun z => hpq (z.symm.trans h1)), if_pos h1]
      · rw [if_neg h1]
        by_cases h2 : j = p
        · rw [if_pos h2, if_pos h2]
        · rw [if_neg h2, if_neg h2, if_neg h1]
    rw [det_lin 1 1 hq, comm, det_lin 1 1 hp, comm, det_lin 1 1 hp, ← comm, ← comm, ← comm, ← comm] at z0
    grind
  have h := two (c q) (c p)
  have e1 : setc (setc c p (c q)) q (c p) = swapc c p q := by
    funext j; unfold setc swapc
    by_cases h1 : j = q
    · rw [if_pos h1, if_neg (fun z => hpq (z.symm.trans h1)), if_pos h1]
    · rw [if_neg h1]
      by_cases h2 : j = p
      · rw [if_pos h2, if_pos h2]
      · rw [if_neg h2, if_neg h2, if_neg h1]
  have e2 : setc (setc c p (c p)) q (c q) = c := by rw [setc_self]; exact setc_self
  rw [e1, e2] at h
  exact h
theorem skip2 {f : Nat → Rat} {i k r : Nat} (h : i ≤ k) : skip k (skip i f) r = skip i (skip (k + 1) f) r := by
  unfold skip
  by_cases h1 : r < i
  · rw [if_pos (by omega), if_pos h1, if_pos h1, if_pos (by omega)]
  · by_cases h2 : r < k
    · rw [if_pos h2, if_neg h1, if_neg h1, if_pos (by omega)]
    · rw [if_neg h2, if_neg (by omega), if_neg h1, if_neg (by omega)]
theorem det_last {n : Nat} {c : Nat → Nat → Rat} (h : Alike (n + 2) c n (n + 1)) : det (n + 2) c = 0 := by
  -- what two rows i, j bring
  let M : Nat → Nat → Rat := fun i k => det n (fun j => skip k (skip i (c j)))
  let G : Nat → Nat → Rat := fun i j => if j < i then sgn (n + 1 + i) * c (n + 1) i * (sgn (n + j) * c (n + 1) j * M i j) else sgn (n + 1 + i) * c (n + 1) i * (sgn (n + (j - 1)) * c (n + 1) j * M i (j - 1))
  have e1 : det (n + 2) c = sm (n + 2) fun i => sm (n + 2) fun j => if j = i then 0 else G i j := by
    show sm (n + 2) (fun i => sgn (n + 1 + i) * c (n + 1) i * det (n + 1) (fun j => skip i (c j))) = _
    refine sm_congr fun i hi => ?_
    show sgn (n + 1 + i) * c (n + 1) i * sm (n + 1) (fun k => sgn (n + k) * skip i (c n) k * det n (fun j => skip k (skip i (c j)))) = _
    rw [← sm_mul, ← sm_up (n := n + 1) hi]
    refine sm_congr fun k hk => ?_
    show sgn (n + 1 + i) * c (n + 1) i * (sgn (n + k) * skip i (c n) k * M i k) = G i (up i k)
    show _ = if up i k < i then sgn (n + 1 + i) * c (n + 1) i * (sgn (n + up i k) * c (n + 1) (up i k) * M i (up i k)) else sgn (n + 1 + i) * c (n + 1) i * (sgn (n + (up i k - 1)) * c (n + 1) (up i k) * M i (up i k - 1))
    rw [skip_up]
    have hu : up i k < n + 2 := by unfold up; split <;> omega
    rw [h _ hu]
    by_cases hk' : k < i
    · have : up i k = k := by unfold up; rw [if_pos hk']
      rw [this, if_pos hk']
    · have : up i k = k + 1 := by unfold up; rw [if_neg hk']
      rw [this, if_neg (by omega), Nat.add_sub_cancel]
  have anti : ∀ i j, i < n + 2 → j < n + 2 → i < j → G i j = -G j i := fun i j hi hj hij => by
    show (if j < i then _ else _) = -(if i < j then _ else _)
    rw [if_neg (by omega), if_pos hij]
    have hM : M i (j - 1) = M j i := det_congr fun l r hl hr => by
      have := skip2 (f := c l) (i := i) (k := j - 1) (r := r) (by omega)
      rw [show j - 1 + 1 = j by omega] at this
      exact this
    rw [hM]
    have s1 : sgn (n + 1 + i) = -sgn (n + i) := by rw [show n + 1 + i = n + i + 1 by omega]; rfl
    have s2 : sgn (n + 1 + j) = sgn (n + (j - 1)) := by
      rw [show n + 1 + j = n + (j - 1) + 1 + 1 by omega]
      show - -sgn (n + (j - 1)) = _
      grind
    rw [s1, s2]
    grind
  have tot : sm (n + 2) (fun i => sm (n + 2) fun j => if j = i then 0 else G i j) = -sm (n + 2) (fun i => sm (n + 2) fun j => if j = i then 0 else G i j) := by
    rw [← sm_neg]
    rw [sm_swap]
    refine sm_congr fun i hi => ?_
    rw [← sm_neg]
    refine sm_congr fun j hj => ?_
    by_cases e : i = j
    · rw [if_pos e, if_pos e.symm]; grind
    · rw [if_neg e, if_neg (fun z => e z.symm)]
      by_cases hlt : i < j
      · have := anti i j hi hj hlt; grind
      · have := anti j i hj hi (by omega); grind
  rw [e1]
  grind
theorem det_alike : ∀ {n : Nat} {c : Nat → Nat → Rat} {p q : Nat}, p < q → q < n → Alike n c p q → det n c = 0
  | 0, _, _, _, _, h, _ => by omega
  | n + 1, c, p, q, hpq, hq, h => by
    by_cases e : q = n
    · subst e
      obtain ⟨m, rfl⟩ : ∃ m, q = m + 1 := ⟨q - 1, by omega⟩
      by_cases ep : p = m
      · subst ep; exact det_last h
      · -- swap p and m among the first columns
        have sw : det (m + 2) (swapc c p m) = -det (m + 2) c := by
          show sm (m + 2) _ = -sm (m + 2) _
          rw [← sm_neg]
          refine sm_congr fun i hi => ?_
          have e1 : swapc c p m (m + 1) = c (m + 1) := by unfold swapc; rw [if_neg (by omega), if_neg (by omega)]
          have e2 : (fun j => skip i (swapc c p m j)) = swapc (fun j => skip i (c j)) p m := by
            funext j; unfold swapc; split
            · rfl
            · split <;> rfl
          have e3 := det_swap_of (n := m + 1) (p := p) (q := m) (fun c' h' => det_alike (by omega) (by omega) h') (by omega) (by omega) ep (fun j => skip i (c j))
          rw [e1, e2, e3]
          grind
        have z : det (m + 2) (swapc c p m) = 0 := det_last fun r hr => by
          have := h r hr
          unfold swapc
          rw [if_neg (fun z => ep z.symm), if_pos rfl, if_neg (by omega), if_neg (by omega)]
          exact this
        grind
    · unfold det
      refine sm_zero fun i hi => ?_
      rw [det_alike (n := n) (p := p) (q := q) hpq (by omega) fun r hr => ?_]
      · grind
      · show skip i (c p) r = skip i (c q) r
        unfold skip
        split
        · exact h r (by omega)
        · exact h (r + 1) (by omega)
theorem det_eq {n : Nat} {c : Nat → Nat → Rat} {p q : Nat} (hp : p < n) (hq : q < n) (hne : p ≠ q) (h : Alike n c p q) : det n c = 0 := by
  rcases Nat.lt_or_gt_of_ne hne with z | z
  · exact det_alike z hq h
  · exact det_alike z hp fun r hr => (h r hr).symm
theorem det_unit {n : Nat} {c : Nat → Nat → Rat} (h : ∀ r, r < n → c n r = 0) (h1 : c n n = 1) : det (n + 1) c = det n c := by
  show sm (n + 1) (fun i => sgn (n + i) * c n i * det n (fun j => skip i (c j))) = _
  rw [sm_one (i := n) (by omega) fun j hj hne => by rw [h j (by omega)]; grind, h1]
  have : det n (fun j => skip n (c j)) = det n c := det_congr fun j r hj hr => by unfold skip; rw [if_pos hr]
  rw [this]
  have s : ∀ k, sgn (k + k) = 1 := fun k => by
    induction k with
    | zero => rfl
    | succ k ih =>
      rw [show k + 1 + (k + 1) = k + k + 1 + 1 by omega]
      show - -sgn (k + k) = 1
      rw [ih]; grind
  rw [s]; grind

theorem sm_two {f : Nat → Rat} {a : Nat} : ∀ {n : Nat}, a + 1 < n → sm n (fun i => if i = a then f (a + 1) else if i = a + 1 then f a else f i) = sm n f
  | 0, h => by omega
  | n + 1, h => by
    by_cases e : a + 1 = n
    · subst e
      show sm a _ + _ + _ = sm a f + f a + f (a + 1)
      dsimp only
      rw [if_pos rfl, if_neg (by omega), if_pos rfl, sm_congr (g := f) fun i hi => by rw [if_neg (by omega), if_neg (by omega)]]
      grind
    · show sm n _ + _ = sm n f + f n
      rw [sm_two (by omega)]
      dsimp only
      rw [if_neg (by omega), if_neg (by omega)]
noncomputable def swapa (c : Nat → Nat → Rat) (a : Nat) : Nat → Nat → Rat := fun j i => if i = a then c j (a + 1) else if i = a + 1 then c j a else c j i
theorem det_swapa : ∀ {n : Nat} {c : Nat → Nat → Rat} {a : Nat}, a + 1 < n → det n (swapa c a) = -det n c
  | 0, _, _, h => by omega
  | n + 1, c, a, h => by
    show sm (n + 1) (fun i => sgn (n + i) * swapa c a n i * det n (fun j => skip i (swapa c a j))) = -sm (n + 1) fun i => sgn (n + i) * c n i * det n (fun j => skip i (c j))
    rw [← sm_neg, ← sm_two (f := fun i => -(sgn (n + i) * c n i * det n (fun j => skip i (c j)))) h]
    refine sm_congr fun i hi => ?_
    by_cases e1 : i = a
    · subst e1
      rw [if_pos rfl]
      have h1 : swapa c i n i = c n (i + 1) := by unfold swapa; rw [if_pos rfl]
      have h2 : det n (fun j => skip i (swapa c i j)) = det n (fun j => skip (i + 1) (c j)) := det_congr fun j r hj hr => by
        unfold swapa skip
        (dsimp only; (repeat' split) <;> first | rfl | (exfalso; omega) | (congr 1; omega))
      rw [h1, h2, show n + (i + 1) = n + i + 1 by omega]
      show _ = -(-sgn (n + i) * _ * _)
      grind
    · rw [if_neg e1]
      by_cases e2 : i = a + 1
      · subst e2
        rw [if_pos rfl]
        have h1 : swapa c a n (a + 1) = c n a := by unfold swapa; rw [if_neg (by omega), if_pos rfl]
        have h2 : det n (fun j => skip (a + 1) (swapa c a j)) = det n (fun j => skip a (c j)) := det_congr fun j r hj hr => by
          unfold swapa skip
          (dsimp only; (repeat' split) <;> first | rfl | (exfalso; omega) | (congr 1; omega))
        rw [h1, h2, show n + (a + 1) = n + a + 1 by omega]
        show -sgn (n + a) * _ * _ = _
        grind
      · rw [if_neg e2]
        have h1 : swapa c a n i = c n i := by unfold swapa; rw [if_neg e1, if_neg e2]
        rw [h1]
        by_cases lt : i < a
        · obtain ⟨b, rfl⟩ : ∃ b, a = b + 1 := ⟨a - 1, by omega⟩
          have h2 : (det n fun j => skip i (swapa c (b + 1) j)) = det n (swapa (fun j => skip i (c j)) b) := det_congr fun j r hj hr => by
            unfold swapa skip
            (dsimp only; (repeat' split) <;> first | rfl | (exfalso; omega) | (congr 1; omega))
          rw [h2, det_swapa (by omega)]
          grind
        · have h2 : (det n fun j => skip i (swapa c a j)) = det n (swapa (fun j => skip i (c j)) a) := det_congr fun j r hj hr => by
            unfold swapa skip
            (dsimp only; (repeat' split) <;> first | rfl | (exfalso; omega) | (congr 1; omega))
          rw [h2, det_swapa (by omega)]
          grind
theorem det_rows : ∀ (g : Nat) {n : Nat} {c : Nat → Nat → Rat} {p q : Nat}, q = p + 1 + g → q < n → (∀ j, j < n → c j p = c j q) → det n c = 0
  | 0, n, c, p, q, e, hq, h => by
    subst e
    have := det_swapa (n := n) (c := c) (a := p) (by omega)
    have e2 : det n (swapa c p) = det n c := det_congr fun j r hj hr => by
      unfold swapa
      by_cases h1 : r = p
      · rw [if_pos h1, h1]; exact (h j hj).symm
      · rw [if_neg h1]
        by_cases h2 : r = p + 1
        · rw [if_pos h2, h2]; exact h j hj
        · rw [if_neg h2]
    grind
  | g + 1, n, c, p, q, e, hq, h => by
    have h1 := det_swapa (n := n) (c := c) (a := q - 1) (by omega)
    have h2 := det_rows g (n := n) (c := swapa c (q - 1)) (p := p) (q := q - 1) (by omega) (by omega) fun j hj => by
      unfold swapa
      rw [if_neg (by omega), if_neg (by omega), if_pos rfl, show q - 1 + 1 = q by omega]
      exact h j hj
    grind
theorem det_row_eq {n : Nat} {c : Nat → Nat → Rat} {p q : Nat} (hp : p < n) (hq : q < n) (hne : p ≠ q) (h : ∀ j, j < n → c j p = c j q) : det n c = 0 := by
  rcases Nat.lt_or_gt_of_ne hne with z | z
  · exact det_rows (q - p - 1) (by omega) hq h
  · exact det_rows (p - q - 1) (by omega) hp fun j hj => (h j hj).symm
noncomputable def setr (c : Nat → Nat → Rat) (r : Nat) (w : Nat → Rat) : Nat → Nat → Rat := fun j i => if i = r then w j else c j i
theorem det_rlin (a b : Rat) : ∀ {n : Nat} {c : Nat → Nat → Rat} {r : Nat} {u v : Nat → Rat}, r < n → det n (setr c r fun j => a * u j + b * v j) = a * det n (setr c r u) + b * det n (setr c r v)
  | 0, _, _, _, _, h => by omega
  | n + 1, c, r, u, v, h => by
    unfold det
    rw [← sm_lin]
    refine sm_congr fun i hi => ?_
    by_cases e : i = r
    · subst e
      have e1 : ∀ w : Nat → Rat, setr c i w n i = w n := fun w => by unfold setr; rw [if_pos rfl]
      have e2 : ∀ w : Nat → Rat, det n (fun j => skip i (setr c i w j)) = det n (fun j => skip i (c j)) := fun w => det_congr fun j r hj hr => by
        unfold setr skip
        (dsimp only; (repeat' split) <;> first | rfl | (exfalso; omega) | (congr 1; omega))
      rw [e1, e1, e1, e2, e2, e2]
      grind
    · have e1 : ∀ w : Nat → Rat, setr c r w n i = c n i := fun w => by unfold setr; rw [if_neg e]
      have e2 : ∀ w : Nat → Rat, det n (fun j => skip i (setr c r w j)) = det n (setr (fun j => skip i (c j)) (if r < i then r else r - 1) w) := fun w => det_congr fun j k hj hk => by
        unfold setr skip
        (dsimp only; (repeat' split) <;> first | rfl | (exfalso; omega) | (congr 1; omega))
      rw [e1, e1, e1, e2, e2, e2, det_rlin a b (by split <;> omega)]
      grind
theorem det_row_two {n : Nat} {c : Nat → Nat → Rat} {r p q : Nat} {a b : Rat} (hr : r < n) (hp : p < n) (hq : q < n) (np : p ≠ r) (nq : q ≠ r) (h : ∀ j, j < n → c j r = a * c j p + b * c j q) : det n c = 0 := by
  have e : det n c = det n (setr c r fun j => a * c j p + b * c j q) := det_congr fun j i hj hi => by
    unfold setr
    by_cases z : i = r
    · rw [if_pos z, z]; exact h j hj
    · rw [if_neg z]
  rw [e, det_rlin a b hr]
  have z : ∀ p, p < n → p ≠ r → det n (setr c r fun j => c j p) = 0 := fun p hp np => det_row_eq hp hr np fun j hj => by
    unfold setr
    rw [if_neg np, if_pos rfl]
  rw [z p hp np, z q hq nq]
  grind
theorem det_row_zero {n : Nat} {c : Nat → Nat → Rat} {r : Nat} (hr : r < n) (h : ∀ j, j < n → c j r = 0) : det n c = 0 := by
  have e : det n c = det n (setr c r fun j => 0 * c j r + 0 * c j r) := det_congr fun j i hj hi => by
    unfold setr
    by_cases z : i = r
    · rw [if_pos z, z, h j hj]; grind
    · rw [if_neg z]
  rw [e, det_rlin 0 0 hr]
  grind
noncomputable def IsI (x : Rat) : Prop := ∃ z : Int, x = (z : Rat)
theorem IsI.add {x y : Rat} (h : IsI x) (h' : IsI y) : IsI (x + y) := by
  obtain ⟨a, rfl⟩ := h; obtain ⟨b, rfl⟩ := h'; exact ⟨a + b, by rw [Rat.intCast_add]⟩
theorem IsI.mul {x y : Rat} (h : IsI x) (h' : IsI y) : IsI (x * y) := by
  obtain ⟨a, rfl⟩ := h; obtain ⟨b, rfl⟩ := h'; exact ⟨a * b, by rw [Rat.intCast_mul]⟩
theorem IsI.sm {f : Nat → Rat} : ∀ {n : Nat}, (∀ i, i < n → IsI (f i)) → IsI (sm n f)
  | 0, _ => ⟨0, rfl⟩
  | n + 1, h => (IsI.sm fun i hi => h i (by omega)).add (h n (by omega))
theorem IsI.sgn : ∀ n, IsI (sgn n)
  | 0 => ⟨1, rfl⟩
  | n + 1 => by
    obtain ⟨z, e⟩ := IsI.sgn n
    exact ⟨-z, by show -Dt.sgn n = _; rw [e, Rat.intCast_neg]⟩
theorem IsI.det : ∀ {n : Nat} {c : Nat → Nat → Rat}, (∀ j r, j < n → r < n → IsI (c j r)) → IsI (det n c)
  | 0, _, _ => ⟨1, rfl⟩
  | n + 1, c, h => by
    refine IsI.sm fun i hi => ((IsI.sgn _).mul (h n i (by omega) hi)).mul (IsI.det fun j r hj hr => ?_)
    unfold skip
    split
    · exact h j r (by omega) (by omega)
    · exact h j (r + 1) (by omega) (by omega)
end Dt

set_option Elab.async false
set_option linter.all false
set_option maxRecDepth 100000
namespace Dt
theorem det_sum {n i : Nat} {c : Nat → Nat → Rat} (hi : i < n) {a : Nat → Rat} {u : Nat → Nat → Rat} : ∀ K : Nat, det n (setc c i fun r => sm K fun m => a m * u m r) = sm K fun m => a m * det n (setc c i (u m))
  | 0 => by
    have := det_lin (n := n) (m := i) (c := c) (u := fun _ => 0) (v := fun _ => 0) 0 0 hi
    have e : (fun r : Nat => (0 : Rat) * 0 + 0 * 0) = fun r => sm 0 fun m => a m * u m r := by funext r; show _ = (0 : Rat); grind
    rw [e] at this
    rw [this]
    show _ = (0 : Rat)
    grind
  | K + 1 => by
    have e : (fun r => sm (K + 1) fun m => a m * u m r) = fun r => 1 * (sm K fun m => a m * u m r) + a K * u K r := by
      funext r
      show sm K (fun m => a m * u m r) + a K * u K r = _
      grind
    rw [e, det_lin 1 (a K) hi, det_sum hi K]
    show _ = sm K (fun m => a m * det n (setc c i (u m))) + a K * det n (setc c i (u K))
    grind
theorem det_cramer {n i : Nat} {c : Nat → Nat → Rat} (hi : i < n) {a : Nat → Rat} : det n (setc c i fun r => sm n fun m => a m * c m r) = a i * det n c := by
  rw [det_sum hi, sm_one hi fun m hm hne => ?_]
  · rw [setc_self]
  · rw [det_eq hm hi hne fun r _ => ?_]
    · grind
    · unfold setc; rw [if_neg hne, if_pos rfl]
noncomputable def cl (A : Nat → Nat → Rat) : Nat → Nat → Rat := fun j r => A r j
set_option genInjectivity false in
set_option genSizeOf false in
structure Bar (n k : Nat) (A T : Nat → Nat → Rat) (d : Rat) : Prop where
  d0 : d ≠ 0
  dd : d = det k (cl A)
  id1 : ∀ i m, i < k → m < k → T i m = if i = m then d else 0
  id2 : ∀ i m, k ≤ i → i < n → m < k → T i m = 0
  rel : ∀ l j, l < n → j ≤ n → d * A l j = sm k (fun m => A l m * T m j) + (if k ≤ l then T l j else 0)
section
variable {n k : Nat} {A T : Nat → Nat → Rat} {d : Rat}
theorem bar_start : Bar n 0 A A 1 := ⟨by decide, rfl, fun i m h => by omega, fun i m _ _ h => by omega, fun l j _ _ => by
  rw [if_pos (Nat.zero_le _)]
  show _ = (0 : Rat) + A l j
  grind⟩
theorem Bar.top (b : Bar n k A T d) (hk : k ≤ n) {i j : Nat} (hi : i < k) (hj : j ≤ n) : T i j = det k (setc (cl A) i fun r => A r j) := by
  have h1 := det_cramer (n := k) (i := i) (c := cl A) hi (a := fun m => T m j)
  have h2 : det k (setc (cl A) i fun r => sm k fun m => T m j * cl A m r) = det k (setc (cl A) i fun r => d * A r j + 0 * A r j) := det_congr fun q r hq hr => by
    unfold setc
    split
    · have := b.rel r j (by omega) hj
      rw [if_neg (by omega)] at this
      have e : sm k (fun m => T m j * cl A m r) = sm k (fun m => A r m * T m j) := sm_congr fun m _ => by unfold cl; grind
      dsimp only
      rw [e]; grind
    · rfl
  rw [h1, ← b.dd, det_lin d 0 hi] at h2
  have := b.d0
  grind
noncomputable def bor (A : Nat → Nat → Rat) (k i j : Nat) : Nat → Nat → Rat := fun q r => A (if r < k then r else i) (if q < k then q else j)
theorem Bar.bot (b : Bar n k A T d) {i j : Nat} (hi : k ≤ i) (hin : i < n) (hj : j ≤ n) : T i j = det (k + 1) (bor A k i j) := by
  let C := bor A k i j
  let e : Nat → Rat := fun r => if r = k then 1 else 0
  have hcol : ∀ r, r < k + 1 → d * C k r = (sm k fun m => T m j * C m r) + T i j * e r := fun r hr => by
    show d * A (if r < k then r else i) (if k < k then k else j) = (sm k fun m => T m j * A (if r < k then r else i) (if m < k then m else j)) + T i j * (if r = k then 1 else 0)
    rw [if_neg (show ¬ k < k by omega), sm_congr (g := fun m => A (if r < k then r else i) m * T m j) fun m hm => by rw [if_pos hm]; grind]
    by_cases h : r < k
    · rw [if_pos h, if_neg (by omega)]
      have := b.rel r j (by omega) hj
      rw [if_neg (by omega)] at this
      grind
    · rw [if_neg h, if_pos (by omega)]
      have := b.rel i j hin hj
      rw [if_pos hi] at this
      grind
  have h1 : d * det (k + 1) C = det (k + 1) (setc C k fun r => d * C k r + 0 * C k r) := by
    rw [det_lin d 0 (by omega), setc_self]; grind
  have h2 : det (k + 1) (setc C k fun r => d * C k r + 0 * C k r) = det (k + 1) (setc C k fun r => 1 * (sm k fun m => T m j * C m r) + T i j * e r) := det_congr fun q r hq hr => by
    unfold setc
    split
    · have := hcol r hr
      grind
    · rfl
  have h3 : det (k + 1) (setc C k fun r => sm k fun m => T m j * C m r) = 0 := by
    rw [det_sum (by omega)]
    refine sm_zero fun m hm => ?_
    rw [det_eq (p := m) (q := k) (by omega) (by omega) (by omega) fun r _ => by unfold setc; rw [if_neg (by omega), if_pos rfl]]
    grind
  have h4 : det (k + 1) (setc C k e) = d := by
    have u1 : ∀ r, r < k → setc C k e k r = 0 := fun r hr => by unfold setc; rw [if_pos rfl]; show (if r = k then (1 : Rat) else 0) = 0; rw [if_neg (by omega)]
    have u2 : setc C k e k k = 1 := by unfold setc; rw [if_pos rfl]; show (if k = k then (1 : Rat) else 0) = 1; rw [if_pos rfl]
    rw [det_unit u1 u2, b.dd]
    refine det_congr fun q r hq hr => ?_
    unfold setc
    rw [if_neg (by omega)]
    show A (if r < k then r else i) (if q < k then q else j) = cl A q r
    rw [if_pos hr, if_pos hq]; rfl
  rw [h2, det_lin 1 (T i j) (by omega), h3, h4] at h1
  have := b.d0
  show T i j = det (k + 1) C
  grind
theorem Bar.whole (b : Bar n k A T d) (hk : k ≤ n) (hA : ∀ l j, l < n → j ≤ n → IsI (A l j)) {i j : Nat} (hi : i < n) (hj : j ≤ n) : IsI (T i j) := by
  by_cases h : i < k
  · rw [b.top hk h hj]
    refine IsI.det fun q r hq hr => ?_
    unfold setc
    split
    · exact hA r j (by omega) hj
    · exact hA r q (by omega) (by omega)
  · rw [b.bot (by omega) hi hj]
    refine IsI.det fun q r hq hr => ?_
    show IsI (A (if r < k then r else i) (if q < k then q else j))
    exact hA _ _ (by split <;> omega) (by split <;> omega)
noncomputable def nxt (T : Nat → Nat → Rat) (k : Nat) (d : Rat) : Nat → Nat → Rat := fun i j => if i = k then T k j else (T k k * T i j - T i k * T k j) / d
theorem Bar.step (b : Bar n k A T d) (hk : k < n) (hp : T k k ≠ 0) : Bar n (k + 1) A (nxt T k d) (T k k) := by
  have hd := b.d0
  refine ⟨hp, ?_, fun i m hi hm => ?_, fun i m hi hin hm => ?_, fun l j hl hj => ?_⟩
  · rw [b.bot (Nat.le_refl k) hk (Nat.le_of_lt hk)]
    refine det_congr fun q r hq hr => ?_
    show A (if r < k then r else k) (if q < k then q else k) = A r q
    congr 1
    · split <;> omega
    · split <;> omega
  · unfold nxt
    by_cases e : i = k
    · rw [if_pos e]
      by_cases e2 : m = k
      · rw [e2, if_pos e]
      · rw [if_neg (fun z => e2 (z.symm.trans e)), b.id2 k m (Nat.le_refl _) hk (by omega)]
    · rw [if_neg e]
      by_cases e2 : m = k
      · rw [e2, if_neg e]; grind
      · rw [b.id1 i m (by omega) (by omega), b.id2 k m (Nat.le_refl _) hk (by omega)]
        split <;> grind
  · unfold nxt
    rw [if_neg (by omega)]
    by_cases e2 : m = k
    · rw [e2]; grind
    · rw [b.id2 i m (by omega) hin (by omega), b.id2 k m (Nat.le_refl _) hk (by omega)]; grind
  · have r1 := b.rel l j hl hj
    have r2 := b.rel l k hl (by omega)
    have e1 : sm (k + 1) (fun m => A l m * nxt T k d m j) = sm k (fun m => (T k k / d) * (A l m * T m j) + (-(T k j / d)) * (A l m * T m k)) + A l k * T k j := by
      show sm k (fun m => A l m * nxt T k d m j) + A l k * nxt T k d k j = _
      congr 1
      · refine sm_congr fun m hm => ?_
        unfold nxt
        rw [if_neg (by omega)]
        grind
      · unfold nxt; rw [if_pos rfl]
    rw [e1, sm_lin]
    by_cases hlk : l < k
    · rw [if_neg (by omega)] at r1 r2 ⊢
      grind
    · rw [if_pos (by omega)] at r1 r2
      by_cases e : l = k
      · subst e
        rw [if_neg (by omega)]
        grind
      · rw [if_pos (by omega)]
        unfold nxt
        rw [if_neg e]
        grind
noncomputable def swp {α : Type} (T : Nat → α) (a b : Nat) : Nat → α := fun i => if i = a then T b else if i = b then T a else T i
theorem Bar.swap (b : Bar n k A T d) {p q : Nat} (hp : k ≤ p) (hq : k ≤ q) (hpn : p < n) (hqn : q < n) : Bar n k (swp A p q) (swp T p q) d := by
  have low : ∀ {α : Type} (F : Nat → α) i, i < k → swp F p q i = F i := fun F i hi => by unfold swp; rw [if_neg (by omega), if_neg (by omega)]
  have at' : ∀ i, ∃ i', (i' < n ↔ i < n) ∧ (k ≤ i' ↔ k ≤ i) ∧ swp A p q i = A i' ∧ swp T p q i = T i' := fun i => by
    by_cases e : i = p
    · exact ⟨q, by omega, by omega, by unfold swp; rw [if_pos e], by unfold swp; rw [if_pos e]⟩
    · by_cases e2 : i = q
      · exact ⟨p, by omega, by omega, by unfold swp; rw [if_neg e, if_pos e2], by unfold swp; rw [if_neg e, if_pos e2]⟩
      · exact ⟨i, Iff.rfl, Iff.rfl, by unfold swp; rw [if_neg e, if_neg e2], by unfold swp; rw [if_neg e, if_neg e2]⟩
  refine ⟨b.d0, ?_, fun i m hi hm => ?_, fun i m hi hin hm => ?_, fun l j hl hj => ?_⟩
  · rw [b.dd]
    refine det_congr fun j r hj hr => ?_
    show A r j = swp A p q r j
    rw [low A r hr]
  · rw [low T i hi]; exact b.id1 i m hi hm
  · obtain ⟨i', h1, h2, _, h4⟩ := at' i
    rw [h4]; exact b.id2 i' m (h2.mpr hi) (h1.mpr hin) hm
  · obtain ⟨l', h1, h2, h3, h4⟩ := at' l
    rw [h3, h4, b.rel l' j (h1.mpr hl) hj, sm_congr (g := fun m => A l' m * swp T p q m j) fun m hm => by rw [low T m hm]]
    congr 1
    by_cases z : k ≤ l
    · rw [if_pos z, if_pos (h2.mpr z)]
    · rw [if_neg z, if_neg (fun y => z (h2.mp y))]
theorem Bar.stuck (b : Bar n k A T d) (hk : k < n) (h : ∀ i, k ≤ i → i < n → T i k = 0) : det n (cl A) = 0 := by
  have h1 : d * det n (cl A) = det n (setc (cl A) k fun r => d * cl A k r + 0 * cl A k r) := by
    rw [det_lin d 0 hk, setc_self]; grind
  have h2 : det n (setc (cl A) k fun r => d * cl A k r + 0 * cl A k r) = det n (setc (cl A) k fun r => sm k fun m => T m k * cl A m r) := det_congr fun q r hq hr => by
    unfold setc
    split
    · have := b.rel r k hr (by omega)
      have e : (if k ≤ r then T r k else 0) = 0 := by
        split
        · rename_i z; exact h r z hr
        · rfl
      rw [e] at this
      have e2 : sm k (fun m => T m k * cl A m r) = sm k (fun m => A r m * T m k) := sm_congr fun m _ => by unfold cl; grind
      dsimp only
      rw [e2]
      show d * A r k + 0 * A r k = _
      grind
    · rfl
  have h3 : det n (setc (cl A) k fun r => sm k fun m => T m k * cl A m r) = 0 := by
    rw [det_sum hk]
    refine sm_zero fun m hm => ?_
    rw [det_eq (p := m) (q := k) (by omega) hk (by omega) fun r _ => by unfold setc; rw [if_neg (by omega), if_pos rfl]]
    grind
  have := b.d0
  rw [h2, h3] at h1
  grind
theorem Bar.meets (b : Bar n n A T d) {l : Nat} (hl : l < n) : sm n (fun m => A l m * (T m n / d)) = A l n := by
  have h := b.rel l n hl (Nat.le_refl _)
  rw [if_neg (by omega)] at h
  have hd := b.d0
  have e : sm n (fun m => A l m * (T m n / d)) = (1 / d) * sm n (fun m => A l m * T m n) := by
    rw [← sm_mul]
    exact sm_congr fun m _ => by grind
  rw [e]
  grind
theorem one_answer {x y : Nat → Rat} (hd : det n (cl A) ≠ 0) (hx : ∀ l, l < n → sm n (fun m => A l m * x m) = sm n fun m => A l m * y m) {i : Nat} (hi : i < n) : x i = y i := by
  have h := det_cramer (n := n) (i := i) (c := cl A) hi (a := fun m => x m - y m)
  have e : det n (setc (cl A) i fun r => sm n fun m => (x m - y m) * cl A m r) = det n (setc (cl A) i fun r => 0 * cl A i r + 0 * cl A i r) := det_congr fun q r hq hr => by
    unfold setc
    split
    · have := hx r hr
      have e1 : sm n (fun m => (x m - y m) * cl A m r) = sm n (fun m => 1 * (A r m * x m) + (-1) * (A r m * y m)) := sm_congr fun m _ => by unfold cl; grind
      dsimp only
      rw [e1, sm_lin, this]
      grind
    · rfl
  rw [h, det_lin 0 0 hi] at e
  grind
end
theorem det_rswap {n p q : Nat} (hp : p < n) (hq : q < n) (hpq : p ≠ q) (A : Nat → Nat → Rat) : det n (cl (swp A p q)) = -det n (cl A) := by
  have two : ∀ u v : Nat → Rat, det n (setr (setr (cl A) p u) q v) = -det n (setr (setr (cl A) p v) q u) := fun u v => by
    have z0 := det_row_eq (c := setr (setr (cl A) p fun r => 1 * u r + 1 * v r) q fun r => 1 * u r + 1 * v r) hp hq hpq fun j _ => by
      unfold setr; rw [if_neg hpq, if_pos rfl, if_pos rfl]
    have zu := det_row_eq (c := setr (setr (cl A) p u) q u) hp hq hpq fun j _ => by unfold setr; rw [if_neg hpq, if_pos rfl, if_pos rfl]
    have zv := det_row_eq (c := setr (setr (cl A) p v) q v) hp hq hpq fun j _ => by unfold setr; rw [if_neg hpq, if_pos rfl, if_pos rfl]
    have comm : ∀ a b : Nat → Rat, setr (setr (cl A) p a) q b = setr (setr (cl A) q b) p a := fun a b => by
      funext j i; unfold setr
      by_cases h1 : i = q
      · rw [if_pos h1, if_neg (fun z => hpq (z.symm.trans h1)), if_pos h1]
      · rw [if_neg h1]
        by_cases h2 : i = p
        · rw [if_pos h2, if_pos h2]
        · rw [if_neg h2, if_neg h2, if_neg h1]
    rw [det_rlin 1 1 hq, comm, det_rlin 1 1 hp, comm, det_rlin 1 1 hp, ← comm, ← comm, ← comm, ← comm] at z0
    grind
  have h := two (A q) (A p)
  have e1 : setr (setr (cl A) p (A q)) q (A p) = cl (swp A p q) := by
    funext j i; unfold setr cl swp
    by_cases h1 : i = q
    · rw [if_pos h1, if_neg (fun z => hpq (z.symm.trans h1)), if_pos h1]
    · rw [if_neg h1]
      by_cases h2 : i = p
      · rw [if_pos h2, if_pos h2]
      · rw [if_neg h2, if_neg h2, if_neg h1]
  have e2 : setr (setr (cl A) p (A p)) q (A q) = cl A := by
    funext j i; unfold setr cl
    by_cases h1 : i = q
    · rw [if_pos h1, h1]
    · rw [if_neg h1]
      by_cases h2 : i = p
      · rw [if_pos h2, h2]
      · rw [if_neg h2]
  rw [e1, e2] at h
  exact h
end Dt

set_option Elab.async false
set_option linter.all false
set_option maxRecDepth 100000
namespace Dt
noncomputable def Bd (b x : Rat) : Prop := -b ≤ x ∧ x ≤ b
theorem Bd.mul {a b x y : Rat} (h : Bd a x) (h' : Bd b y) : Bd (a * b) (x * y) := by
  have p1 : 0 ≤ (a - x) * (b + y) := Rat.mul_nonneg (by have := h.2; grind) (by have := h'.1; grind)
  have p2 : 0 ≤ (a + x) * (b - y) := Rat.mul_nonneg (by have := h.1; grind) (by have := h'.2; grind)
  have p3 : 0 ≤ (a - x) * (b - y) := Rat.mul_nonneg (by have := h.2; grind) (by have := h'.2; grind)
  have p4 : 0 ≤ (a + x) * (b + y) := Rat.mul_nonneg (by have := h.1; grind) (by have := h'.1; grind)
  constructor <;> grind
theorem Bd.add {a b x y : Rat} (h : Bd a x) (h' : Bd b y) : Bd (a + b) (x + y) := by
  have := h.1; have := h.2; have := h'.1; have := h'.2
  constructor <;> grind
theorem Bd.sm {b : Rat} {f : Nat → Rat} : ∀ {n : Nat}, (∀ i, i < n → Bd b (f i)) → Bd ((n : Nat) * b) (sm n f)
  | 0, _ => by
    show Bd _ (0 : Rat)
    have : ((0 : Nat) : Rat) = 0 := rfl
    rw [this]
    constructor <;> grind
  | n + 1, h => by
    have h1 := (Bd.sm (n := n) fun i hi => h i (by omega)).add (h n (by omega))
    have e : (((n + 1 : Nat) : Rat)) * b = (n : Nat) * b + b := by
      have : ((n + 1 : Nat) : Rat) = (n : Nat) + 1 := by push_cast; rfl
      rw [this]; grind
    rw [e]
    exact h1
theorem Bd.sgn : ∀ n, Bd 1 (sgn n)
  | 0 => by unfold Dt.sgn; constructor <;> grind
  | n + 1 => by
    have := Bd.sgn n
    have := this.1; have := (Bd.sgn n).2
    unfold Dt.sgn; constructor <;> grind
noncomputable def dN (M : Nat) : Nat → Nat
  | 0 => 1
  | n + 1 => (n + 1) * (M * dN M n)
theorem Bd.det {M : Nat} : ∀ {n : Nat} {c : Nat → Nat → Rat}, (∀ j r, j < n → r < n → Bd (M : Nat) (c j r)) → Bd ((dN M n : Nat) : Rat) (det n c)
  | 0, _, _ => by
    unfold Dt.det dN
    have : ((1 : Nat) : Rat) = 1 := rfl
    rw [this]
    constructor <;> grind
  | n + 1, c, h => by
    have key : Bd ((n + 1 : Nat) * ((M : Nat) * ((dN M n : Nat) : Rat))) (Dt.det (n + 1) c) := by
      unfold Dt.det
      refine Bd.sm fun i hi => ?_
      have h1 := ((Bd.sgn (n + i)).mul (h n i (by omega) hi)).mul (Bd.det (M := M) (n := n) (c := fun j => skip i (c j)) fun j r hj hr => ?_)
      · have e : 1 * (M : Rat) * ((dN M n : Nat) : Rat) = (M : Rat) * ((dN M n : Nat) : Rat) := by grind
        rw [e] at h1
        exact h1
      · unfold skip
        split
        · exact h j r (by omega) (by omega)
        · exact h j (r + 1) (by omega) (by omega)
    have e : ((dN M (n + 1) : Nat) : Rat) = (n + 1 : Nat) * ((M : Nat) * ((dN M n : Nat) : Rat)) := by
      show (((n + 1) * (M * dN M n) : Nat) : Rat) = _
      push_cast
      rfl
    rw [e]
    exact key
theorem dN_pow {z : Nat} : ∀ n, n ≤ 15 → dN (2 ^ z) n ≤ 2 ^ (n * (z + 4))
  | 0, _ => by show 1 ≤ 2 ^ (0 * (z + 4)); rw [Nat.zero_mul]; exact Nat.le_refl _
  | n + 1, h => by
    have ih := dN_pow (z := z) n (by omega)
    show (n + 1) * (2 ^ z * dN (2 ^ z) n) ≤ _
    have h1 : (n + 1) ≤ 2 ^ 4 := by omega
    have h2 : 2 ^ z * dN (2 ^ z) n ≤ 2 ^ z * 2 ^ (n * (z + 4)) := Nat.mul_le_mul_left _ ih
    have h3 := Nat.mul_le_mul h1 h2
    have e : 2 ^ 4 * (2 ^ z * 2 ^ (n * (z + 4))) = 2 ^ ((n + 1) * (z + 4)) := by
      rw [← Nat.pow_add, ← Nat.pow_add]
      congr 1
      rw [Nat.add_mul]; omega
    rw [e] at h3
    exact h3
theorem Bd.mono {a b : Nat} {x : Rat} (h : Bd (a : Nat) x) (hab : a ≤ b) : Bd (b : Nat) x := by
  have h1 : ((a : Nat) : Rat) ≤ ((b : Nat) : Rat) := by exact_mod_cast hab
  have := h.1; have := h.2
  constructor <;> grind
theorem Bar.sz {n k z : Nat} {A T : Nat → Nat → Rat} {d : Rat} (b : Bar n k A T d) (hk : k ≤ n) (hn : n ≤ 15) (hA : ∀ l j, l < n → j ≤ n → Bd ((2 ^ z : Nat) : Rat) (A l j)) {i j : Nat} (hi : i < n) (hj : j ≤ n) : Bd ((2 ^ (n * (z + 4)) : Nat) : Rat) (T i j) := by
  have up : ∀ s, s ≤ n → dN (2 ^ z) s ≤ 2 ^ (n * (z + 4)) := fun s hs => Nat.le_trans (dN_pow s (by omega)) (Nat.pow_le_pow_right (by decide) (Nat.mul_le_mul_right _ hs))
  by_cases h : i < k
  · rw [b.top hk h hj]
    refine (Bd.det fun q r hq hr => ?_).mono (up k hk)
    unfold setc
    split
    · exact hA r j (by omega) hj
    · exact hA r q (by omega) (by omega)
  · rw [b.bot (by omega) hi hj]
    refine (Bd.det fun q r hq hr => ?_).mono (up (k + 1) (by omega))
    show Bd _ (A (if r < k then r else i) (if q < k then q else j))
    exact hA _ _ (by split <;> omega) (by split <;> omega)
theorem Bar.congr {n k : Nat} {A T T' : Nat → Nat → Rat} {d : Rat} (b : Bar n k A T d) (hk : k ≤ n) (h : ∀ i j, i < n → j ≤ n → T' i j = T i j) : Bar n k A T' d :=
  ⟨b.d0, b.dd, fun i m hi hm => by rw [h i m (by omega) (by omega)]; exact b.id1 i m hi hm, fun i m hi hin hm => by rw [h i m hin (by omega)]; exact b.id2 i m hi hin hm, fun l j hl hj => by
    rw [b.rel l j hl hj, sm_congr (g := fun m => A l m * T' m j) fun m hm => by rw [h m j (by omega) hj]]
    congr 1
    split
    · rw [h l j hl hj]
    · rfl⟩
noncomputable def castM (F : Nat → Nat → Int) : Nat → Nat → Rat := fun i j => ((F i j : Int) : Rat)
noncomputable def nxtI (T : Nat → Nat → Int) (k : Nat) (d : Int) : Nat → Nat → Int := fun i j => if i = k then T k j else (T k k * T i j - T i k * T k j).fdiv d
theorem Bar.stepI {n k : Nat} {A T : Nat → Nat → Int} {d : Int} (b : Bar n k (castM A) (castM T) ((d : Int) : Rat)) (hk : k < n) (hp : T k k ≠ 0) : Bar n (k + 1) (castM A) (castM (nxtI T k d)) ((T k k : Int) : Rat) ∧ ∀ i j, i < n → j ≤ n → i ≠ k → nxtI T k d i j * d = T k k * T i j - T i k * T k j := by
  have hp' : castM T k k ≠ 0 := fun z => hp (by have : ((T k k : Int) : Rat) = ((0 : Int) : Rat) := z; exact_mod_cast this)
  have s := b.step hk hp'
  have hd0 : d ≠ 0 := fun z => b.d0 (by rw [z]; rfl)
  have ev : ∀ i j, i < n → j ≤ n → i ≠ k → nxtI T k d i j * d = T k k * T i j - T i k * T k j ∧ ((nxtI T k d i j : Int) : Rat) = nxt (castM T) k d i j := fun i j hi hj hne => by
    obtain ⟨z, hz⟩ := s.whole (by omega) (fun l j _ _ => ⟨A l j, rfl⟩) hi hj
    have e1 : nxt (castM T) k ((d : Int) : Rat) i j = (castM T k k * castM T i j - castM T i k * castM T k j) / ((d : Int) : Rat) := by unfold nxt; rw [if_neg hne]
    have e2 : T k k * T i j - T i k * T k j = z * d := by
      have h1 : castM T k k * castM T i j - castM T i k * castM T k j = ((z : Int) : Rat) * ((d : Int) : Rat) := by
        rw [e1] at hz
        have := b.d0
        grind
      have h2 : ((T k k * T i j - T i k * T k j : Int) : Rat) = ((z * d : Int) : Rat) := by
        rw [Rat.intCast_sub, Rat.intCast_mul, Rat.intCast_mul, Rat.intCast_mul]
        exact h1
      exact_mod_cast h2
    have e3 : nxtI T k d i j = z := by
      unfold nxtI
      rw [if_neg hne, e2, Int.mul_fdiv_cancel _ hd0]
    exact ⟨by rw [e3, e2], by rw [e3, hz]⟩
  refine ⟨s.congr (by omega) fun i j hi hj => ?_, fun i j hi hj hne => (ev i j hi hj hne).1⟩
  by_cases e : i = k
  · show ((nxtI T k d i j : Int) : Rat) = _
    unfold nxtI nxt
    rw [if_pos e, if_pos e]; rfl
  · exact (ev i j hi hj e).2
set_option genInjectivity false in
set_option genSizeOf false in
structure Eqv (n : Nat) (A B : Nat → Nat → Rat) : Prop where
  dt : det n (cl A) = 0 ↔ det n (cl B) = 0
  an : ∀ x : Nat → Rat, (∀ l, l < n → sm n (fun m => A l m * x m) = A l n) ↔ ∀ l, l < n → sm n (fun m => B l m * x m) = B l n
theorem Eqv.refl (n : Nat) (A : Nat → Nat → Rat) : Eqv n A A := ⟨Iff.rfl, fun _ => Iff.rfl⟩
theorem Eqv.trans {n : Nat} {A B C : Nat → Nat → Rat} (h : Eqv n A B) (h' : Eqv n B C) : Eqv n A C := ⟨h.dt.trans h'.dt, fun x => (h.an x).trans (h'.an x)⟩
theorem swp_at {α : Type} {n p q : Nat} (hp : p < n) (hq : q < n) (F : Nat → α) (l : Nat) (hl : l < n) : ∃ l', l' < n ∧ swp F p q l = F l' := by
  unfold swp
  by_cases e : l = p
  · exact ⟨q, hq, by rw [if_pos e]⟩
  · by_cases e2 : l = q
    · exact ⟨p, hp, by rw [if_neg e, if_pos e2]⟩
    · exact ⟨l, hl, by rw [if_neg e, if_neg e2]⟩
theorem swp_from {α : Type} {n p q : Nat} (hp : p < n) (hq : q < n) (F : Nat → α) (l : Nat) (hl : l < n) : ∃ l', l' < n ∧ swp F p q l' = F l := by
  unfold swp
  by_cases e : l = p
  · refine ⟨q, hq, ?_⟩
    by_cases e2 : q = p
    · rw [if_pos e2, e, e2]
    · rw [if_neg e2, if_pos rfl, e]
  · by_cases e2 : l = q
    · exact ⟨p, hp, by rw [if_pos rfl, e2]⟩
    · exact ⟨l, hl, by rw [if_neg e, if_neg e2]⟩
theorem Eqv.swap {n p q : Nat} (hp : p < n) (hq : q < n) (A : Nat → Nat → Rat) : Eqv n A (swp A p q) := by
  refine ⟨?_, fun x => ⟨fun h l hl => ?_, fun h l hl => ?_⟩⟩
  · by_cases e : p = q
    · subst e
      have : swp A p p = A := by
        funext i; unfold swp
        by_cases h : i = p
        · rw [if_pos h, h]
        · rw [if_neg h, if_neg h]
      rw [this]
    · rw [det_rswap hp hq e A]
      constructor <;> intro h <;> grind
  · obtain ⟨l', h1, h2⟩ := swp_at hp hq A l hl
    rw [h2]; exact h l' h1
  · obtain ⟨l', h1, h2⟩ := swp_from hp hq A l hl
    have := h l' h1
    rw [h2] at this; exact this
theorem det_scale {n : Nat} {R : Nat → Nat → Rat} {L : Nat → Rat} (hL : ∀ l, l < n → L l ≠ 0) : det n (cl R) = 0 ↔ det n (cl fun l j => L l * R l j) = 0 := by
  have key : ∀ k, k ≤ n → (det n (cl R) = 0 ↔ det n (cl fun l j => (if l < k then L l else 1) * R l j) = 0) := by
    intro k
    induction k with
    | zero =>
      intro _
      have : det n (cl fun l j => (if l < 0 then L l else 1) * R l j) = det n (cl R) := det_congr fun j r _ _ => by
        show (if r < 0 then L r else 1) * R r j = R r j
        rw [if_neg (by omega)]; grind
      rw [this]
    | succ k ih =>
      intro hk
      rw [ih (by omega)]
      have e : det n (cl fun l j => (if l < k + 1 then L l else 1) * R l j) = det n (setr (cl fun l j => (if l < k then L l else 1) * R l j) k fun j => L k * (R k j) + 0 * R k j) := det_congr fun j r _ _ => by
        unfold setr
        show (if r < k + 1 then L r else 1) * R r j = if r = k then _ else (if r < k then L r else 1) * R r j
        by_cases h : r = k
        · rw [if_pos h, if_pos (by omega), h]; grind
        · rw [if_neg h]
          by_cases h2 : r < k
          · rw [if_pos h2, if_pos (by omega)]
          · rw [if_neg h2, if_neg (by omega)]
      have e2 : det n (setr (cl fun l j => (if l < k then L l else 1) * R l j) k fun j => R k j) = det n (cl fun l j => (if l < k then L l else 1) * R l j) := det_congr fun j r _ _ => by
        unfold setr
        by_cases h : r = k
        · rw [if_pos h]
          show R k j = (if r < k then L r else 1) * R r j
          rw [if_neg (by omega), h]; grind
        · rw [if_neg h]
      rw [e, det_rlin (L k) 0 (by omega), e2]
      have := hL k (by omega)
      constructor <;> intro h <;> grind
  have h := key n (Nat.le_refl _)
  have e : det n (cl fun l j => (if l < n then L l else 1) * R l j) = det n (cl fun l j => L l * R l j) := det_congr fun j r _ hr => by
    show (if r < n then L r else 1) * R r j = L r * R r j
    rw [if_pos hr]
  rw [e] at h
  exact h
theorem meets_scale {n : Nat} {R : Nat → Nat → Rat} {L : Nat → Rat} (hL : ∀ l, l < n → L l ≠ 0) (x : Nat → Rat) : (∀ l, l < n → sm n (fun m => R l m * x m) = R l n) ↔ ∀ l, l < n → sm n (fun m => (L l * R l m) * x m) = L l * R l n := by
  constructor
  · intro h l hl
    rw [← h l hl, ← sm_mul]
    exact sm_congr fun m _ => by grind
  · intro h l hl
    have h1 := h l hl
    have e : sm n (fun m => L l * R l m * x m) = L l * sm n (fun m => R l m * x m) := by rw [← sm_mul]; exact sm_congr fun m _ => by grind
    rw [e] at h1
    have := hL l hl
    grind
end Dt

set_option Elab.async false
set_option linter.all false
namespace Dt
end Dt

set_option Elab.async false
set_option linter.all false
set_option maxRecDepth 100000
namespace Internal
open PySem PySem.Spec PyProof.Rows
theorem bd_sz {x : Int} {z : Nat} (h : Dt.Bd ((2 ^ z : Nat) : Rat) ((x : Int) : Rat)) : sz x ≤ z + 1 := by
  have h1 : ((x : Int) : Rat) ≤ (((2 ^ z : Nat) : Int) : Rat) := h.2
  have h2 : -((((2 ^ z : Nat) : Int) : Rat)) ≤ ((x : Int) : Rat) := h.1
  rw [← Rat.intCast_neg] at h2
  have h1' : x ≤ ((2 ^ z : Nat) : Int) := by exact_mod_cast h1
  have h2' : -((2 ^ z : Nat) : Int) ≤ x := by exact_mod_cast h2
  refine sz_of ?_
  rw [Nat.pow_succ]
  have : 0 < 2 ^ z := Nat.two_pow_pos z
  omega
theorem sz_bd {x : Int} {z : Nat} (h : sz x ≤ z) : Dt.Bd ((2 ^ z : Nat) : Rat) ((x : Int) : Rat) := by
  have h1 := sz_le.mp h
  have a1 : ((x : Int) : Rat) ≤ (((2 ^ z : Nat) : Int) : Rat) := by
    have : x ≤ ((2 ^ z : Nat) : Int) := by omega
    exact_mod_cast this
  have a2 : -((((2 ^ z : Nat) : Int) : Rat)) ≤ ((x : Int) : Rat) := by
    rw [← Rat.intCast_neg]
    have : -((2 ^ z : Nat) : Int) ≤ x := by omega
    exact_mod_cast this
  exact ⟨a2, a1⟩
theorem lcm_step {c b : Int} (hc : 0 < c) (hb : 0 < b) : 0 < c / My.gc c b * b ∧ c ∣ c / My.gc c b * b ∧ b ∣ c / My.gc c b * b ∧ c / My.gc c b * b ≤ c * b := by
  have hg : 0 < My.gc c b := My.gc_pos_right (by omega)
  obtain ⟨u, hu⟩ := My.gc_dvd_left c b
  obtain ⟨v, hv⟩ := My.gc_dvd_right c b
  have e : c / My.gc c b = u := by
    have : c / My.gc c b = (My.gc c b * u) / My.gc c b := by rw [← hu]
    rw [this]; exact Int.mul_ediv_cancel_left _ (by omega)
  have hu0 : 0 < u := by
    rcases Int.lt_or_le 0 u with h | h
    · exact h
    · have := Int.mul_nonpos_of_nonneg_of_nonpos (Int.le_of_lt hg) h; omega
  rw [e]
  refine ⟨Int.mul_pos hu0 hb, ⟨v, ?_⟩, ⟨u, Int.mul_comm _ _⟩, ?_⟩
  · calc u * b = u * (My.gc c b * v) := by rw [← hv]
      _ = (My.gc c b * u) * v := by rw [Int.mul_comm (My.gc c b) u, Int.mul_assoc]
      _ = c * v := by rw [← hu]
  · have : u ≤ c := by
      have h1 : 1 * u ≤ My.gc c b * u := Int.mul_le_mul_of_nonneg_right (by omega) (by omega)
      omega
    exact Int.mul_le_mul_of_nonneg_right this (by omega)
noncomputable def spWholeRow (K : PySem.W.Frag) (z1 zb : Nat) : Sp := fun vs H Q _ => ∃ (a : Addr) (ws : List V) (qs : List Rat), vs = [.ref a] ∧ H a = some (.lst ws) ∧ IsQs H ws qs ∧ qs.length ≤ 20 ∧ (∀ q ∈ qs, SzQ q z1 zb) ∧ 20 * zb ≤ 8000 ∧ z1 ≤ 100000 ∧ 1 ≤ zb ∧
  ∀ p H' (F : Nat → Int) (L : Int), H p = none → Same H H' → 0 < L → (∀ j q, qs[j]? = some q → ((F j : Int) : Rat) = ((L : Int) : Rat) * q ∧ sz (F j) ≤ z1 + qs.length * zb) → H' p = some (.lst ((vec qs.length F).map V.int)) → Q (.ref p) H'
theorem spWholeRow_i {K : PySem.W.Frag} {z1 zb : Nat} {a : Addr} {ws : List V} {qs : List Rat} {H : Hp} {Q : VK} {E : XK} (h : H a = some (.lst ws)) (hq : IsQs H ws qs) (hl : qs.length ≤ 20) (hz : ∀ q ∈ qs, SzQ q z1 zb) (h1 : 20 * zb ≤ 8000) (h2 : z1 ≤ 100000) (h3 : 1 ≤ zb)
  (k : ∀ p H' (F : Nat → Int) (L : Int), H p = none → Same H H' → 0 < L → (∀ j q, qs[j]? = some q → ((F j : Int) : Rat) = ((L : Int) : Rat) * q ∧ sz (F j) ≤ z1 + qs.length * zb) → H' p = some (.lst ((vec qs.length F).map V.int)) → Q (.ref p) H') : spWholeRow K z1 zb [.ref a] H Q E := ⟨a, ws, qs, rfl, h, hq, hl, hz, h1, h2, h3, k⟩
theorem nodup_of {as : List Addr} (h : ∀ i j, i < j → j < as.length → as[i]? ≠ as[j]?) : as.Nodup := by
  rw [List.Nodup, List.pairwise_iff_getElem]
  intro i j hi hj hij e
  exact h i j hij hj (by rw [List.getElem?_eq_getElem hi, List.getElem?_eq_getElem hj, e])
noncomputable def swpL (as : List Addr) (p q : Nat) (a b : Addr) : List Addr := (as.set p b).set q a
theorem swpL_rows {H : Hp} {as : List Addr} {k p q : Nat} {F : Nat → Nat → Int} {a b : Addr} (h : Rows H as k F) (ha : as[p]? = some a) (hb : as[q]? = some b) : Rows H (swpL as p q a b) k (Dt.swp F p q) := by
  have hp : p < as.length := (List.getElem?_eq_some_iff.mp ha).1
  have hq : q < as.length := (List.getElem?_eq_some_iff.mp hb).1
  have get : ∀ i, (swpL as p q a b)[i]? = if i = q then some a else if i = p then some b else as[i]? := fun i => by
    unfold swpL
    rw [List.getElem?_set]
    by_cases e : q = i
    · rw [if_pos e, if_pos e.symm, if_pos (by rw [List.length_set]; exact hq)]
    · rw [if_neg e, if_neg (fun z => e z.symm), List.getElem?_set]
      by_cases e2 : p = i
      · rw [if_pos e2, if_pos e2.symm, if_pos hp]
      · rw [if_neg e2, if_neg (fun z => e2 z.symm)]
  refine ⟨?_, fun i c hc => ?_⟩
  · refine nodup_of ?_
    intro i j hij hj
    have hlen : (swpL as p q a b).length = as.length := by unfold swpL; rw [List.length_set, List.length_set]
    rw [hlen] at hj
    rw [get, get]
    have ne : ∀ x y, x ≠ y → x < as.length → y < as.length → as[x]? ≠ as[y]? := fun x y hxy hx hy w => by
      obtain ⟨c, hc⟩ : ∃ c, as[x]? = some c := ⟨_, List.getElem?_eq_getElem hx⟩
      exact hxy (nodup_get h.1 hc (w ▸ hc))
    have nd : ∀ x y, x < y → y < as.length → as[x]? ≠ as[y]? := fun x y h hy => ne x y (by omega) (by omega) hy
    by_cases e1 : i = q
    · rw [if_pos e1, if_neg (by omega)]
      by_cases e2 : j = p
      · rw [if_pos e2, ← ha, ← hb]
        by_cases e3 : p = q
        · omega
        · exact ne p q e3 hp hq
      · rw [if_neg e2, ← ha]
        exact ne p j (fun z => e2 z.symm) hp hj
    · rw [if_neg e1]
      by_cases e2 : i = p
      · rw [if_pos e2]
        by_cases e3 : j = q
        · rw [if_pos e3, ← ha, ← hb]
          exact ne q p (by omega) hq hp
        · rw [if_neg e3, if_neg (by omega), ← hb]
          exact ne q j (fun z => e3 z.symm) hq hj
      · rw [if_neg e2]
        by_cases e3 : j = q
        · rw [if_pos e3, ← ha]
          exact ne i p e2 (by omega) hp
        · rw [if_neg e3]
          by_cases e4 : j = p
          · rw [if_pos e4, ← hb]; exact ne i q e1 (by omega) hq
          · rw [if_neg e4]; exact nd i j hij hj
  · rw [get] at hc
    unfold Dt.swp
    by_cases e1 : i = q
    · rw [if_pos e1] at hc; cases hc
      by_cases e2 : i = p
      · rw [if_pos e2]
        have : p = q := by omega
        subst this
        exact h.2 _ _ ha
      · rw [if_neg e2, if_pos e1]; exact h.2 _ _ ha
    · rw [if_neg e1] at hc
      by_cases e2 : i = p
      · rw [if_pos e2] at hc ⊢; cases hc
        exact h.2 _ _ hb
      · rw [if_neg e2] at hc ⊢
        rw [if_neg e1]
        exact h.2 _ _ hc
noncomputable def spWithFirst (K : PySem.W.Frag) (C : Addr) : Sp := fun vs H Q E => ∃ (a : Addr) (as : List Addr) (w : Nat) (T : Nat → Nat → Int) (k : Int), vs = [.ref a, .int k] ∧ H a = some (.lst (as.map V.ref)) ∧ Rows H as w T ∧ 0 ≤ k ∧ k < as.length ∧ k < w ∧ as.length ≤ 20 ∧
  ((∀ i, k.toNat ≤ i → i < as.length → T i k.toNat = 0) → ∀ H', Same H H' → E (.ref C) none H') ∧
  (∀ p H' as' i, k.toNat ≤ i → i < as.length → T i k.toNat ≠ 0 → H p = none → Same H H' → H' p = some (.lst (as'.map V.ref)) → as'.length = as.length → (∀ b ∈ as', b ∈ as) → Rows H' as' w (Dt.swp T k.toNat i) → Q (.ref p) H')
theorem spWithFirst_i {K : PySem.W.Frag} {C : Addr} {a : Addr} {as : List Addr} {w : Nat} {T : Nat → Nat → Int} {k : Int} {H : Hp} {Q : VK} {E : XK} (h1 : H a = some (.lst (as.map V.ref))) (h2 : Rows H as w T) (k0 : 0 ≤ k) (k1 : k < as.length) (k2 : k < w) (hl : as.length ≤ 20)
  (q0 : (∀ i, k.toNat ≤ i → i < as.length → T i k.toNat = 0) → ∀ H', Same H H' → E (.ref C) none H')
  (q1 : ∀ p H' as' i, k.toNat ≤ i → i < as.length → T i k.toNat ≠ 0 → H p = none → Same H H' → H' p = some (.lst (as'.map V.ref)) → as'.length = as.length → (∀ b ∈ as', b ∈ as) → Rows H' as' w (Dt.swp T k.toNat i) → Q (.ref p) H') : spWithFirst K C [.ref a, .int k] H Q E := ⟨a, as, w, T, k, rfl, h1, h2, k0, k1, k2, hl, q0, q1⟩
noncomputable def spSweptRow (K : PySem.W.Frag) : Sp := fun vs H Q _ => ∃ (a b : Addr) (w : Nat) (f g : Nat → Int) (k d : Int), vs = [.ref a, .ref b, .int k, .int d] ∧ H a = some (.lst ((vec w f).map V.int)) ∧ H b = some (.lst ((vec w g).map V.int)) ∧ 0 ≤ k ∧ k < w ∧ w ≤ 20 ∧ d ≠ 0 ∧ sz d ≤ 9000 ∧ (∀ j, j < w → sz (f j) ≤ 9000 ∧ sz (g j) ≤ 9000) ∧
  ∀ p H', H p = none → Same H H' → H' p = some (.lst ((vec w fun j => (g k.toNat * f j - f k.toNat * g j).fdiv d).map V.int)) → Q (.ref p) H'
theorem spSweptRow_i {K : PySem.W.Frag} {a b : Addr} {w : Nat} {f g : Nat → Int} {k d : Int} {H : Hp} {Q : VK} {E : XK} (h1 : H a = some (.lst ((vec w f).map V.int))) (h2 : H b = some (.lst ((vec w g).map V.int))) (k0 : 0 ≤ k) (k1 : k < w) (hw : w ≤ 20) (d0 : d ≠ 0) (hd : sz d ≤ 9000) (hz : ∀ j, j < w → sz (f j) ≤ 9000 ∧ sz (g j) ≤ 9000)
  (q : ∀ p H', H p = none → Same H H' → H' p = some (.lst ((vec w fun j => (g k.toNat * f j - f k.toNat * g j).fdiv d).map V.int)) → Q (.ref p) H') : spSweptRow K [.ref a, .ref b, .int k, .int d] H Q E := ⟨a, b, w, f, g, k, d, rfl, h1, h2, k0, k1, hw, d0, hd, hz, q⟩
noncomputable def spSwept (K : PySem.W.Frag) : Sp := fun vs H Q _ => ∃ (a : Addr) (as : List Addr) (w : Nat) (T : Nat → Nat → Int) (k d : Int), vs = [.ref a, .int k, .int d] ∧ H a = some (.lst (as.map V.ref)) ∧ Rows H as w T ∧ 0 ≤ k ∧ k < as.length ∧ k < w ∧ w ≤ 20 ∧ as.length ≤ 20 ∧ d ≠ 0 ∧ sz d ≤ 9000 ∧ (∀ i j, i < as.length → j < w → sz (T i j) ≤ 9000) ∧
  ∀ p H' as', H p = none → Same H H' → H' p = some (.lst (as'.map V.ref)) → as'.length = as.length → Rows H' as' w (Dt.nxtI T k.toNat d) → Q (.ref p) H'
theorem spSwept_i {K : PySem.W.Frag} {a : Addr} {as : List Addr} {w : Nat} {T : Nat → Nat → Int} {k d : Int} {H : Hp} {Q : VK} {E : XK} (h1 : H a = some (.lst (as.map V.ref))) (h2 : Rows H as w T) (k0 : 0 ≤ k) (k1 : k < as.length) (k2 : k < w) (hw : w ≤ 20) (hl : as.length ≤ 20) (d0 : d ≠ 0) (hd : sz d ≤ 9000) (hz : ∀ i j, i < as.length → j < w → sz (T i j) ≤ 9000)
  (q : ∀ p H' as', H p = none → Same H H' → H' p = some (.lst (as'.map V.ref)) → as'.length = as.length → Rows H' as' w (Dt.nxtI T k.toNat d) → Q (.ref p) H') : spSwept K [.ref a, .int k, .int d] H Q E := ⟨a, as, w, T, k, d, rfl, h1, h2, k0, k1, k2, hw, hl, d0, hd, hz, q⟩
set_option genInjectivity false in
set_option genSizeOf false in
structure Sys (H : Hp) (a b : Addr) (n : Nat) (R : Nat → Nat → Rat) : Prop where
  rows : ∃ as : List Addr, H a = some (.lst (as.map V.ref)) ∧ as.length = n ∧ ∀ (l : Nat) (c : Addr), as[l]? = some c → ∃ ws, H c = some (.lst ws) ∧ IsQs H ws ((List.range n).map (R l))
  side : ∃ ws, H b = some (.lst ws) ∧ IsQs H ws ((List.range n).map fun l => R l n)
noncomputable def spSolved (K : PySem.W.Frag) (C : Addr) (z1 zb : Nat) : Sp := fun vs H Q E => ∃ (a b : Addr) (n : Nat) (R : Nat → Nat → Rat), vs = [.ref a, .ref b] ∧ Sys H a b n R ∧ 1 ≤ n ∧ n ≤ 9 ∧ (∀ l j, l < n → j ≤ n → SzQ (R l j) z1 zb) ∧ 1 ≤ zb ∧ 20 * zb ≤ 8000 ∧ z1 ≤ 100000 ∧ n * (z1 + (n + 1) * zb + 4) ≤ 8990 ∧
  (Dt.det n (Dt.cl R) = 0 → ∀ H', Same H H' → E (.ref C) none H') ∧
  (Dt.det n (Dt.cl R) ≠ 0 → ∀ p H' vs (x : Nat → Rat), H p = none → Same H H' → H' p = some (.lst vs) → IsQs H' vs ((List.range n).map x) → (∀ l, l < n → Dt.sm n (fun m => R l m * x m) = R l n) → (∀ m, m < n → SzQ (x m) (n * (z1 + (n + 1) * zb + 4) + 1) (n * (z1 + (n + 1) * zb + 4) + 1)) → Q (.ref p) H')
theorem spSolved_i {K : PySem.W.Frag} {C : Addr} {z1 zb : Nat} {a b : Addr} {n : Nat} {R : Nat → Nat → Rat} {H : Hp} {Q : VK} {E : XK} (h : Sys H a b n R) (n0 : 1 ≤ n) (n1 : n ≤ 9) (hz : ∀ l j, l < n → j ≤ n → SzQ (R l j) z1 zb) (h1 : 1 ≤ zb) (h2 : 20 * zb ≤ 8000) (h3 : z1 ≤ 100000) (h4 : n * (z1 + (n + 1) * zb + 4) ≤ 8990)
  (q0 : Dt.det n (Dt.cl R) = 0 → ∀ H', Same H H' → E (.ref C) none H')
  (q1 : Dt.det n (Dt.cl R) ≠ 0 → ∀ p H' vs (x : Nat → Rat), H p = none → Same H H' → H' p = some (.lst vs) → IsQs H' vs ((List.range n).map x) → (∀ l, l < n → Dt.sm n (fun m => R l m * x m) = R l n) → (∀ m, m < n → SzQ (x m) (n * (z1 + (n + 1) * zb + 4) + 1) (n * (z1 + (n + 1) * zb + 4) + 1)) → Q (.ref p) H') : spSolved K C z1 zb [.ref a, .ref b] H Q E := ⟨a, b, n, R, rfl, h, n0, n1, hz, h1, h2, h3, h4, q0, q1⟩
end Internal

set_option Elab.async false
set_option linter.all false
set_option maxRecDepth 100000
namespace Internal
open PySem PySem.Spec PyProof.Rows
section
variable {X : Cx} {pins : List (Addr × Obj)} {s s' : Shared} {σ : St} {H H' : Hp} {pos : Pos}
end
end Internal

set_option Elab.async false
set_option linter.all false
set_option maxRecDepth 100000
namespace Internal
open PySem PySem.Spec PyProof.Rows
theorem num_den (q : Rat) : ((q.num : Int) : Rat) = q * (((q.den : Nat) : Int) : Rat) := by
  have e1 : ((q.num : Int) : Rat) / (((q.den : Nat) : Int) : Rat) = q := by rw [← Rat.divInt_eq_div]; exact Rat.num_divInt_den q
  have hne : (((q.den : Nat) : Int) : Rat) ≠ 0 := fun z => by
    have h1 : ((q.den : Nat) : Int) = 0 := by exact_mod_cast z
    have := den_pos q
    omega
  have := Rat.div_mul_cancel (a := ((q.num : Int) : Rat)) hne
  rw [e1] at this; exact this.symm
theorem x_nePP {K : PySem.W.Frag} {H : Hp} {Q : VK} {a b : Addr} {as bs : List Addr} {F : Nat → List Rat} (h1 : H a = some (.lst (as.map V.ref))) (h2 : H b = some (.lst (bs.map V.ref))) (p1 : PRows H as F) (p2 : PRows H bs F) (hl : as.length = bs.length) (q : Q (.bl false) H) : rNeU K (.ref a) (.ref b) H Q := by
  have r1 := PRows.rep (K := K) 0 (F := F) (fun m a ha => by rw [Nat.zero_add]; exact p1.2 m a ha)
  have r2 := PRows.rep (K := K) 0 (F := F) (fun m a ha => by rw [Nat.zero_add]; exact p2.2 m a ha)
  rw [← hl] at r2
  have hdep : ∀ l : List Nat, PyData.depthAll (l.map fun m => PyData.list ((F (0 + m)).map dQ)) ≤ 2 := by
    intro l
    induction l with
    | nil => exact Nat.zero_le _
    | cons x xs ih =>
      rw [List.map_cons, PyData.depthAll, depth_list]
      have := depthAllQ (F (0 + x))
      omega
  refine x_neD (.lst (SqL.of h1) r1) (.lst (SqL.of h2) r2) (by have := hdep (List.range as.length); rw [depth_list]; omega) ?_
  rw [PySem.SeqAt.eqv_refl _ (by rw [PyData.canLay0]; exact RepAll.lay r1)]
  exact q
theorem PRows.put {H : Hp} {as : List Addr} {F : Nat → List Rat} {j : Nat} {p : Addr} {vs : List V} {G : List Rat} (h : PRows H as F) (n : p ∉ as) (hp : H p = some (.lst vs)) (hv : IsQs H vs G) : PRows H (as.set j p) (fun m => if m = j then G else F m) := by
  refine ⟨nodup_of fun x y hxy hy => ?_, fun m a hm => ?_⟩
  · rw [List.length_set] at hy
    have g : ∀ z, z < as.length → (as.set j p)[z]? = if j = z then some p else as[z]? := fun z hz => by
      rw [List.getElem?_set]
      split
      · rename_i e; rw [if_pos (by omega)]
      · rfl
    rw [g x (by omega), g y hy]
    have hx' : x < as.length := by omega
    by_cases e1 : j = x
    · rw [if_pos e1, if_neg (by omega)]
      intro z
      exact n (List.mem_of_getElem? z.symm)
    · rw [if_neg e1]
      by_cases e2 : j = y
      · rw [if_pos e2]
        intro z
        exact n (List.mem_of_getElem? z)
      · rw [if_neg e2]
        intro z
        obtain ⟨c, hc⟩ : ∃ c, as[x]? = some c := ⟨_, List.getElem?_eq_getElem hx'⟩
        have := nodup_get h.1 hc (z ▸ hc)
        omega
  · rw [List.getElem?_set] at hm
    by_cases e : j = m
    · rw [if_pos e] at hm
      split at hm
      · cases hm
        exact ⟨vs, hp, by dsimp only; rw [if_pos e.symm]; exact hv⟩
      · cases hm
    · rw [if_neg e] at hm
      dsimp only
      rw [if_neg (fun z => e z.symm)]
      exact h.2 m a hm
theorem IsQs.setQ {H : Hp} {p : Addr} {q : Rat} (hp : IsQ H p q) : ∀ {vs : List V} {qs : List Rat} (j : Nat), IsQs H vs qs → IsQs H (vs.set j (.ref p)) (qs.set j q)
  | [], [], j, h => by cases j <;> exact h
  | _ :: _, [], _, h => by simp [IsQs] at h
  | [], _ :: _, _, h => by simp [IsQs] at h
  | v :: vs, r :: rs, 0, h => ⟨⟨p, rfl, hp⟩, h.2⟩
  | v :: vs, r :: rs, j + 1, h => ⟨h.1, IsQs.setQ hp (vs := vs) (qs := rs) j h.2⟩
theorem set_rng {n j : Nat} {g : Nat → Rat} {q : Rat} : ((List.range n).map g).set j q = (List.range n).map fun m => if m = j then q else g m := by
  apply List.ext_getElem?
  intro i
  rw [List.getElem?_set, List.getElem?_map, List.getElem?_map, List.length_map, List.length_range]
  by_cases h : i < n
  · rw [List.getElem?_range h]
    by_cases e : j = i
    · subst e; rw [if_pos rfl, if_pos h]; show _ = some (if j = j then q else g j); rw [if_pos rfl]
    · rw [if_neg e]; show some (g i) = some (if i = j then q else g i); rw [if_neg (fun z => e z.symm)]
  · rw [List.getElem?_eq_none (by rw [List.length_range]; omega)]
    by_cases e : j = i
    · rw [if_pos e, if_neg (by omega)]; rfl
    · rw [if_neg e]; rfl
end Internal

set_option Elab.async false
set_option linter.all false
namespace Dt
theorem tri_det : ∀ {n : Nat} {T : Nat → Nat → Rat}, (∀ l j, l < j → j < n → T l j = 0) → (∀ l, l < n → T l l ≠ 0) → det n (cl T) ≠ 0
  | 0, _, _, _ => by
    show (1 : Rat) ≠ 0
    decide
  | n + 1, T, h, hd => by
    have ih : det n (cl T) ≠ 0 := tri_det (fun l j hl hj => h l j hl (by omega)) fun l hl => hd l (by omega)
    unfold det
    rw [sm_one (i := n) (by omega) fun i hi hne => by
      show sgn (n + i) * T i n * _ = 0
      rw [h i n (by omega) (by omega)]; grind]
    have e : det n (fun j => skip n (cl T j)) = det n (cl T) := det_congr fun j r _ hr => by
      show skip n (cl T j) r = cl T j r
      unfold skip; rw [if_pos hr]
    rw [e]
    have s : sgn (n + n) = 1 := by
      have : ∀ m, sgn (m + m) = 1 := by
        intro m
        induction m with
        | zero => rfl
        | succ m ih =>
          rw [show m + 1 + (m + 1) = m + m + 1 + 1 by omega, show sgn (m + m + 1 + 1) = - -sgn (m + m) from rfl, ih]
          grind
      exact this n
    rw [s]
    have := hd n (by omega)
    show 1 * T n n * det n (cl T) ≠ 0
    intro z
    rcases Rat.mul_eq_zero.mp z with h1 | h1
    · exact this (by grind)
    · exact ih h1
theorem row_add {n p q : Nat} {A : Nat → Nat → Rat} {c : Rat} (hp : p < n) (hq : q < n) (hne : p ≠ q) : det n (cl fun l j => if l = p then A p j + c * A q j else A l j) = det n (cl A) := by
  have e1 : det n (cl fun l j => if l = p then A p j + c * A q j else A l j) = det n (setr (cl A) p fun j => 1 * A p j + c * A q j) := det_congr fun j r _ _ => by
    unfold setr
    show (if r = p then _ else A r j) = if r = p then _ else A r j
    by_cases h : r = p
    · rw [if_pos h, if_pos h]; grind
    · rw [if_neg h, if_neg h]
  have e2 : det n (setr (cl A) p fun j => A p j) = det n (cl A) := det_congr fun j r _ _ => by
    unfold setr
    by_cases h : r = p
    · rw [if_pos h, h]; rfl
    · rw [if_neg h]
  have e3 : det n (setr (cl A) p fun j => A q j) = 0 := det_row_eq hp hq hne fun j _ => by
    unfold setr
    rw [if_pos rfl, if_neg (fun z => hne z.symm)]; rfl
  rw [e1, det_rlin 1 c hp, e2, e3]
  grind
noncomputable def rowsOf (l : List (Nat → Rat)) : Nat → Nat → Rat := fun i => l.getD i fun _ => 0
theorem perm_det {l l' : List (Nat → Rat)} (h : l.Perm l') : ∀ pre : List (Nat → Rat), (det (pre ++ l).length (cl (rowsOf (pre ++ l))) = 0 ↔ det (pre ++ l').length (cl (rowsOf (pre ++ l'))) = 0) := by
  induction h with
  | nil => exact fun _ => Iff.rfl
  | @cons x l1 l2 _ ih =>
    intro pre
    have := ih (pre ++ [x])
    rw [List.append_assoc, List.append_assoc] at this
    exact this
  | @swap x y l =>
    intro pre
    have hl : (pre ++ x :: y :: l).length = (pre ++ y :: x :: l).length := by simp
    have e : cl (swp (rowsOf (pre ++ y :: x :: l)) pre.length (pre.length + 1)) = cl (rowsOf (pre ++ x :: y :: l)) := by
      have : swp (rowsOf (pre ++ y :: x :: l)) pre.length (pre.length + 1) = rowsOf (pre ++ x :: y :: l) := by
        funext i
        unfold swp rowsOf
        simp only [List.getD_eq_getElem?_getD]
        by_cases h1 : i = pre.length
        · subst h1
          rw [if_pos rfl, List.getElem?_append_right (by omega), List.getElem?_append_right (by omega), Nat.sub_self, show pre.length + 1 - pre.length = 1 by omega]; rfl
        · rw [if_neg h1]
          by_cases h2 : i = pre.length + 1
          · subst h2
            rw [if_pos rfl, List.getElem?_append_right (by omega), List.getElem?_append_right (by omega), Nat.sub_self, show pre.length + 1 - pre.length = 1 by omega]; rfl
          · rw [if_neg h2]
            rcases Nat.lt_or_ge i pre.length with h3 | h3
            · rw [List.getElem?_append_left h3, List.getElem?_append_left h3]
            · rw [List.getElem?_append_right h3, List.getElem?_append_right h3]
              obtain ⟨m, hm⟩ : ∃ m, i - pre.length = m + 2 := ⟨i - pre.length - 2, by omega⟩
              rw [hm]; rfl
      rw [this]
    have s := det_rswap (n := (pre ++ y :: x :: l).length) (p := pre.length) (q := pre.length + 1) (by simp) (by simp) (by omega) (rowsOf (pre ++ y :: x :: l))
    rw [e, ← hl] at s
    rw [← hl, s]
    constructor <;> intro h <;> grind
  | trans _ _ ih1 ih2 => exact fun pre => (ih1 pre).trans (ih2 pre)
end Dt

set_option Elab.async false
set_option linter.all false
set_option maxRecDepth 100000
namespace Internal
open PySem PySem.Spec PyProof.Rows
theorem plus_div (q r : Rat) : q + r = Rat.divInt (q.num * (r.den : Int) + r.num * (q.den : Int)) ((q.den : Int) * (r.den : Int)) := by
  have n1 := num_den q
  have n2 := num_den r
  rw [Rat.divInt_eq_div, Rat.intCast_add, Rat.intCast_mul, Rat.intCast_mul, Rat.intCast_mul, n1, n2]
  have d1 : (((q.den : Nat) : Int) : Rat) ≠ 0 := fun z => by
    have h1 : ((q.den : Nat) : Int) = 0 := by exact_mod_cast z
    have := den_pos q
    omega
  have d2 : (((r.den : Nat) : Int) : Rat) ≠ 0 := fun z => by
    have h1 : ((r.den : Nat) : Int) = 0 := by exact_mod_cast z
    have := den_pos r
    omega
  generalize (((q.den : Nat) : Int) : Rat) = x at *
  generalize (((r.den : Nat) : Int) : Rat) = y at *
  grind
theorem mul_div (c : Int) (q : Rat) : Rat.divInt (c * q.num) (q.den : Int) = ((c : Int) : Rat) * q := by
  have n1 := num_den q
  have d1 : (((q.den : Nat) : Int) : Rat) ≠ 0 := fun z => by
    have h1 : ((q.den : Nat) : Int) = 0 := by exact_mod_cast z
    have := den_pos q
    omega
  rw [Rat.divInt_eq_div, Rat.intCast_mul, n1]
  generalize (((q.den : Nat) : Int) : Rat) = x at *
  grind
theorem Rows.putL {H : Hp} {as : List Addr} {k : Nat} {F : Nat → Nat → Int} {f : Nat → Int} {j : Nat} {p : Addr} (h : Rows H as k F) (n : p ∉ as) (hp : H p = some (.lst ((vec k f).map V.int))) : Rows H (as.set j p) k (fun m => if m = j then f else F m) := by
  refine ⟨nodup_of fun x y hxy hy => ?_, fun m a hm => ?_⟩
  · rw [List.length_set] at hy
    have g : ∀ z, z < as.length → (as.set j p)[z]? = if j = z then some p else as[z]? := fun z hz => by
      rw [List.getElem?_set]
      split
      · rename_i e; rw [if_pos (by omega)]
      · rfl
    rw [g x (by omega), g y hy]
    have hx' : x < as.length := by omega
    by_cases e1 : j = x
    · rw [if_pos e1, if_neg (by omega)]
      intro z
      exact n (List.mem_of_getElem? z.symm)
    · rw [if_neg e1]
      by_cases e2 : j = y
      · rw [if_pos e2]
        intro z
        exact n (List.mem_of_getElem? z)
      · rw [if_neg e2]
        intro z
        obtain ⟨c, hc⟩ : ∃ c, as[x]? = some c := ⟨_, List.getElem?_eq_getElem hx'⟩
        have := nodup_get h.1 hc (z ▸ hc)
        omega
  · rw [List.getElem?_set] at hm
    by_cases e : j = m
    · rw [if_pos e] at hm
      split at hm
      · cases hm
        dsimp only
        rw [if_pos e.symm]; exact hp
      · cases hm
    · rw [if_neg e] at hm
      dsimp only
      rw [if_neg (fun z => e z.symm)]
      exact h.2 m a hm
theorem cut_at {as : List Addr} {j : Nat} (h : j ≤ as.length) : cutV (as.map V.ref) none (some (j : Int)) = (as.take j).map V.ref ∧ cutV (as.map V.ref) (some (j : Int)) none = (as.drop j).map V.ref := by
  constructor
  · unfold cutV
    rw [HT.sIx_nat, HT.sIx_none, List.length_map, Nat.min_eq_left h, ← List.map_drop, ← List.map_take]; rfl
  · unfold cutV
    rw [HT.sIx_nat, HT.sIx_none, List.length_map, Nat.min_eq_left h, ← List.map_drop, List.take_of_length_le (by rw [List.length_map, List.length_drop]; exact Nat.le_refl _)]
theorem szQ_add {q r : Rat} {a b c d : Nat} (h1 : SzQ q a b) (h2 : SzQ r c d) (hb : 0 < b) : SzQ (q + r) (max (a + d) (c + b) + 1) (b + d) := by
  have e : q + r = Rat.divInt (q.num * (r.den : Int) + r.num * (q.den : Int)) ((q.den : Int) * (r.den : Int)) := by
    have n1 := num_den q
    have n2 := num_den r
    rw [Rat.divInt_eq_div, Rat.intCast_add, Rat.intCast_mul, Rat.intCast_mul, Rat.intCast_mul, n1, n2]
    have d1 : (((q.den : Nat) : Int) : Rat) ≠ 0 := fun z => by
      have h1 : ((q.den : Nat) : Int) = 0 := by exact_mod_cast z
      have := den_pos q
      omega
    have d2 : (((r.den : Nat) : Int) : Rat) ≠ 0 := fun z => by
      have h1 : ((r.den : Nat) : Int) = 0 := by exact_mod_cast z
      have := den_pos r
      omega
    generalize (((q.den : Nat) : Int) : Rat) = x at *
    generalize (((r.den : Nat) : Int) : Rat) = y at *
    grind
  rw [e]
  refine szQ_div (Int.mul_pos (den_pos _) (den_pos _)) ?_ (sz_mul h1.2 h2.2)
  exact sz_add (Nat.le_trans (sz_mul h1.1 h2.2) (Nat.le_max_left _ _)) (Nat.le_trans (sz_mul h2.1 h1.2) (Nat.le_max_right _ _))
noncomputable def spPlusL : Sp := fun vs H Q _ => ∃ (a b : Addr) (q r : Rat), vs = [.ref a, .ref b] ∧ IsQ H a q ∧ IsQ H b r ∧ SzQ q 4000 4000 ∧ SzQ r 4000 4000 ∧ NewQ H Q (q + r)
theorem spPlusL_i {a b : Addr} {q r : Rat} {H : Hp} {Q : VK} {E : XK} (h1 : IsQ H a q) (h2 : IsQ H b r) (s1 : SzQ q 4000 4000) (s2 : SzQ r 4000 4000) (k : NewQ H Q (q + r)) : spPlusL [.ref a, .ref b] H Q E := ⟨a, b, q, r, rfl, h1, h2, s1, s2, k⟩
noncomputable def spRowT (K : PySem.W.Frag) : Sp := fun vs H Q _ => ∃ (a : Addr) (ns : List Int) (k n : Nat), vs = [.ref a, .int (k : Int), .int (n : Int)] ∧ SqL K H a (ns.map V.int) ∧ Light ns ∧ k < n ∧ n ≤ 9 ∧
  ∀ p H' (f : Nat → Int), H p = none → Same H H' → H' p = some (.lst ((vec n f).map V.int)) → (∀ j, -9 ≤ f j ∧ f j ≤ 9) → (∀ j, k < j → f j = 0) → f k ≠ 0 → Q (.ref p) H'
theorem spRowT_i {K : PySem.W.Frag} {a : Addr} {ns : List Int} {k n : Nat} {H : Hp} {Q : VK} {E : XK} (h : SqL K H a (ns.map V.int)) (hz : Light ns) (hk : k < n) (hn : n ≤ 9) (q : ∀ p H' (f : Nat → Int), H p = none → Same H H' → H' p = some (.lst ((vec n f).map V.int)) → (∀ j, -9 ≤ f j ∧ f j ≤ 9) → (∀ j, k < j → f j = 0) → f k ≠ 0 → Q (.ref p) H') : spRowT K [.ref a, .int (k : Int), .int (n : Int)] H Q E := ⟨a, ns, k, n, rfl, h, hz, hk, hn, q⟩
noncomputable def spGrid (K : PySem.W.Frag) : Sp := fun vs H Q _ => ∃ (a : Addr) (ns : List Int) (n : Nat), vs = [.ref a, .int (n : Int)] ∧ SqL K H a (ns.map V.int) ∧ Light ns ∧ 1 ≤ n ∧ n ≤ 9 ∧
  ∀ p H' (as : List Addr) (F : Nat → Nat → Int), H p = none → Same H H' → H' p = some (.lst (as.map V.ref)) → as.length = n → Rows H' as n F → (∀ l j, -589824 ≤ F l j ∧ F l j ≤ 589824) → Dt.det n (Dt.cl (Dt.castM F)) ≠ 0 → Q (.ref p) H'
theorem spGrid_i {K : PySem.W.Frag} {a : Addr} {ns : List Int} {n : Nat} {H : Hp} {Q : VK} {E : XK} (h : SqL K H a (ns.map V.int)) (hz : Light ns) (n0 : 1 ≤ n) (hn : n ≤ 9) (q : ∀ p H' (as : List Addr) (F : Nat → Nat → Int), H p = none → Same H H' → H' p = some (.lst (as.map V.ref)) → as.length = n → Rows H' as n F → (∀ l j, -589824 ≤ F l j ∧ F l j ≤ 589824) → Dt.det n (Dt.cl (Dt.castM F)) ≠ 0 → Q (.ref p) H') : spGrid K [.ref a, .int (n : Int)] H Q E := ⟨a, ns, n, rfl, h, hz, n0, hn, q⟩
noncomputable def spMixed (K : PySem.W.Frag) : Sp := fun vs H Q _ => ∃ (a r : Addr) (ns : List Int) (as : List Addr), vs = [.ref a, .ref r] ∧ SqL K H a (ns.map V.int) ∧ Light ns ∧ H r = some (.lst (as.map V.ref)) ∧ as.length ≤ 9 ∧
  ∀ p H' (bs : List Addr), H p = none → Same H H' → H' p = some (.lst (bs.map V.ref)) → bs.Perm as → Q (.ref p) H'
theorem spMixed_i {K : PySem.W.Frag} {a r : Addr} {ns : List Int} {as : List Addr} {H : Hp} {Q : VK} {E : XK} (h : SqL K H a (ns.map V.int)) (hz : Light ns) (hr : H r = some (.lst (as.map V.ref))) (hl : as.length ≤ 9) (q : ∀ p H' (bs : List Addr), H p = none → Same H H' → H' p = some (.lst (bs.map V.ref)) → bs.Perm as → Q (.ref p) H') : spMixed K [.ref a, .ref r] H Q E := ⟨a, r, ns, as, rfl, h, hz, hr, hl, q⟩
noncomputable def spSide (K : PySem.W.Frag) : Sp := fun vs H Q _ => ∃ (a u : Addr) (ws : List V) (n : Nat) (F : Nat → Int) (x : Nat → Rat), vs = [.ref a, .ref u] ∧ H a = some (.lst ((vec n F).map V.int)) ∧ H u = some (.lst ws) ∧ IsQs H ws ((List.range n).map x) ∧ n ≤ 9 ∧ (∀ j, -589824 ≤ F j ∧ F j ≤ 589824) ∧ (∀ j, j < n → SzQ (x j) 20 4) ∧
  ∀ q, q = Dt.sm n (fun m => ((F m : Int) : Rat) * x m) → SzQ q 95 37 → NewQ H Q q
theorem spSide_i {K : PySem.W.Frag} {a u : Addr} {ws : List V} {n : Nat} {F : Nat → Int} {x : Nat → Rat} {H : Hp} {Q : VK} {E : XK} (h1 : H a = some (.lst ((vec n F).map V.int))) (h2 : H u = some (.lst ws)) (h3 : IsQs H ws ((List.range n).map x)) (hn : n ≤ 9) (hF : ∀ j, -589824 ≤ F j ∧ F j ≤ 589824) (hx : ∀ j, j < n → SzQ (x j) 20 4) (k : ∀ q, q = Dt.sm n (fun m => ((F m : Int) : Rat) * x m) → SzQ q 95 37 → NewQ H Q q) : spSide K [.ref a, .ref u] H Q E := ⟨a, u, ws, n, F, x, rfl, h1, h2, h3, hn, hF, hx, k⟩
noncomputable def spJoin (K : PySem.W.Frag) : Sp := fun vs H Q _ => ∃ (a b : Addr) (ws us : List V) (n : Nat) (f g : Nat → Rat) (c d : Int), vs = [.ref a, .int c, .ref b, .int d] ∧ H a = some (.lst ws) ∧ IsQs H ws ((List.range n).map f) ∧ H b = some (.lst us) ∧ IsQs H us ((List.range n).map g) ∧ n ≤ 10 ∧ (∀ j, j < n → SzQ (f j) 96 40 ∧ SzQ (g j) 96 40) ∧ -3 ≤ c ∧ c ≤ 3 ∧ -3 ≤ d ∧ d ≤ 3 ∧
  ∀ p H' vs, H p = none → Same H H' → H' p = some (.lst vs) → IsQs H' vs ((List.range n).map fun j => ((c : Int) : Rat) * f j + ((d : Int) : Rat) * g j) → Q (.ref p) H'
theorem spJoin_i {K : PySem.W.Frag} {a b : Addr} {ws us : List V} {n : Nat} {f g : Nat → Rat} {c d : Int} {H : Hp} {Q : VK} {E : XK} (h1 : H a = some (.lst ws)) (h2 : IsQs H ws ((List.range n).map f)) (h3 : H b = some (.lst us)) (h4 : IsQs H us ((List.range n).map g)) (hn : n ≤ 10) (hz : ∀ j, j < n → SzQ (f j) 96 40 ∧ SzQ (g j) 96 40) (c0 : -3 ≤ c) (c1 : c ≤ 3) (d0 : -3 ≤ d) (d1 : d ≤ 3) (k : ∀ p H' vs, H p = none → Same H H' → H' p = some (.lst vs) → IsQs H' vs ((List.range n).map fun j => ((c : Int) : Rat) * f j + ((d : Int) : Rat) * g j) → Q (.ref p) H') : spJoin K [.ref a, .int c, .ref b, .int d] H Q E := ⟨a, b, ws, us, n, f, g, c, d, rfl, h1, h2, h3, h4, hn, hz, c0, c1, d0, d1, k⟩
theorem join_sz {f g : Rat} {c d : Int} (h : SzQ f 96 40 ∧ SzQ g 96 40) (c0 : -3 ≤ c) (c1 : c ≤ 3) (d0 : -3 ≤ d) (d1 : d ≤ 3) : SzQ (Rat.divInt (f.num * c) (f.den : Int)) 98 40 ∧ SzQ (Rat.divInt (g.num * d) (g.den : Int)) 98 40 ∧ Rat.divInt (f.num * c) (f.den : Int) + Rat.divInt (g.num * d) (g.den : Int) = ((c : Int) : Rat) * f + ((d : Int) : Rat) * g := by
  have s1 : sz c ≤ 2 := sz_of (by omega)
  have s2 : sz d ≤ 2 := sz_of (by omega)
  have e : ∀ (q : Rat) (c : Int), Rat.divInt (q.num * c) (q.den : Int) = ((c : Int) : Rat) * q := fun q c => by
    have n1 := num_den q
    have d1 : (((q.den : Nat) : Int) : Rat) ≠ 0 := fun z => by
      have h1 : ((q.den : Nat) : Int) = 0 := by exact_mod_cast z
      have := den_pos q
      omega
    rw [Rat.divInt_eq_div, Rat.intCast_mul, n1]
    generalize (((q.den : Nat) : Int) : Rat) = x at *
    grind
  exact ⟨szQ_div (den_pos _) (sz_mul h.1.1 s1) h.1.2, szQ_div (den_pos _) (sz_mul h.2.1 s2) h.2.2, by rw [e, e]⟩
end Internal

set_option Elab.async false
set_option linter.all false
set_option maxRecDepth 100000
namespace Internal
open PySem PySem.Spec PyProof.Rows
theorem vec_join {a b : Nat} {f g : Nat → Int} : (vec a f).map V.int ++ (vec b g).map V.int = (vec (a + b) fun i => if i < a then f i else g (i - a)).map V.int := by
  rw [← List.map_append]
  congr 1
  unfold vec
  rw [List.range_add, List.map_append, List.map_map]
  congr 1
  · exact List.map_congr_left fun i hi => (if_pos (List.mem_range.mp hi)).symm
  · refine List.map_congr_left fun i hi => ?_
    show g i = if a + i < a then _ else g (a + i - a)
    rw [if_neg (by omega), Nat.add_sub_cancel_left]
theorem bd3 {m x B : Int} (h0 : -3 ≤ m) (h1 : m ≤ 3) (b0 : -B ≤ x) (b1 : x ≤ B) : -(3 * B) ≤ m * x ∧ m * x ≤ 3 * B := by
  rcases (show m = -3 ∨ m = -2 ∨ m = -1 ∨ m = 0 ∨ m = 1 ∨ m = 2 ∨ m = 3 by omega) with h | h | h | h | h | h | h <;> subst h <;> constructor <;> omega
theorem four_le {i : Nat} (h : i ≤ 8) : (9 : Int) * 4 ^ i ≤ 589824 := by
  have h1 : (4 : Nat) ^ i ≤ 4 ^ 8 := Nat.pow_le_pow_right (by decide) h
  rw [show (4 : Nat) ^ 8 = 65536 from rfl] at h1
  have h2 : (((4 : Nat) ^ i : Nat) : Int) ≤ ((65536 : Nat) : Int) := Int.ofNat_le.mpr h1
  rw [Int.natCast_pow] at h2
  have h3 : ((4 : Nat) : Int) ^ i = (4 : Int) ^ i := rfl
  omega
theorem perm_put {as bs : List Addr} {c : Addr} {i j : Nat} (h : bs.Perm (as.take i)) (hc : as[i]? = some c) : (bs.take j ++ [c] ++ bs.drop j).Perm (as.take (i + 1)) := by
  have h1 : as.take (i + 1) = as.take i ++ [c] := by
    rw [List.take_succ, hc]; rfl
  rw [h1]
  have h2 : (bs.take j ++ [c] ++ bs.drop j).Perm (c :: (bs.take j ++ bs.drop j)) := by
    rw [List.append_assoc]
    exact List.perm_middle
  rw [List.take_append_drop] at h2
  exact h2.trans ((List.Perm.cons c h).trans (List.perm_append_singleton c (as.take i)).symm)
end Internal
namespace Dt
theorem perm_rows {as bs : List PySem.Addr} (h : bs.Perm as) (n : Nat) (hn : as.length = n) (C : PySem.Addr → Nat → Rat) {A B : Nat → Nat → Rat} (hA : ∀ l a, as[l]? = some a → ∀ j, j < n → A l j = C a j) (hB : ∀ l a, bs[l]? = some a → ∀ j, j < n → B l j = C a j) : det n (cl A) = 0 ↔ det n (cl B) = 0 := by
  have hb : bs.length = n := by rw [h.length_eq, hn]
  have e : ∀ (cs : List PySem.Addr) (M : Nat → Nat → Rat), cs.length = n → (∀ l a, cs[l]? = some a → ∀ j, j < n → M l j = C a j) → det n (cl M) = det n (cl (rowsOf (cs.map C))) := fun cs M hl hM => det_congr fun j r hj hr => by
    obtain ⟨c, hc⟩ : ∃ c, cs[r]? = some c := ⟨_, List.getElem?_eq_getElem (by omega)⟩
    show M r j = rowsOf (cs.map C) r j
    rw [hM r c hc j hj]
    unfold rowsOf
    rw [List.getD_eq_getElem?_getD, List.getElem?_map, hc]; rfl
  rw [e as A hn hA, e bs B hb hB]
  have := perm_det (h.symm.map C) []
  rw [List.nil_append, List.nil_append, List.length_map, List.length_map, hn, hb] at this
  exact this
end Dt
namespace Internal
open PySem PySem.Spec PyProof.Rows
theorem PRows.perm {H : Hp} {rs bs : List Addr} {m n : Nat} {R : Nat → Nat → Rat} (h : PRows H rs (fun l => (List.range m).map (R l))) (hp : bs.Perm rs) (hn : rs.length = n) : ∃ R' : Nat → Nat → Rat, PRows H bs (fun l => (List.range m).map (R' l)) ∧ (∀ l, l < n → ∃ l', l' < n ∧ R' l = R l') ∧ (Dt.det n (Dt.cl R) = 0 ↔ Dt.det n (Dt.cl R') = 0) := by
  have hch : ∀ a : Addr, ∃ l : Nat, ∀ i : Nat, rs[i]? = some a → i = l := fun a => by
    rcases Classical.em (∃ i : Nat, rs[i]? = some a) with ⟨i, hi⟩ | hno
    · exact ⟨i, fun j hj => nodup_get h.1 hj hi⟩
    · exact ⟨0, fun i hi => absurd ⟨i, hi⟩ hno⟩
  obtain ⟨f, hf⟩ := Classical.axiomOfChoice hch
  have e : ∀ (l : Nat) (a : Addr), bs[l]? = some a → (bs[l]?).elim (fun _ => (0 : Rat)) (fun a => R (f a)) = R (f a) := fun l a ha => by rw [ha]; rfl
  refine ⟨fun l => (bs[l]?).elim (fun _ => (0 : Rat)) (fun a => R (f a)), ⟨hp.nodup_iff.mpr h.1, fun l a ha => ?_⟩, fun l hl => ?_, ?_⟩
  · obtain ⟨i, hi⟩ := List.mem_iff_getElem?.mp (hp.mem_iff.mp (List.mem_of_getElem? ha))
    obtain ⟨vs, h1, h2⟩ := h.2 i a hi
    refine ⟨vs, h1, ?_⟩
    dsimp only
    rw [e l a ha, ← hf a i hi]; exact h2
  · obtain ⟨a, ha⟩ := lt_some (show l < bs.length by rw [hp.length_eq, hn]; exact hl)
    obtain ⟨i, hi⟩ := List.mem_iff_getElem?.mp (hp.mem_iff.mp (List.mem_of_getElem? ha))
    refine ⟨i, hn ▸ (List.getElem?_eq_some_iff.mp hi).1, ?_⟩
    dsimp only
    rw [e l a ha, ← hf a i hi]
  · refine Dt.perm_rows hp n hn (fun a => R (f a)) (fun l a ha j _ => ?_) fun l a ha j _ => ?_
    · rw [← hf a l ha]
    · rw [e l a ha]
theorem mod_next {t n : Nat} (h : t < n) (h1 : 1 < n) : ∃ l : Nat, ((t : Int) + 1) % (n : Int) = (l : Int) ∧ l < n ∧ l ≠ t := by
  rcases Nat.lt_or_ge (t + 1) n with g | g
  · exact ⟨t + 1, by rw [Int.emod_eq_of_lt (by omega) (by omega)]; rfl, g, by omega⟩
  · exact ⟨0, by rw [show (t : Int) + 1 = (n : Int) by omega, Int.emod_self]; rfl, by omega, by omega⟩
theorem mod_prev {t n : Nat} (h : t < n) (h1 : 1 < n) : ∃ l : Nat, ((t : Int) + (n : Int) - 1) % (n : Int) = (l : Int) ∧ l < n ∧ l ≠ t := by
  rcases Nat.eq_zero_or_pos t with g | g
  · exact ⟨n - 1, by rw [Int.emod_eq_of_lt (by omega) (by omega)]; omega, by omega, by omega⟩
  · refine ⟨t - 1, ?_, by omega, by omega⟩
    rw [show (t : Int) + (n : Int) - 1 = ((t - 1 : Nat) : Int) + (n : Int) by omega, Int.add_emod_right, Int.emod_eq_of_lt (by omega) (by omega)]
theorem cut_qs {H : Hp} {ws : List V} {n : Nat} {f : Nat → Rat} (h : IsQs H ws ((List.range (n + 1)).map f)) : cutV ws none (some (n : Int)) = ws.take n ∧ IsQs H (ws.take n) ((List.range n).map f) ∧ ∃ g, ws[n]? = some (.ref g) ∧ IsQ H g (f n) := by
  have hl : ws.length = n + 1 := by rw [h.length, List.length_map, List.length_range]
  refine ⟨?_, ?_, ?_⟩
  · unfold cutV
    rw [HT.sIx_nat, HT.sIx_none, Nat.min_eq_left (by omega)]; rfl
  · have : ∀ (vs : List V) (qs : List Rat) (k : Nat), IsQs H vs qs → IsQs H (vs.take k) (qs.take k) := by
      intro vs
      induction vs with
      | nil => intro qs k h; cases qs with
        | nil => rw [List.take_nil, List.take_nil]; exact h
        | cons _ _ => exact absurd h.length (by simp)
      | cons v vs ih => intro qs k h; cases qs with
        | nil => exact absurd h.length (by simp)
        | cons q qs => cases k with
          | zero => rw [List.take_zero, List.take_zero]; trivial
          | succ k =>
            rw [List.take_succ_cons, List.take_succ_cons]
            exact ⟨h.1, ih qs k h.2⟩
    have e := this _ _ n h
    rw [← List.map_take, List.take_range, Nat.min_eq_left (by omega)] at e
    exact e
  · obtain ⟨v, hv⟩ := lt_some (show n < ws.length by omega)
    obtain ⟨g, q, rfl, hq, hg⟩ := h.get hv
    rw [List.getElem?_map, List.getElem?_range (by omega)] at hq
    cases hq
    exact ⟨g, hv, hg⟩
theorem det_spoilt {n t : Nat} {R : Nat → Nat → Rat} {G : Nat → Rat} (ht : t < n) (h : (∀ j, j < n → G j = 0) ∨ ∃ (l1 l2 : Nat) (c d : Rat), l1 < n ∧ l2 < n ∧ l1 ≠ t ∧ l2 ≠ t ∧ ∀ j, j < n → G j = c * R l1 j + d * R l2 j) : Dt.det n (Dt.cl fun l => if l = t then G else R l) = 0 := by
  rcases h with h | ⟨l1, l2, c, d, h1, h2, n1, n2, h⟩
  · refine Dt.det_row_zero ht fun j hj => ?_
    show (if t = t then G else R t) j = 0
    rw [if_pos rfl]; exact h j hj
  · refine Dt.det_row_two (a := c) (b := d) ht h1 h2 n1 n2 fun j hj => ?_
    show (if t = t then G else R t) j = c * (if l1 = t then G else R l1) j + d * (if l2 = t then G else R l2) j
    rw [if_pos rfl, if_neg n1, if_neg n2]; exact h j hj
theorem part_div (q : Rat) {s : Int} (hs : 0 < s) : Rat.divInt q.num ((q.den : Int) * s) = (1 / ((s : Int) : Rat)) * q := by
  have n1 := num_den q
  have d1 : (((q.den : Nat) : Int) : Rat) ≠ 0 := fun z => by
    have h1 : ((q.den : Nat) : Int) = 0 := by exact_mod_cast z
    have := den_pos q
    omega
  have d2 : ((s : Int) : Rat) ≠ 0 := fun z => by
    have h1 : s = 0 := by exact_mod_cast z
    omega
  rw [Rat.divInt_eq_div, Rat.intCast_mul, n1]
  generalize (((q.den : Nat) : Int) : Rat) = x at *
  generalize ((s : Int) : Rat) = y at *
  grind
theorem row_lin (f s : Int) : Rat.divInt f s = (1 / ((s : Int) : Rat)) * ((f : Int) : Rat) := by
  rw [Rat.divInt_eq_div]
  grind
theorem row_ok {n : Nat} {F : Nat → Int} {x : Nat → Rat} {q : Rat} {s : Int} (hs : 0 < s) (hq : q = Dt.sm n fun m => ((F m : Int) : Rat) * x m) : Rat.divInt q.num ((q.den : Int) * s) = Dt.sm n fun m => Rat.divInt (F m) s * x m := by
  rw [part_div q hs, hq, ← Dt.sm_mul]
  refine Dt.sm_congr fun m _ => ?_
  rw [row_lin]; grind
set_option genInjectivity false in
set_option genSizeOf false in
structure RowK (n : Nat) (F : Nat → Nat → Int) (x : Nat → Rat) (i : Nat) (R : Nat → Nat → Rat) (L : Nat → Rat) : Prop where
  ne : ∀ l, l < i → L l ≠ 0
  eq : ∀ l, l < i → ∀ j, j < n → R l j = L l * Dt.castM F l j
  rt : ∀ l, l < i → R l n = Dt.sm n fun m => R l m * x m
  sz : ∀ l, l < i → ∀ j, j ≤ n → SzQ (R l j) 96 40
theorem RowK.nil {n : Nat} {F : Nat → Nat → Int} {x : Nat → Rat} {R : Nat → Nat → Rat} {L : Nat → Rat} : RowK n F x 0 R L := ⟨fun l h => by omega, fun l h => by omega, fun l h => by omega, fun l h => by omega⟩
noncomputable def rowQ (n : Nat) (f : Nat → Int) (q : Rat) (s : Int) : Nat → Rat := fun j => if j < n then Rat.divInt (f j) s else Rat.divInt q.num ((q.den : Int) * s)
theorem RowK.more {n : Nat} {F : Nat → Nat → Int} {x : Nat → Rat} {i : Nat} {R : Nat → Nat → Rat} {L : Nat → Rat} {q : Rat} {s : Int} (h : RowK n F x i R L) (hs : 0 < s) (hs7 : s ≤ 7) (hF : ∀ l j, -589824 ≤ F l j ∧ F l j ≤ 589824) (hq : q = Dt.sm n fun m => ((F i m : Int) : Rat) * x m) (zq : SzQ q 95 37) : RowK n F x (i + 1) (fun l => if l = i then rowQ n (F i) q s else R l) (fun l => if l = i then 1 / ((s : Int) : Rat) else L l) := by
  have zs : Internal.sz s ≤ 3 := sz_of (by omega)
  have hr : ∀ m, m < n → rowQ n (F i) q s m = Rat.divInt (F i m) s := fun m hm => if_pos hm
  have hrn : rowQ n (F i) q s n = Rat.divInt q.num ((q.den : Int) * s) := if_neg (Nat.lt_irrefl _)
  refine ⟨fun l hl => ?_, fun l hl j hj => ?_, fun l hl => ?_, fun l hl j hj => ?_⟩
  · by_cases e : l = i
    · rw [if_pos e]
      have d2 : ((s : Int) : Rat) ≠ 0 := fun z => by
        have h1 : s = 0 := by exact_mod_cast z
        omega
      generalize ((s : Int) : Rat) = y at *
      grind
    · rw [if_neg e]; exact h.ne l (by omega)
  · by_cases e : l = i
    · rw [if_pos e, if_pos e, hr j hj, row_lin, e]; rfl
    · rw [if_neg e, if_neg e]; exact h.eq l (by omega) j hj
  · by_cases e : l = i
    · rw [if_pos e, hrn, row_ok hs hq]
      exact Dt.sm_congr fun m hm => by rw [hr m hm]
    · rw [if_neg e]; exact h.rt l (by omega)
  · by_cases e : l = i
    · rw [if_pos e]
      rcases Nat.lt_or_ge j n with g | g
      · rw [hr j g]
        exact (szQ_div hs (sz_of (n := 20) (by have := hF i j; omega)) zs).mono (by decide) (by decide)
      · rw [show j = n by omega, hrn]
        exact (szQ_div (Int.mul_pos (den_pos _) hs) zq.1 (sz_mul zq.2 zs)).mono (by decide) (by decide)
    · rw [if_neg e]; exact h.sz l (by omega) j hj
theorem RowK.det {n : Nat} {F : Nat → Nat → Int} {x : Nat → Rat} {R : Nat → Nat → Rat} {L : Nat → Rat} (h : RowK n F x n R L) (hd : Dt.det n (Dt.cl (Dt.castM F)) ≠ 0) : Dt.det n (Dt.cl R) ≠ 0 := fun z => hd ((Dt.det_scale h.ne).mpr (by
  rw [← z]
  exact Dt.det_congr fun j r hj hr => (h.eq r hr j hj).symm))
end Internal

set_option Elab.async false
set_option linter.all false
set_option maxRecDepth 100000
set_option maxHeartbeats 4000000
namespace Internal.K
open PySem Internal
local macro_rules | `(tactic| walk_at "z") => `(tactic| first
  | assumption
  | exact sz200 (by omega) (by omega)
  | ((with_reducible apply sz_mul); (focus walk_at "z"); walk_at "z")
  | exact szL (by decide) (by omega) (by omega)
  | ((with_reducible apply Nat.le_trans (m := _)); (focus assumption); omega))
local macro_rules | `(tactic| walk_at "h") => `(tactic| first
  | assumption
  | (with_reducible exact Same.refl _)
  | ((with_reducible apply Same.isQ); (focus assumption); walk_at "h")
  | ((with_reducible apply LBut.isQ); (focus assumption); walk_at "h")
  | ((with_reducible apply IsQs.same); (focus assumption); walk_at "h")
  | ((with_reducible apply LBut.isQs); (focus assumption); walk_at "h")
  | ((with_reducible apply Same.at); (focus assumption); walk_at "h")
  | ((with_reducible apply LBut.tup); (focus assumption); walk_at "h")
  | ((with_reducible apply LBut.lst); (focus assumption); (focus walk_at "h"); walk_at "h")
  | ((with_reducible apply SqL.keep); (focus (show SqL _ _ _ _; assumption)); walk_at "h")
  | ((with_reducible apply SqL.of); walk_at "h")
  | ((with_reducible apply Same.after); (focus assumption); walk_at "h")
  | ((with_reducible apply LBut.same); (focus assumption); (focus walk_at "h"); walk_at "h")
  | ((with_reducible apply Same.none); (focus assumption); walk_at "h")
  | ((with_reducible apply Same.cuts); (focus assumption); walk_at "h")
  | ((with_reducible apply ne_new'); (focus assumption); walk_at "h"))
local macro_rules | `(tactic| walk_at "x1") => `(tactic| first
  | ((with_reducible apply x_var); (focus (exact rfl)))
  | (with_reducible (first
      | apply x_bl
      | apply x_truB
      | apply x_eqI
      | apply x_neI
      | apply x_add
      | apply x_i0
      | apply x_neg
      | apply x_call
      | apply x_abs
      | apply x_andV
      | apply x_orV
      | apply x_notU
      | apply x_iteT
      | apply x_iteF
      | apply x_iteNT))
  | (with_reducible refine x_iteZ (by assumption) ?_)
  | (with_reducible refine x_ite (fun _ => ?_) (fun _ => ?_))
  | (with_reducible refine x_iteN (fun _ => ?_) (fun _ => ?_))
  | (with_reducible (first
      | apply x_tup
      | apply x_lst))
  | ((with_reducible show rIx _ (V.ref _) (V.int _) _ _); first
      | refine x_ixTs (by assumption) (by rfl) ?_
      | refine x_ixVec (by assumption) (by omega) (by omega) ?_
      | refine x_ixRow (by assumption) (by omega) (by assumption) ?_
      | refine x_ixTs (by walk_at "h") (by rfl) ?_
      | refine x_ixVec (by walk_at "h") (by omega) (by omega) ?_
      | refine x_ixLs (by walk_at "h") (by assumption) ?_
      | refine x_ixL (by walk_at "h") (by assumption) ?_
      | refine x_ixLs (by walk_at "h") (by rfl) ?_)
  | ((with_reducible show rIsiU _ [V.int _, _] _ _); refine x_isU ?_)
  | ((with_reducible show rIsiU _ [V.bl _, _] _ _); refine x_isU ?_)
  | (with_reducible (first
      | apply x_isII
      | apply x_isIB))
  | ((with_reducible show rIsiU _ [V.ref _, V.ty "tuple"] _ _); refine x_isU ?_; first | refine IsQ.isT (by walk_at "h") ?_ | refine x_isTT (by walk_at "h") ?_ | refine x_isLT (by walk_at "h") ?_)
  | ((with_reducible show rIsiU _ [V.ref _, V.ty "list"] _ _); refine x_isU ?_; first | refine x_isLL (by walk_at "h") ?_ | refine x_isTL (by walk_at "h") ?_)
  | ((with_reducible show rIsiU _ [V.ref _, V.ref _] _ _); refine x_isE (by walk_at "h") (by assumption) rfl (by assumption) ?_)
  | ((with_reducible show rIsiU _ [V.ref _, V.ty "ValueError"] _ _); refine x_isE (by walk_at "h") (by assumption) rfl (by assumption) ?_)
  | (with_reducible refine x_catch (by assumption) (fun _ _ _ _ _ => ?_))
  | (with_reducible (first
      | apply x_raise
      | apply x_tryE))
  | ((with_reducible show rLen _ [V.ref _] _ _); first | refine IsQ.len (by walk_at "h") ?_ | refine x_lenL (by walk_at "h") ?_ | refine x_lenT' (by walk_at "h") ?_)
  | (with_reducible (first
      | apply spWhole_i
      | apply spDiv_i))
  | ((with_reducible show spCell _ _ _ _ _); refine spCell_i (by walk_at "h") (by first | decide | omega) ?_)
  | (with_reducible (first
      | apply x_for
      | apply x_comp
      | apply x_isNone
      | apply x_gNil
      | apply x_gCons))
  | ((with_reducible show gTup _ _ _ (V.ref _) _ _ _); refine x_gTup (by assumption) rfl ?_)
  | ((with_reducible show spDrawP _ _ _ _ _); refine spDrawP_i (by walk_at "h") (by assumption) (by omega) (by omega) (by omega) (by omega) (fun _ _ _ _ => ?_))
  | ((with_reducible show spDivP _ _ _ _); refine spDivP_i (by omega) (by omega) ?_)
  | ((with_reducible show spPartP _ _ _ _); refine spPartP_i (by omega) (by walk_at "z") ?_)
  | ((with_reducible show spIsPartQ _ _ _ _); refine spIsPartQ_i (by walk_at "h") ?_)
  | ((with_reducible show spPartsQ _ _ _ _ _); refine spPartsQ_i (by walk_at "h") (by walk_at "h") (by first | assumption | omega) ?_)
  | ((with_reducible show rRng1 _ [V.int _] _); refine x_rngk1 (by omega) (by omega) ?_)
  | ((with_reducible show rRng2 _ [V.int _, V.int _] _); refine x_rngk2 (by omega) (by omega) (by omega) (by omega) ?_)
  | ((with_reducible show rItL _ _ (V.ref _) _); refine x_itk (by walk_at "h") ?_)
  | ((with_reducible show rEnum _ _ [V.ref _] _); refine x_enumk (by walk_at "h") ?_)
  | ((with_reducible show rZip _ _ [V.ref _, V.ref _] _); refine x_zipk (by walk_at "h") (by walk_at "h") ?_)
  | ((with_reducible show CompK (Itr _ _) _ _ tYes (tC (V.int _)) _ _ _); refine x_comp0 rfl (by omega) (fun _ _ _ _ _ => ?_))
  | ((with_reducible show rEqU _ (V.ref _) (V.ref _) _ _); first | refine x_eqInts (by walk_at "h") (by walk_at "h") rfl ?_ | refine x_eqSh (by walk_at "h") (by walk_at "h") rfl ?_ | refine x_eqQs (by walk_at "h") (by walk_at "h") (by walk_at "h") (by walk_at "h") ?_)
  | ((with_reducible show rNeU _ (V.ref _) (V.ref _) _ _); first | refine x_neInts (by walk_at "h") (by walk_at "h") rfl ?_ | refine x_neRows (by walk_at "h") (by walk_at "h") (by walk_at "h") (by walk_at "h") (by omega) (fun _ _ _ _ => rfl) ?_ | refine x_neSh (by walk_at "h") (by walk_at "h") rfl ?_ | refine x_neQs (by walk_at "h") (by walk_at "h") (by walk_at "h") (by walk_at "h") ?_)
  | (with_reducible (first
      | apply x_rng1
      | apply x_rng2
      | apply x_itL
      | apply x_bm
      | apply x_part
      | apply x_partI))
  | ((with_reducible show tyV _ "list" (V.ref _) _ ∧ _); refine x_tyL (by walk_at "h") ?_)
  | ((with_reducible show rAppend (V.ref _) [_] _ _); refine x_appN (by walk_at "h") (by omega) (fun _ _ _ => ?_))
  | ((with_reducible show spSweptRow _ _ _ _ _); refine spSweptRow_i (by walk_at "h") (by walk_at "h") (by omega) (by omega) (by omega) (by assumption) (by assumption) (by assumption) (fun _ _ _ _ _ => ?_))
  | ((with_reducible show spPlusL _ _ _ _); refine spPlusL_i (by walk_at "h") (by walk_at "h") (by assumption) (by assumption) ?_)
  | ((with_reducible show spRowT _ _ _ _ _); refine spRowT_i (by walk_at "h") (by assumption) (by omega) (by omega) (fun _ _ _ _ _ _ _ _ _ => ?_))
  | ((with_reducible show NewQ _ _ _); intro _ _ _ _)
  | ((with_reducible show rLst _ _ _); refine x_lstN (by first | decide | simp) (fun _ _ _ _ _ => ?_))
  | ((with_reducible show rListOf _ _ _ _); refine x_listOfN (by walk_at "h") (fun _ _ _ _ _ => ?_))
  | ((with_reducible show rSlL _ _ _ _ _ _); refine x_cutN (by walk_at "h") (fun _ _ _ _ _ => ?_))
  | ((with_reducible show rModU _ _ _ _); refine x_mod (by first | decide | omega) ?_)
  | ((with_reducible show rMulU _ _ _ _); refine x_mul (by first | assumption | (apply CMulS.of; (focus walk_at "z"); (focus walk_at "z"); first | decide | omega)) ?_)
  | ((with_reducible show rDivU _ _ _ _); refine x_div (by first | walk_at "h" | decide) (by first | walk_at "h" | exact szL (by decide) (by decide) (by decide)) ?_)
  | ((with_reducible show Ends.nx _ _ _); dsimp only [List.set, Ends.gone]))
local macro_rules | `(tactic| walk_at "x") => `(tactic| repeat' (walk_at "x1"))

noncomputable def top (i : Nat) : Stmt := PySem.Challenge.pw_quits_k31_no_answer.main.body.getD i (.Pass ⟨0, 0, 0, 0⟩)
noncomputable abbrev s_divisor : Stmt := top 20
noncomputable abbrev s_part : Stmt := top 22
noncomputable abbrev s_solved : Stmt := top 24
noncomputable abbrev s_whole_row : Stmt := top 25
noncomputable abbrev s_with_first : Stmt := top 26
noncomputable abbrev s_swept : Stmt := top 27
noncomputable abbrev s_swept_row : Stmt := top 28
noncomputable abbrev s__law_cell : Stmt := top 30
noncomputable abbrev s__law_draw : Stmt := top 31
noncomputable abbrev s__law_whole : Stmt := top 32
noncomputable abbrev s__law_divisor : Stmt := top 33
noncomputable abbrev s__law_is_part : Stmt := top 34
noncomputable abbrev s__law_parts : Stmt := top 35
noncomputable abbrev s__law_part : Stmt := top 36
noncomputable abbrev s__law_plus : Stmt := top 37
noncomputable abbrev s__law_row : Stmt := top 38
noncomputable abbrev s__law_grid : Stmt := top 39
noncomputable abbrev s__law_mixed : Stmt := top 40
noncomputable abbrev s__law_side : Stmt := top 41
noncomputable abbrev s__law_joined : Stmt := top 42
noncomputable abbrev s__law_of_another : Stmt := top 43
noncomputable abbrev s__law_refused : Stmt := top 44
noncomputable abbrev s_law : Stmt := top 45
theorem sc_divisor : FnScope ["one", "other", "kept", "rest", "further"] ["one", "other"] (defScope s_divisor) := ⟨rfl, rfl, rfl, by decide +kernel, rfl, by decide +kernel, by decide +kernel⟩
theorem sc_part : FnScope ["top", "bottom", "common"] ["top", "bottom"] (defScope s_part) := ⟨rfl, rfl, rfl, by decide +kernel, rfl, by decide +kernel, by decide +kernel⟩
theorem sc_solved : FnScope ["rows", "right", "count", "table", "before", "place"] ["rows", "right"] (defScope s_solved) := ⟨rfl, rfl, rfl, by decide +kernel, rfl, by decide +kernel, by decide +kernel⟩
theorem sc_whole_row : FnScope ["row", "common", "top", "bottom"] ["row"] (defScope s_whole_row) := ⟨rfl, rfl, rfl, by decide +kernel, rfl, by decide +kernel, by decide +kernel⟩
theorem sc_with_first : FnScope ["table", "place", "found", "swapped"] ["table", "place"] (defScope s_with_first) := ⟨rfl, rfl, rfl, by decide +kernel, rfl, by decide +kernel, by decide +kernel⟩
theorem sc_swept : FnScope ["table", "place", "before", "sweeper", "made", "number", "row"] ["table", "place", "before"] (defScope s_swept) := ⟨rfl, rfl, rfl, by decide +kernel, rfl, by decide +kernel, by decide +kernel⟩
theorem sc_swept_row : FnScope ["row", "sweeper", "place", "before", "keep", "take"] ["row", "sweeper", "place", "before"] (defScope s_swept_row) := ⟨rfl, rfl, rfl, by decide +kernel, rfl, by decide +kernel, by decide +kernel⟩
theorem sc__law_cell : FnScope ["_law_script", "_law_k"] ["_law_script", "_law_k"] (defScope s__law_cell) := ⟨rfl, rfl, rfl, by decide +kernel, rfl, by decide +kernel, by decide +kernel⟩
theorem sc__law_draw : FnScope ["_law_script", "_law_k", "_law_prime", "_law_many"] ["_law_script", "_law_k", "_law_prime", "_law_many"] (defScope s__law_draw) := ⟨rfl, rfl, rfl, by decide +kernel, rfl, by decide +kernel, by decide +kernel⟩
theorem sc__law_whole : FnScope ["_law_thing"] ["_law_thing"] (defScope s__law_whole) := ⟨rfl, rfl, rfl, by decide +kernel, rfl, by decide +kernel, by decide +kernel⟩
theorem sc__law_divisor : FnScope ["_law_one", "_law_other", "_law_rest"] ["_law_one", "_law_other"] (defScope s__law_divisor) := ⟨rfl, rfl, rfl, by decide +kernel, rfl, by decide +kernel, by decide +kernel⟩
theorem sc__law_is_part : FnScope ["_law_thing"] ["_law_thing"] (defScope s__law_is_part) := ⟨rfl, rfl, rfl, by decide +kernel, rfl, by decide +kernel, by decide +kernel⟩
theorem sc__law_parts : FnScope ["_law_told", "_law_many", "_law_one"] ["_law_told", "_law_many"] (defScope s__law_parts) := ⟨rfl, rfl, rfl, by decide +kernel, rfl, by decide +kernel, by decide +kernel⟩
theorem sc__law_part : FnScope ["_law_top", "_law_bottom", "_law_shared"] ["_law_top", "_law_bottom"] (defScope s__law_part) := ⟨rfl, rfl, rfl, by decide +kernel, rfl, by decide +kernel, by decide +kernel⟩
theorem sc__law_plus : FnScope ["_law_one", "_law_other"] ["_law_one", "_law_other"] (defScope s__law_plus) := ⟨rfl, rfl, rfl, by decide +kernel, rfl, by decide +kernel, by decide +kernel⟩
theorem sc__law_row : FnScope ["_law_script", "_law_k", "_law_n", "_law_row_here", "_law_m", "_law_here", "_law_corner"] ["_law_script", "_law_k", "_law_n"] (defScope s__law_row) := ⟨rfl, rfl, rfl, by decide +kernel, rfl, by decide +kernel, by decide +kernel⟩
theorem sc__law_grid : FnScope ["_law_script", "_law_n", "_law_grid_here", "_law_back", "_law_k", "_law_many"] ["_law_script", "_law_n"] (defScope s__law_grid) := ⟨rfl, rfl, rfl, by decide +kernel, rfl, by decide +kernel, by decide +kernel⟩
theorem sc__law_mixed : FnScope ["_law_script", "_law_rows", "_law_made", "_law_k", "_law_at"] ["_law_script", "_law_rows"] (defScope s__law_mixed) := ⟨rfl, rfl, rfl, by decide +kernel, rfl, by decide +kernel, by decide +kernel⟩
theorem sc__law_side : FnScope ["_law_row_here", "_law_unknowns", "_law_due", "_law_k"] ["_law_row_here", "_law_unknowns"] (defScope s__law_side) := ⟨rfl, rfl, rfl, by decide +kernel, rfl, by decide +kernel, by decide +kernel⟩
theorem sc__law_joined : FnScope ["_law_one", "_law_many", "_law_other", "_law_more", "_law_made", "_law_k", "_law_first"] ["_law_one", "_law_many", "_law_other", "_law_more"] (defScope s__law_joined) := ⟨rfl, rfl, rfl, by decide +kernel, rfl, by decide +kernel, by decide +kernel⟩
theorem sc__law_of_another : FnScope ["_law_error"] ["_law_error"] (defScope s__law_of_another) := ⟨rfl, rfl, rfl, by decide +kernel, rfl, by decide +kernel, by decide +kernel⟩
theorem sc__law_refused : FnScope ["_law_rows", "_law_right", "_law_told", "_law_error"] ["_law_rows", "_law_right"] (defScope s__law_refused) := ⟨rfl, rfl, rfl, by decide +kernel, rfl, by decide +kernel, by decide +kernel⟩
theorem sc_law : FnScope ["_law_script", "_law_n", "_law_unknowns", "_law_k", "_law_top", "_law_rows", "_law_row_here", "_law_shared", "_law_made", "_law_spoilt", "_law_at", "_law_many", "_law_more", "_law_handed", "_law_side_here", "_law_told", "_law_again"] ["_law_script"] (defScope s_law) := ⟨rfl, rfl, rfl, by decide +kernel, rfl, by decide +kernel, by decide +kernel⟩
theorem lenZ {α : Type} {us : List α} (h : us.length = 0) : us = [] := List.eq_nil_of_length_eq_zero h
theorem lenS {α : Type} {us : List α} {n : Nat} (h : us.length = n + 1) : ∃ a vs, us = a :: vs ∧ vs.length = n := by
  cases us with
  | nil => cases h
  | cons a vs => exact ⟨a, vs, rfl, Nat.succ.inj h⟩
theorem len1 {α : Type} {us : List α} (h : us.length = 1) : ∃ a0, us = [a0] := by
  obtain ⟨a0, us0, rfl, h0⟩ := lenS h
  obtain rfl := lenZ h0
  exact ⟨a0, rfl⟩
theorem len2 {α : Type} {us : List α} (h : us.length = 2) : ∃ a0 a1, us = [a0, a1] := by
  obtain ⟨a0, us0, rfl, h0⟩ := lenS h
  obtain ⟨a1, us1, rfl, h1⟩ := lenS h0
  obtain rfl := lenZ h1
  exact ⟨a0, a1, rfl⟩
theorem len3 {α : Type} {us : List α} (h : us.length = 3) : ∃ a0 a1 a2, us = [a0, a1, a2] := by
  obtain ⟨a0, us0, rfl, h0⟩ := lenS h
  obtain ⟨a1, us1, rfl, h1⟩ := lenS h0
  obtain ⟨a2, us2, rfl, h2⟩ := lenS h1
  obtain rfl := lenZ h2
  exact ⟨a0, a1, a2, rfl⟩
theorem len4 {α : Type} {us : List α} (h : us.length = 4) : ∃ a0 a1 a2 a3, us = [a0, a1, a2, a3] := by
  obtain ⟨a0, us0, rfl, h0⟩ := lenS h
  obtain ⟨a1, us1, rfl, h1⟩ := lenS h0
  obtain ⟨a2, us2, rfl, h2⟩ := lenS h1
  obtain ⟨a3, us3, rfl, h3⟩ := lenS h2
  obtain rfl := lenZ h3
  exact ⟨a0, a1, a2, a3, rfl⟩
set_option genInjectivity false in
set_option genSizeOf false in
set_option genInjectivity false in
set_option genSizeOf false in
structure Dfn (K : PySem.W.Frag) (mg : Str → Option Value) (x qual : Str) (st : Stmt) (ps : List Str) where
  a : Addr
  fd : FuncData
  F : Fun K x qual st a fd
  b : Binds K fd ps []
  m : mg x = some (.ref a)
set_option genInjectivity false in
set_option genSizeOf false in
set_option genInjectivity false in
set_option genSizeOf false in
structure Txt (K : PySem.W.Frag) (mg : Str → Option Value) where
  c_Bare : Addr
  m_Bare : mg "Bare" = some (.ref c_Bare)
  c_Closed : Addr
  m_Closed : mg "Closed" = some (.ref c_Closed)
  c_Gone : Addr
  m_Gone : mg "Gone" = some (.ref c_Gone)
  c_NoAnswer : Addr
  m_NoAnswer : mg "NoAnswer" = some (.ref c_NoAnswer)
  c_NoDeal : Addr
  m_NoDeal : mg "NoDeal" = some (.ref c_NoDeal)
  c_NoLayer : Addr
  m_NoLayer : mg "NoLayer" = some (.ref c_NoLayer)
  c_NoMember : Addr
  m_NoMember : mg "NoMember" = some (.ref c_NoMember)
  c_NoPart : Addr
  m_NoPart : mg "NoPart" = some (.ref c_NoPart)
  c_NoRule : Addr
  m_NoRule : mg "NoRule" = some (.ref c_NoRule)
  c_NoTerms : Addr
  m_NoTerms : mg "NoTerms" = some (.ref c_NoTerms)
  c_Out : Addr
  m_Out : mg "Out" = some (.ref c_Out)
  c_Poor : Addr
  m_Poor : mg "Poor" = some (.ref c_Poor)
  c_QuitsError : Addr
  m_QuitsError : mg "QuitsError" = some (.ref c_QuitsError)
  c_Ringed : Addr
  m_Ringed : mg "Ringed" = some (.ref c_Ringed)
  c_Settled : Addr
  m_Settled : mg "Settled" = some (.ref c_Settled)
  c_Standing : Addr
  m_Standing : mg "Standing" = some (.ref c_Standing)
  c_TooMuch : Addr
  m_TooMuch : mg "TooMuch" = some (.ref c_TooMuch)
  c_Unclosed : Addr
  m_Unclosed : mg "Unclosed" = some (.ref c_Unclosed)
  e_NoAnswer : errOk K c_NoAnswer = true
  i_NoAnswer_Bare : PySem.W.kitOne K (.ref c_NoAnswer) (.ref c_Bare) = some false
  i_NoAnswer_Closed : PySem.W.kitOne K (.ref c_NoAnswer) (.ref c_Closed) = some false
  i_NoAnswer_Gone : PySem.W.kitOne K (.ref c_NoAnswer) (.ref c_Gone) = some false
  i_NoAnswer_NoAnswer : PySem.W.kitOne K (.ref c_NoAnswer) (.ref c_NoAnswer) = some true
  i_NoAnswer_NoDeal : PySem.W.kitOne K (.ref c_NoAnswer) (.ref c_NoDeal) = some false
  i_NoAnswer_NoLayer : PySem.W.kitOne K (.ref c_NoAnswer) (.ref c_NoLayer) = some false
  i_NoAnswer_NoMember : PySem.W.kitOne K (.ref c_NoAnswer) (.ref c_NoMember) = some false
  i_NoAnswer_NoPart : PySem.W.kitOne K (.ref c_NoAnswer) (.ref c_NoPart) = some false
  i_NoAnswer_NoRule : PySem.W.kitOne K (.ref c_NoAnswer) (.ref c_NoRule) = some false
  i_NoAnswer_NoTerms : PySem.W.kitOne K (.ref c_NoAnswer) (.ref c_NoTerms) = some false
  i_NoAnswer_Out : PySem.W.kitOne K (.ref c_NoAnswer) (.ref c_Out) = some false
  i_NoAnswer_Poor : PySem.W.kitOne K (.ref c_NoAnswer) (.ref c_Poor) = some false
  i_NoAnswer_QuitsError : PySem.W.kitOne K (.ref c_NoAnswer) (.ref c_QuitsError) = some true
  i_NoAnswer_Ringed : PySem.W.kitOne K (.ref c_NoAnswer) (.ref c_Ringed) = some false
  i_NoAnswer_Settled : PySem.W.kitOne K (.ref c_NoAnswer) (.ref c_Settled) = some false
  i_NoAnswer_Standing : PySem.W.kitOne K (.ref c_NoAnswer) (.ref c_Standing) = some false
  i_NoAnswer_TooMuch : PySem.W.kitOne K (.ref c_NoAnswer) (.ref c_TooMuch) = some false
  i_NoAnswer_Unclosed : PySem.W.kitOne K (.ref c_NoAnswer) (.ref c_Unclosed) = some false
  i_NoAnswer_ValueError : PySem.W.kitOne K (.ref c_NoAnswer) (.type "ValueError") = some true
  q_NoAnswer_QuitsError : PySem.W.exmOne K (.ref c_NoAnswer) (.ref c_QuitsError) = some true
  e_NoPart : errOk K c_NoPart = true
  i_NoPart_Bare : PySem.W.kitOne K (.ref c_NoPart) (.ref c_Bare) = some false
  i_NoPart_Closed : PySem.W.kitOne K (.ref c_NoPart) (.ref c_Closed) = some false
  i_NoPart_Gone : PySem.W.kitOne K (.ref c_NoPart) (.ref c_Gone) = some false
  i_NoPart_NoAnswer : PySem.W.kitOne K (.ref c_NoPart) (.ref c_NoAnswer) = some false
  i_NoPart_NoDeal : PySem.W.kitOne K (.ref c_NoPart) (.ref c_NoDeal) = some false
  i_NoPart_NoLayer : PySem.W.kitOne K (.ref c_NoPart) (.ref c_NoLayer) = some false
  i_NoPart_NoMember : PySem.W.kitOne K (.ref c_NoPart) (.ref c_NoMember) = some false
  i_NoPart_NoPart : PySem.W.kitOne K (.ref c_NoPart) (.ref c_NoPart) = some true
  i_NoPart_NoRule : PySem.W.kitOne K (.ref c_NoPart) (.ref c_NoRule) = some false
  i_NoPart_NoTerms : PySem.W.kitOne K (.ref c_NoPart) (.ref c_NoTerms) = some false
  i_NoPart_Out : PySem.W.kitOne K (.ref c_NoPart) (.ref c_Out) = some false
  i_NoPart_Poor : PySem.W.kitOne K (.ref c_NoPart) (.ref c_Poor) = some false
  i_NoPart_QuitsError : PySem.W.kitOne K (.ref c_NoPart) (.ref c_QuitsError) = some true
  i_NoPart_Ringed : PySem.W.kitOne K (.ref c_NoPart) (.ref c_Ringed) = some false
  i_NoPart_Settled : PySem.W.kitOne K (.ref c_NoPart) (.ref c_Settled) = some false
  i_NoPart_Standing : PySem.W.kitOne K (.ref c_NoPart) (.ref c_Standing) = some false
  i_NoPart_TooMuch : PySem.W.kitOne K (.ref c_NoPart) (.ref c_TooMuch) = some false
  i_NoPart_Unclosed : PySem.W.kitOne K (.ref c_NoPart) (.ref c_Unclosed) = some false
  i_NoPart_ValueError : PySem.W.kitOne K (.ref c_NoPart) (.type "ValueError") = some true
  q_NoPart_QuitsError : PySem.W.exmOne K (.ref c_NoPart) (.ref c_QuitsError) = some true
  d_divisor : Dfn K mg "divisor" "divisor" s_divisor ["one", "other"]
  d_part : Dfn K mg "part" "part" s_part ["top", "bottom"]
  d_solved : Dfn K mg "solved" "solved" s_solved ["rows", "right"]
  d_whole_row : Dfn K mg "whole_row" "whole_row" s_whole_row ["row"]
  d_with_first : Dfn K mg "with_first" "with_first" s_with_first ["table", "place"]
  d_swept : Dfn K mg "swept" "swept" s_swept ["table", "place", "before"]
  d_swept_row : Dfn K mg "swept_row" "swept_row" s_swept_row ["row", "sweeper", "place", "before"]
  d__law_cell : Dfn K mg "_law_cell" "_law_cell" s__law_cell ["_law_script", "_law_k"]
  d__law_draw : Dfn K mg "_law_draw" "_law_draw" s__law_draw ["_law_script", "_law_k", "_law_prime", "_law_many"]
  d__law_whole : Dfn K mg "_law_whole" "_law_whole" s__law_whole ["_law_thing"]
  d__law_divisor : Dfn K mg "_law_divisor" "_law_divisor" s__law_divisor ["_law_one", "_law_other"]
  d__law_is_part : Dfn K mg "_law_is_part" "_law_is_part" s__law_is_part ["_law_thing"]
  d__law_parts : Dfn K mg "_law_parts" "_law_parts" s__law_parts ["_law_told", "_law_many"]
  d__law_part : Dfn K mg "_law_part" "_law_part" s__law_part ["_law_top", "_law_bottom"]
  d__law_plus : Dfn K mg "_law_plus" "_law_plus" s__law_plus ["_law_one", "_law_other"]
  d__law_row : Dfn K mg "_law_row" "_law_row" s__law_row ["_law_script", "_law_k", "_law_n"]
  d__law_grid : Dfn K mg "_law_grid" "_law_grid" s__law_grid ["_law_script", "_law_n"]
  d__law_mixed : Dfn K mg "_law_mixed" "_law_mixed" s__law_mixed ["_law_script", "_law_rows"]
  d__law_side : Dfn K mg "_law_side" "_law_side" s__law_side ["_law_row_here", "_law_unknowns"]
  d__law_joined : Dfn K mg "_law_joined" "_law_joined" s__law_joined ["_law_one", "_law_many", "_law_other", "_law_more"]
  d__law_of_another : Dfn K mg "_law_of_another" "_law_of_another" s__law_of_another ["_law_error"]
  d__law_refused : Dfn K mg "_law_refused" "_law_refused" s__law_refused ["_law_rows", "_law_right"]
  d_law : Dfn K mg "law" "law" s_law ["_law_script"]
  bl_law : ∀ (s : Shared) (v : Value), BindsTo s d_law.fd ⟨[v], []⟩ [("_law_script", v)]
  z_ValueError : mg "ValueError" = none
  z_abs : mg "abs" = none
  z_bool : mg "bool" = none
  z_enumerate : mg "enumerate" = none
  z_int : mg "int" = none
  z_isinstance : mg "isinstance" = none
  z_len : mg "len" = none
  z_list : mg "list" = none
  z_range : mg "range" = none
  z_tuple : mg "tuple" = none
  z_zip : mg "zip" = none
noncomputable def txt_mk {K : PySem.W.Frag} {h : Heap} {mg : Str → Option Value} (X : K.In h) (G : h.Ns mainGlobals mg)
    {c_Bare : Addr}
    {c_Closed : Addr}
    {c_Gone : Addr}
    {c_NoAnswer : Addr}
    {c_NoDeal : Addr}
    {c_NoLayer : Addr}
    {c_NoMember : Addr}
    {c_NoPart : Addr}
    {c_NoRule : Addr}
    {c_NoTerms : Addr}
    {c_Out : Addr}
    {c_Poor : Addr}
    {c_QuitsError : Addr}
    {c_Ringed : Addr}
    {c_Settled : Addr}
    {c_Standing : Addr}
    {c_TooMuch : Addr}
    {c_Unclosed : Addr}
    {f_divisor : Addr} {oc_divisor kV_divisor dc_divisor pm_divisor cd_divisor ct_divisor : Value} {od_divisor an_divisor : Option Addr} {sl_divisor : Array (Option Value)}
    {f_part : Addr} {oc_part kV_part dc_part pm_part cd_part ct_part : Value} {od_part an_part : Option Addr} {sl_part : Array (Option Value)}
    {f_solved : Addr} {oc_solved kV_solved dc_solved pm_solved cd_solved ct_solved : Value} {od_solved an_solved : Option Addr} {sl_solved : Array (Option Value)}
    {f_whole_row : Addr} {oc_whole_row kV_whole_row dc_whole_row pm_whole_row cd_whole_row ct_whole_row : Value} {od_whole_row an_whole_row : Option Addr} {sl_whole_row : Array (Option Value)}
    {f_with_first : Addr} {oc_with_first kV_with_first dc_with_first pm_with_first cd_with_first ct_with_first : Value} {od_with_first an_with_first : Option Addr} {sl_with_first : Array (Option Value)}
    {f_swept : Addr} {oc_swept kV_swept dc_swept pm_swept cd_swept ct_swept : Value} {od_swept an_swept : Option Addr} {sl_swept : Array (Option Value)}
    {f_swept_row : Addr} {oc_swept_row kV_swept_row dc_swept_row pm_swept_row cd_swept_row ct_swept_row : Value} {od_swept_row an_swept_row : Option Addr} {sl_swept_row : Array (Option Value)}
    {f__law_cell : Addr} {oc__law_cell kV__law_cell dc__law_cell pm__law_cell cd__law_cell ct__law_cell : Value} {od__law_cell an__law_cell : Option Addr} {sl__law_cell : Array (Option Value)}
    {f__law_draw : Addr} {oc__law_draw kV__law_draw dc__law_draw pm__law_draw cd__law_draw ct__law_draw : Value} {od__law_draw an__law_draw : Option Addr} {sl__law_draw : Array (Option Value)}
    {f__law_whole : Addr} {oc__law_whole kV__law_whole dc__law_whole pm__law_whole cd__law_whole ct__law_whole : Value} {od__law_whole an__law_whole : Option Addr} {sl__law_whole : Array (Option Value)}
    {f__law_divisor : Addr} {oc__law_divisor kV__law_divisor dc__law_divisor pm__law_divisor cd__law_divisor ct__law_divisor : Value} {od__law_divisor an__law_divisor : Option Addr} {sl__law_divisor : Array (Option Value)}
    {f__law_is_part : Addr} {oc__law_is_part kV__law_is_part dc__law_is_part pm__law_is_part cd__law_is_part ct__law_is_part : Value} {od__law_is_part an__law_is_part : Option Addr} {sl__law_is_part : Array (Option Value)}
    {f__law_parts : Addr} {oc__law_parts kV__law_parts dc__law_parts pm__law_parts cd__law_parts ct__law_parts : Value} {od__law_parts an__law_parts : Option Addr} {sl__law_parts : Array (Option Value)}
    {f__law_part : Addr} {oc__law_part kV__law_part dc__law_part pm__law_part cd__law_part ct__law_part : Value} {od__law_part an__law_part : Option Addr} {sl__law_part : Array (Option Value)}
    {f__law_plus : Addr} {oc__law_plus kV__law_plus dc__law_plus pm__law_plus cd__law_plus ct__law_plus : Value} {od__law_plus an__law_plus : Option Addr} {sl__law_plus : Array (Option Value)}
    {f__law_row : Addr} {oc__law_row kV__law_row dc__law_row pm__law_row cd__law_row ct__law_row : Value} {od__law_row an__law_row : Option Addr} {sl__law_row : Array (Option Value)}
    {f__law_grid : Addr} {oc__law_grid kV__law_grid dc__law_grid pm__law_grid cd__law_grid ct__law_grid : Value} {od__law_grid an__law_grid : Option Addr} {sl__law_grid : Array (Option Value)}
    {f__law_mixed : Addr} {oc__law_mixed kV__law_mixed dc__law_mixed pm__law_mixed cd__law_mixed ct__law_mixed : Value} {od__law_mixed an__law_mixed : Option Addr} {sl__law_mixed : Array (Option Value)}
    {f__law_side : Addr} {oc__law_side kV__law_side dc__law_side pm__law_side cd__law_side ct__law_side : Value} {od__law_side an__law_side : Option Addr} {sl__law_side : Array (Option Value)}
    {f__law_joined : Addr} {oc__law_joined kV__law_joined dc__law_joined pm__law_joined cd__law_joined ct__law_joined : Value} {od__law_joined an__law_joined : Option Addr} {sl__law_joined : Array (Option Value)}
    {f__law_of_another : Addr} {oc__law_of_another kV__law_of_another dc__law_of_another pm__law_of_another cd__law_of_another ct__law_of_another : Value} {od__law_of_another an__law_of_another : Option Addr} {sl__law_of_another : Array (Option Value)}
    {f__law_refused : Addr} {oc__law_refused kV__law_refused dc__law_refused pm__law_refused cd__law_refused ct__law_refused : Value} {od__law_refused an__law_refused : Option Addr} {sl__law_refused : Array (Option Value)}
    {f_law : Addr} {oc_law kV_law dc_law pm_law cd_law ct_law : Value} {od_law an_law : Option Addr} {sl_law : Array (Option Value)}
    (m_Bare : PySem.W.nsIn K mainGlobals "Bare" = some (some (.ref c_Bare)))
    (m_Closed : PySem.W.nsIn K mainGlobals "Closed" = some (some (.ref c_Closed)))
    (m_Gone : PySem.W.nsIn K mainGlobals "Gone" = some (some (.ref c_Gone)))
    (m_NoAnswer : PySem.W.nsIn K mainGlobals "NoAnswer" = some (some (.ref c_NoAnswer)))
    (m_NoDeal : PySem.W.nsIn K mainGlobals "NoDeal" = some (some (.ref c_NoDeal)))
    (m_NoLayer : PySem.W.nsIn K mainGlobals "NoLayer" = some (some (.ref c_NoLayer)))
    (m_NoMember : PySem.W.nsIn K mainGlobals "NoMember" = some (some (.ref c_NoMember)))
    (m_NoPart : PySem.W.nsIn K mainGlobals "NoPart" = some (some (.ref c_NoPart)))
    (m_NoRule : PySem.W.nsIn K mainGlobals "NoRule" = some (some (.ref c_NoRule)))
    (m_NoTerms : PySem.W.nsIn K mainGlobals "NoTerms" = some (some (.ref c_NoTerms)))
    (m_Out : PySem.W.nsIn K mainGlobals "Out" = some (some (.ref c_Out)))
    (m_Poor : PySem.W.nsIn K mainGlobals "Poor" = some (some (.ref c_Poor)))
    (m_QuitsError : PySem.W.nsIn K mainGlobals "QuitsError" = some (some (.ref c_QuitsError)))
    (m_Ringed : PySem.W.nsIn K mainGlobals "Ringed" = some (some (.ref c_Ringed)))
    (m_Settled : PySem.W.nsIn K mainGlobals "Settled" = some (some (.ref c_Settled)))
    (m_Standing : PySem.W.nsIn K mainGlobals "Standing" = some (some (.ref c_Standing)))
    (m_TooMuch : PySem.W.nsIn K mainGlobals "TooMuch" = some (some (.ref c_TooMuch)))
    (m_Unclosed : PySem.W.nsIn K mainGlobals "Unclosed" = some (some (.ref c_Unclosed)))
    (hd_Bare : PySem.W.hasDictIn K c_Bare = true) (ty_Bare : PySem.W.typeIn K (.ref c_Bare) = some (.type "type"))
    (hd_Closed : PySem.W.hasDictIn K c_Closed = true) (ty_Closed : PySem.W.typeIn K (.ref c_Closed) = some (.type "type"))
    (hd_Gone : PySem.W.hasDictIn K c_Gone = true) (ty_Gone : PySem.W.typeIn K (.ref c_Gone) = some (.type "type"))
    (hd_NoAnswer : PySem.W.hasDictIn K c_NoAnswer = true) (ty_NoAnswer : PySem.W.typeIn K (.ref c_NoAnswer) = some (.type "type"))
    (hd_NoDeal : PySem.W.hasDictIn K c_NoDeal = true) (ty_NoDeal : PySem.W.typeIn K (.ref c_NoDeal) = some (.type "type"))
    (hd_NoLayer : PySem.W.hasDictIn K c_NoLayer = true) (ty_NoLayer : PySem.W.typeIn K (.ref c_NoLayer) = some (.type "type"))
    (hd_NoMember : PySem.W.hasDictIn K c_NoMember = true) (ty_NoMember : PySem.W.typeIn K (.ref c_NoMember) = some (.type "type"))
    (hd_NoPart : PySem.W.hasDictIn K c_NoPart = true) (ty_NoPart : PySem.W.typeIn K (.ref c_NoPart) = some (.type "type"))
    (hd_NoRule : PySem.W.hasDictIn K c_NoRule = true) (ty_NoRule : PySem.W.typeIn K (.ref c_NoRule) = some (.type "type"))
    (hd_NoTerms : PySem.W.hasDictIn K c_NoTerms = true) (ty_NoTerms : PySem.W.typeIn K (.ref c_NoTerms) = some (.type "type"))
    (hd_Out : PySem.W.hasDictIn K c_Out = true) (ty_Out : PySem.W.typeIn K (.ref c_Out) = some (.type "type"))
    (hd_Poor : PySem.W.hasDictIn K c_Poor = true) (ty_Poor : PySem.W.typeIn K (.ref c_Poor) = some (.type "type"))
    (hd_QuitsError : PySem.W.hasDictIn K c_QuitsError = true) (ty_QuitsError : PySem.W.typeIn K (.ref c_QuitsError) = some (.type "type"))
    (hd_Ringed : PySem.W.hasDictIn K c_Ringed = true) (ty_Ringed : PySem.W.typeIn K (.ref c_Ringed) = some (.type "type"))
    (hd_Settled : PySem.W.hasDictIn K c_Settled = true) (ty_Settled : PySem.W.typeIn K (.ref c_Settled) = some (.type "type"))
    (hd_Standing : PySem.W.hasDictIn K c_Standing = true) (ty_Standing : PySem.W.typeIn K (.ref c_Standing) = some (.type "type"))
    (hd_TooMuch : PySem.W.hasDictIn K c_TooMuch = true) (ty_TooMuch : PySem.W.typeIn K (.ref c_TooMuch) = some (.type "type"))
    (hd_Unclosed : PySem.W.hasDictIn K c_Unclosed = true) (ty_Unclosed : PySem.W.typeIn K (.ref c_Unclosed) = some (.type "type"))
    (sn_ : PySem.W.specialIn K (.builtin "object.__class__") "__get__" = some (some (.builtin "getset_descriptor.__get__"))) (tk_ : PySem.W.takesIn K (.builtin "object.__class__") = some true)
    (b_QuitsError : PySem.W.subIn K (.ref c_QuitsError) (.type "BaseException") = some true)
    (x_NoAnswer : PySem.W.excIn K c_NoAnswer [.type "ValueError", .type "Exception", .type "BaseException", .type "object"] "ValueError.__new__" = true) (ga_NoAnswer : PySem.W.findIn K (.ref c_NoAnswer) "__getattribute__" = some (some (.builtin "BaseException.__getattribute__"))) (gn_NoAnswer : PySem.W.findIn K (.ref c_NoAnswer) "__getattr__" = some none) (be_NoAnswer : PySem.W.mroIn K c_NoAnswer (.type "BaseException") = some true) (fa_NoAnswer : PySem.W.findIn K (.ref c_NoAnswer) "__class__" = some (some (.builtin "object.__class__"))) (mo_NoAnswer : PySem.W.mroIn K c_NoAnswer (.type "object") = some true)
    (s_NoAnswer_Bare : PySem.W.subIn K (.ref c_NoAnswer) (.ref c_Bare) = some false)
    (n_NoAnswer_Bare : c_NoAnswer ≠ c_Bare)
    (s_NoAnswer_Closed : PySem.W.subIn K (.ref c_NoAnswer) (.ref c_Closed) = some false)
    (n_NoAnswer_Closed : c_NoAnswer ≠ c_Closed)
    (s_NoAnswer_Gone : PySem.W.subIn K (.ref c_NoAnswer) (.ref c_Gone) = some false)
    (n_NoAnswer_Gone : c_NoAnswer ≠ c_Gone)
    (s_NoAnswer_NoAnswer : PySem.W.subIn K (.ref c_NoAnswer) (.ref c_NoAnswer) = some true)
    (s_NoAnswer_NoDeal : PySem.W.subIn K (.ref c_NoAnswer) (.ref c_NoDeal) = some false)
    (n_NoAnswer_NoDeal : c_NoAnswer ≠ c_NoDeal)
    (s_NoAnswer_NoLayer : PySem.W.subIn K (.ref c_NoAnswer) (.ref c_NoLayer) = some false)
    (n_NoAnswer_NoLayer : c_NoAnswer ≠ c_NoLayer)
    (s_NoAnswer_NoMember : PySem.W.subIn K (.ref c_NoAnswer) (.ref c_NoMember) = some false)
    (n_NoAnswer_NoMember : c_NoAnswer ≠ c_NoMember)
    (s_NoAnswer_NoPart : PySem.W.subIn K (.ref c_NoAnswer) (.ref c_NoPart) = some false)
    (n_NoAnswer_NoPart : c_NoAnswer ≠ c_NoPart)
    (s_NoAnswer_NoRule : PySem.W.subIn K (.ref c_NoAnswer) (.ref c_NoRule) = some false)
    (n_NoAnswer_NoRule : c_NoAnswer ≠ c_NoRule)
    (s_NoAnswer_NoTerms : PySem.W.subIn K (.ref c_NoAnswer) (.ref c_NoTerms) = some false)
    (n_NoAnswer_NoTerms : c_NoAnswer ≠ c_NoTerms)
    (s_NoAnswer_Out : PySem.W.subIn K (.ref c_NoAnswer) (.ref c_Out) = some false)
    (n_NoAnswer_Out : c_NoAnswer ≠ c_Out)
    (s_NoAnswer_Poor : PySem.W.subIn K (.ref c_NoAnswer) (.ref c_Poor) = some false)
    (n_NoAnswer_Poor : c_NoAnswer ≠ c_Poor)
    (s_NoAnswer_QuitsError : PySem.W.subIn K (.ref c_NoAnswer) (.ref c_QuitsError) = some true)
    (n_NoAnswer_QuitsError : c_NoAnswer ≠ c_QuitsError)
    (s_NoAnswer_Ringed : PySem.W.subIn K (.ref c_NoAnswer) (.ref c_Ringed) = some false)
    (n_NoAnswer_Ringed : c_NoAnswer ≠ c_Ringed)
    (s_NoAnswer_Settled : PySem.W.subIn K (.ref c_NoAnswer) (.ref c_Settled) = some false)
    (n_NoAnswer_Settled : c_NoAnswer ≠ c_Settled)
    (s_NoAnswer_Standing : PySem.W.subIn K (.ref c_NoAnswer) (.ref c_Standing) = some false)
    (n_NoAnswer_Standing : c_NoAnswer ≠ c_Standing)
    (s_NoAnswer_TooMuch : PySem.W.subIn K (.ref c_NoAnswer) (.ref c_TooMuch) = some false)
    (n_NoAnswer_TooMuch : c_NoAnswer ≠ c_TooMuch)
    (s_NoAnswer_Unclosed : PySem.W.subIn K (.ref c_NoAnswer) (.ref c_Unclosed) = some false)
    (n_NoAnswer_Unclosed : c_NoAnswer ≠ c_Unclosed)
    (v_NoAnswer : PySem.W.subIn K (.ref c_NoAnswer) (.type "ValueError") = some true)
    (x_NoPart : PySem.W.excIn K c_NoPart [.type "ValueError", .type "Exception", .type "BaseException", .type "object"] "ValueError.__new__" = true) (ga_NoPart : PySem.W.findIn K (.ref c_NoPart) "__getattribute__" = some (some (.builtin "BaseException.__getattribute__"))) (gn_NoPart : PySem.W.findIn K (.ref c_NoPart) "__getattr__" = some none) (be_NoPart : PySem.W.mroIn K c_NoPart (.type "BaseException") = some true) (fa_NoPart : PySem.W.findIn K (.ref c_NoPart) "__class__" = some (some (.builtin "object.__class__"))) (mo_NoPart : PySem.W.mroIn K c_NoPart (.type "object") = some true)
    (s_NoPart_Bare : PySem.W.subIn K (.ref c_NoPart) (.ref c_Bare) = some false)
    (n_NoPart_Bare : c_NoPart ≠ c_Bare)
    (s_NoPart_Closed : PySem.W.subIn K (.ref c_NoPart) (.ref c_Closed) = some false)
    (n_NoPart_Closed : c_NoPart ≠ c_Closed)
    (s_NoPart_Gone : PySem.W.subIn K (.ref c_NoPart) (.ref c_Gone) = some false)
    (n_NoPart_Gone : c_NoPart ≠ c_Gone)
    (s_NoPart_NoAnswer : PySem.W.subIn K (.ref c_NoPart) (.ref c_NoAnswer) = some false)
    (n_NoPart_NoAnswer : c_NoPart ≠ c_NoAnswer)
    (s_NoPart_NoDeal : PySem.W.subIn K (.ref c_NoPart) (.ref c_NoDeal) = some false)
    (n_NoPart_NoDeal : c_NoPart ≠ c_NoDeal)
    (s_NoPart_NoLayer : PySem.W.subIn K (.ref c_NoPart) (.ref c_NoLayer) = some false)
    (n_NoPart_NoLayer : c_NoPart ≠ c_NoLayer)
    (s_NoPart_NoMember : PySem.W.subIn K (.ref c_NoPart) (.ref c_NoMember) = some false)
    (n_NoPart_NoMember : c_NoPart ≠ c_NoMember)
    (s_NoPart_NoPart : PySem.W.subIn K (.ref c_NoPart) (.ref c_NoPart) = some true)
    (s_NoPart_NoRule : PySem.W.subIn K (.ref c_NoPart) (.ref c_NoRule) = some false)
    (n_NoPart_NoRule : c_NoPart ≠ c_NoRule)
    (s_NoPart_NoTerms : PySem.W.subIn K (.ref c_NoPart) (.ref c_NoTerms) = some false)
    (n_NoPart_NoTerms : c_NoPart ≠ c_NoTerms)
    (s_NoPart_Out : PySem.W.subIn K (.ref c_NoPart) (.ref c_Out) = some false)
    (n_NoPart_Out : c_NoPart ≠ c_Out)
    (s_NoPart_Poor : PySem.W.subIn K (.ref c_NoPart) (.ref c_Poor) = some false)
    (n_NoPart_Poor : c_NoPart ≠ c_Poor)
    (s_NoPart_QuitsError : PySem.W.subIn K (.ref c_NoPart) (.ref c_QuitsError) = some true)
    (n_NoPart_QuitsError : c_NoPart ≠ c_QuitsError)
    (s_NoPart_Ringed : PySem.W.subIn K (.ref c_NoPart) (.ref c_Ringed) = some false)
    (n_NoPart_Ringed : c_NoPart ≠ c_Ringed)
    (s_NoPart_Settled : PySem.W.subIn K (.ref c_NoPart) (.ref c_Settled) = some false)
    (n_NoPart_Settled : c_NoPart ≠ c_Settled)
    (s_NoPart_Standing : PySem.W.subIn K (.ref c_NoPart) (.ref c_Standing) = some false)
    (n_NoPart_Standing : c_NoPart ≠ c_Standing)
    (s_NoPart_TooMuch : PySem.W.subIn K (.ref c_NoPart) (.ref c_TooMuch) = some false)
    (n_NoPart_TooMuch : c_NoPart ≠ c_TooMuch)
    (s_NoPart_Unclosed : PySem.W.subIn K (.ref c_NoPart) (.ref c_Unclosed) = some false)
    (n_NoPart_Unclosed : c_NoPart ≠ c_Unclosed)
    (v_NoPart : PySem.W.subIn K (.ref c_NoPart) (.type "ValueError") = some true)
    (a_divisor : PySem.W.nsIn K mainGlobals "divisor" = some (some (.ref f_divisor))) (l_divisor : K.lookup f_divisor = some ⟨oc_divisor, od_divisor, .func (PySem.W.fnOf "divisor" "divisor" (defArgs s_divisor) (defBody s_divisor) (defScope s_divisor) .none kV_divisor dc_divisor pm_divisor an_divisor cd_divisor ct_divisor), sl_divisor⟩) (c_divisor : PySem.W.codeIn K cd_divisor "divisor" = true) (k_divisor : PySem.W.keepIn K (.ref f_divisor) = true)
    (a_part : PySem.W.nsIn K mainGlobals "part" = some (some (.ref f_part))) (l_part : K.lookup f_part = some ⟨oc_part, od_part, .func (PySem.W.fnOf "part" "part" (defArgs s_part) (defBody s_part) (defScope s_part) .none kV_part dc_part pm_part an_part cd_part ct_part), sl_part⟩) (c_part : PySem.W.codeIn K cd_part "part" = true) (k_part : PySem.W.keepIn K (.ref f_part) = true)
    (a_solved : PySem.W.nsIn K mainGlobals "solved" = some (some (.ref f_solved))) (l_solved : K.lookup f_solved = some ⟨oc_solved, od_solved, .func (PySem.W.fnOf "solved" "solved" (defArgs s_solved) (defBody s_solved) (defScope s_solved) .none kV_solved dc_solved pm_solved an_solved cd_solved ct_solved), sl_solved⟩) (c_solved : PySem.W.codeIn K cd_solved "solved" = true) (k_solved : PySem.W.keepIn K (.ref f_solved) = true)
    (a_whole_row : PySem.W.nsIn K mainGlobals "whole_row" = some (some (.ref f_whole_row))) (l_whole_row : K.lookup f_whole_row = some ⟨oc_whole_row, od_whole_row, .func (PySem.W.fnOf "whole_row" "whole_row" (defArgs s_whole_row) (defBody s_whole_row) (defScope s_whole_row) .none kV_whole_row dc_whole_row pm_whole_row an_whole_row cd_whole_row ct_whole_row), sl_whole_row⟩) (c_whole_row : PySem.W.codeIn K cd_whole_row "whole_row" = true) (k_whole_row : PySem.W.keepIn K (.ref f_whole_row) = true)
    (a_with_first : PySem.W.nsIn K mainGlobals "with_first" = some (some (.ref f_with_first))) (l_with_first : K.lookup f_with_first = some ⟨oc_with_first, od_with_first, .func (PySem.W.fnOf "with_first" "with_first" (defArgs s_with_first) (defBody s_with_first) (defScope s_with_first) .none kV_with_first dc_with_first pm_with_first an_with_first cd_with_first ct_with_first), sl_with_first⟩) (c_with_first : PySem.W.codeIn K cd_with_first "with_first" = true) (k_with_first : PySem.W.keepIn K (.ref f_with_first) = true)
    (a_swept : PySem.W.nsIn K mainGlobals "swept" = some (some (.ref f_swept))) (l_swept : K.lookup f_swept = some ⟨oc_swept, od_swept, .func (PySem.W.fnOf "swept" "swept" (defArgs s_swept) (defBody s_swept) (defScope s_swept) .none kV_swept dc_swept pm_swept an_swept cd_swept ct_swept), sl_swept⟩) (c_swept : PySem.W.codeIn K cd_swept "swept" = true) (k_swept : PySem.W.keepIn K (.ref f_swept) = true)
    (a_swept_row : PySem.W.nsIn K mainGlobals "swept_row" = some (some (.ref f_swept_row))) (l_swept_row : K.lookup f_swept_row = some ⟨oc_swept_row, od_swept_row, .func (PySem.W.fnOf "swept_row" "swept_row" (defArgs s_swept_row) (defBody s_swept_row) (defScope s_swept_row) .none kV_swept_row dc_swept_row pm_swept_row an_swept_row cd_swept_row ct_swept_row), sl_swept_row⟩) (c_swept_row : PySem.W.codeIn K cd_swept_row "swept_row" = true) (k_swept_row : PySem.W.keepIn K (.ref f_swept_row) = true)
    (a__law_cell : PySem.W.nsIn K mainGlobals "_law_cell" = some (some (.ref f__law_cell))) (l__law_cell : K.lookup f__law_cell = some ⟨oc__law_cell, od__law_cell, .func (PySem.W.fnOf "_law_cell" "_law_cell" (defArgs s__law_cell) (defBody s__law_cell) (defScope s__law_cell) .none kV__law_cell dc__law_cell pm__law_cell an__law_cell cd__law_cell ct__law_cell), sl__law_cell⟩) (c__law_cell : PySem.W.codeIn K cd__law_cell "_law_cell" = true) (k__law_cell : PySem.W.keepIn K (.ref f__law_cell) = true)
    (a__law_draw : PySem.W.nsIn K mainGlobals "_law_draw" = some (some (.ref f__law_draw))) (l__law_draw : K.lookup f__law_draw = some ⟨oc__law_draw, od__law_draw, .func (PySem.W.fnOf "_law_draw" "_law_draw" (defArgs s__law_draw) (defBody s__law_draw) (defScope s__law_draw) .none kV__law_draw dc__law_draw pm__law_draw an__law_draw cd__law_draw ct__law_draw), sl__law_draw⟩) (c__law_draw : PySem.W.codeIn K cd__law_draw "_law_draw" = true) (k__law_draw : PySem.W.keepIn K (.ref f__law_draw) = true)
    (a__law_whole : PySem.W.nsIn K mainGlobals "_law_whole" = some (some (.ref f__law_whole))) (l__law_whole : K.lookup f__law_whole = some ⟨oc__law_whole, od__law_whole, .func (PySem.W.fnOf "_law_whole" "_law_whole" (defArgs s__law_whole) (defBody s__law_whole) (defScope s__law_whole) .none kV__law_whole dc__law_whole pm__law_whole an__law_whole cd__law_whole ct__law_whole), sl__law_whole⟩) (c__law_whole : PySem.W.codeIn K cd__law_whole "_law_whole" = true) (k__law_whole : PySem.W.keepIn K (.ref f__law_whole) = true)
    (a__law_divisor : PySem.W.nsIn K mainGlobals "_law_divisor" = some (some (.ref f__law_divisor))) (l__law_divisor : K.lookup f__law_divisor = some ⟨oc__law_divisor, od__law_divisor, .func (PySem.W.fnOf "_law_divisor" "_law_divisor" (defArgs s__law_divisor) (defBody s__law_divisor) (defScope s__law_divisor) .none kV__law_divisor dc__law_divisor pm__law_divisor an__law_divisor cd__law_divisor ct__law_divisor), sl__law_divisor⟩) (c__law_divisor : PySem.W.codeIn K cd__law_divisor "_law_divisor" = true) (k__law_divisor : PySem.W.keepIn K (.ref f__law_divisor) = true)
    (a__law_is_part : PySem.W.nsIn K mainGlobals "_law_is_part" = some (some (.ref f__law_is_part))) (l__law_is_part : K.lookup f__law_is_part = some ⟨oc__law_is_part, od__law_is_part, .func (PySem.W.fnOf "_law_is_part" "_law_is_part" (defArgs s__law_is_part) (defBody s__law_is_part) (defScope s__law_is_part) .none kV__law_is_part dc__law_is_part pm__law_is_part an__law_is_part cd__law_is_part ct__law_is_part), sl__law_is_part⟩) (c__law_is_part : PySem.W.codeIn K cd__law_is_part "_law_is_part" = true) (k__law_is_part : PySem.W.keepIn K (.ref f__law_is_part) = true)
    (a__law_parts : PySem.W.nsIn K mainGlobals "_law_parts" = some (some (.ref f__law_parts))) (l__law_parts : K.lookup f__law_parts = some ⟨oc__law_parts, od__law_parts, .func (PySem.W.fnOf "_law_parts" "_law_parts" (defArgs s__law_parts) (defBody s__law_parts) (defScope s__law_parts) .none kV__law_parts dc__law_parts pm__law_parts an__law_parts cd__law_parts ct__law_parts), sl__law_parts⟩) (c__law_parts : PySem.W.codeIn K cd__law_parts "_law_parts" = true) (k__law_parts : PySem.W.keepIn K (.ref f__law_parts) = true)
    (a__law_part : PySem.W.nsIn K mainGlobals "_law_part" = some (some (.ref f__law_part))) (l__law_part : K.lookup f__law_part = some ⟨oc__law_part, od__law_part, .func (PySem.W.fnOf "_law_part" "_law_part" (defArgs s__law_part) (defBody s__law_part) (defScope s__law_part) .none kV__law_part dc__law_part pm__law_part an__law_part cd__law_part ct__law_part), sl__law_part⟩) (c__law_part : PySem.W.codeIn K cd__law_part "_law_part" = true) (k__law_part : PySem.W.keepIn K (.ref f__law_part) = true)
    (a__law_plus : PySem.W.nsIn K mainGlobals "_law_plus" = some (some (.ref f__law_plus))) (l__law_plus : K.lookup f__law_plus = some ⟨oc__law_plus, od__law_plus, .func (PySem.W.fnOf "_law_plus" "_law_plus" (defArgs s__law_plus) (defBody s__law_plus) (defScope s__law_plus) .none kV__law_plus dc__law_plus pm__law_plus an__law_plus cd__law_plus ct__law_plus), sl__law_plus⟩) (c__law_plus : PySem.W.codeIn K cd__law_plus "_law_plus" = true) (k__law_plus : PySem.W.keepIn K (.ref f__law_plus) = true)
    (a__law_row : PySem.W.nsIn K mainGlobals "_law_row" = some (some (.ref f__law_row))) (l__law_row : K.lookup f__law_row = some ⟨oc__law_row, od__law_row, .func (PySem.W.fnOf "_law_row" "_law_row" (defArgs s__law_row) (defBody s__law_row) (defScope s__law_row) .none kV__law_row dc__law_row pm__law_row an__law_row cd__law_row ct__law_row), sl__law_row⟩) (c__law_row : PySem.W.codeIn K cd__law_row "_law_row" = true) (k__law_row : PySem.W.keepIn K (.ref f__law_row) = true)
    (a__law_grid : PySem.W.nsIn K mainGlobals "_law_grid" = some (some (.ref f__law_grid))) (l__law_grid : K.lookup f__law_grid = some ⟨oc__law_grid, od__law_grid, .func (PySem.W.fnOf "_law_grid" "_law_grid" (defArgs s__law_grid) (defBody s__law_grid) (defScope s__law_grid) .none kV__law_grid dc__law_grid pm__law_grid an__law_grid cd__law_grid ct__law_grid), sl__law_grid⟩) (c__law_grid : PySem.W.codeIn K cd__law_grid "_law_grid" = true) (k__law_grid : PySem.W.keepIn K (.ref f__law_grid) = true)
    (a__law_mixed : PySem.W.nsIn K mainGlobals "_law_mixed" = some (some (.ref f__law_mixed))) (l__law_mixed : K.lookup f__law_mixed = some ⟨oc__law_mixed, od__law_mixed, .func (PySem.W.fnOf "_law_mixed" "_law_mixed" (defArgs s__law_mixed) (defBody s__law_mixed) (defScope s__law_mixed) .none kV__law_mixed dc__law_mixed pm__law_mixed an__law_mixed cd__law_mixed ct__law_mixed), sl__law_mixed⟩) (c__law_mixed : PySem.W.codeIn K cd__law_mixed "_law_mixed" = true) (k__law_mixed : PySem.W.keepIn K (.ref f__law_mixed) = true)
    (a__law_side : PySem.W.nsIn K mainGlobals "_law_side" = some (some (.ref f__law_side))) (l__law_side : K.lookup f__law_side = some ⟨oc__law_side, od__law_side, .func (PySem.W.fnOf "_law_side" "_law_side" (defArgs s__law_side) (defBody s__law_side) (defScope s__law_side) .none kV__law_side dc__law_side pm__law_side an__law_side cd__law_side ct__law_side), sl__law_side⟩) (c__law_side : PySem.W.codeIn K cd__law_side "_law_side" = true) (k__law_side : PySem.W.keepIn K (.ref f__law_side) = true)
    (a__law_joined : PySem.W.nsIn K mainGlobals "_law_joined" = some (some (.ref f__law_joined))) (l__law_joined : K.lookup f__law_joined = some ⟨oc__law_joined, od__law_joined, .func (PySem.W.fnOf "_law_joined" "_law_joined" (defArgs s__law_joined) (defBody s__law_joined) (defScope s__law_joined) .none kV__law_joined dc__law_joined pm__law_joined an__law_joined cd__law_joined ct__law_joined), sl__law_joined⟩) (c__law_joined : PySem.W.codeIn K cd__law_joined "_law_joined" = true) (k__law_joined : PySem.W.keepIn K (.ref f__law_joined) = true)
    (a__law_of_another : PySem.W.nsIn K mainGlobals "_law_of_another" = some (some (.ref f__law_of_another))) (l__law_of_another : K.lookup f__law_of_another = some ⟨oc__law_of_another, od__law_of_another, .func (PySem.W.fnOf "_law_of_another" "_law_of_another" (defArgs s__law_of_another) (defBody s__law_of_another) (defScope s__law_of_another) .none kV__law_of_another dc__law_of_another pm__law_of_another an__law_of_another cd__law_of_another ct__law_of_another), sl__law_of_another⟩) (c__law_of_another : PySem.W.codeIn K cd__law_of_another "_law_of_another" = true) (k__law_of_another : PySem.W.keepIn K (.ref f__law_of_another) = true)
    (a__law_refused : PySem.W.nsIn K mainGlobals "_law_refused" = some (some (.ref f__law_refused))) (l__law_refused : K.lookup f__law_refused = some ⟨oc__law_refused, od__law_refused, .func (PySem.W.fnOf "_law_refused" "_law_refused" (defArgs s__law_refused) (defBody s__law_refused) (defScope s__law_refused) .none kV__law_refused dc__law_refused pm__law_refused an__law_refused cd__law_refused ct__law_refused), sl__law_refused⟩) (c__law_refused : PySem.W.codeIn K cd__law_refused "_law_refused" = true) (k__law_refused : PySem.W.keepIn K (.ref f__law_refused) = true)
    (a_law : PySem.W.nsIn K mainGlobals "law" = some (some (.ref f_law))) (l_law : K.lookup f_law = some ⟨oc_law, od_law, .func (PySem.W.fnOf "law" "law" (defArgs s_law) (defBody s_law) (defScope s_law) .none kV_law dc_law pm_law an_law cd_law ct_law), sl_law⟩) (c_law : PySem.W.codeIn K cd_law "law" = true) (k_law : PySem.W.keepIn K (.ref f_law) = true)
    (w_ValueError : PySem.W.nsIn K mainGlobals "ValueError" = some none)
    (w_abs : PySem.W.nsIn K mainGlobals "abs" = some none)
    (w_bool : PySem.W.nsIn K mainGlobals "bool" = some none)
    (w_enumerate : PySem.W.nsIn K mainGlobals "enumerate" = some none)
    (w_int : PySem.W.nsIn K mainGlobals "int" = some none)
    (w_isinstance : PySem.W.nsIn K mainGlobals "isinstance" = some none)
    (w_len : PySem.W.nsIn K mainGlobals "len" = some none)
    (w_list : PySem.W.nsIn K mainGlobals "list" = some none)
    (w_range : PySem.W.nsIn K mainGlobals "range" = some none)
    (w_tuple : PySem.W.nsIn K mainGlobals "tuple" = some none)
    (w_zip : PySem.W.nsIn K mainGlobals "zip" = some none) : Txt K mg := {
    c_Bare := c_Bare, m_Bare := PySem.W.mg_of X G m_Bare,
    c_Closed := c_Closed, m_Closed := PySem.W.mg_of X G m_Closed,
    c_Gone := c_Gone, m_Gone := PySem.W.mg_of X G m_Gone,
    c_NoAnswer := c_NoAnswer, m_NoAnswer := PySem.W.mg_of X G m_NoAnswer,
    c_NoDeal := c_NoDeal, m_NoDeal := PySem.W.mg_of X G m_NoDeal,
    c_NoLayer := c_NoLayer, m_NoLayer := PySem.W.mg_of X G m_NoLayer,
    c_NoMember := c_NoMember, m_NoMember := PySem.W.mg_of X G m_NoMember,
    c_NoPart := c_NoPart, m_NoPart := PySem.W.mg_of X G m_NoPart,
    c_NoRule := c_NoRule, m_NoRule := PySem.W.mg_of X G m_NoRule,
    c_NoTerms := c_NoTerms, m_NoTerms := PySem.W.mg_of X G m_NoTerms,
    c_Out := c_Out, m_Out := PySem.W.mg_of X G m_Out,
    c_Poor := c_Poor, m_Poor := PySem.W.mg_of X G m_Poor,
    c_QuitsError := c_QuitsError, m_QuitsError := PySem.W.mg_of X G m_QuitsError,
    c_Ringed := c_Ringed, m_Ringed := PySem.W.mg_of X G m_Ringed,
    c_Settled := c_Settled, m_Settled := PySem.W.mg_of X G m_Settled,
    c_Standing := c_Standing, m_Standing := PySem.W.mg_of X G m_Standing,
    c_TooMuch := c_TooMuch, m_TooMuch := PySem.W.mg_of X G m_TooMuch,
    c_Unclosed := c_Unclosed, m_Unclosed := PySem.W.mg_of X G m_Unclosed,
    e_NoAnswer := errOk_mk x_NoAnswer ga_NoAnswer gn_NoAnswer be_NoAnswer hd_NoAnswer fa_NoAnswer sn_ tk_ mo_NoAnswer,
    i_NoAnswer_Bare := kit_ne n_NoAnswer_Bare hd_Bare ty_Bare s_NoAnswer_Bare,
    i_NoAnswer_Closed := kit_ne n_NoAnswer_Closed hd_Closed ty_Closed s_NoAnswer_Closed,
    i_NoAnswer_Gone := kit_ne n_NoAnswer_Gone hd_Gone ty_Gone s_NoAnswer_Gone,
    i_NoAnswer_NoAnswer := kit_self,
    i_NoAnswer_NoDeal := kit_ne n_NoAnswer_NoDeal hd_NoDeal ty_NoDeal s_NoAnswer_NoDeal,
    i_NoAnswer_NoLayer := kit_ne n_NoAnswer_NoLayer hd_NoLayer ty_NoLayer s_NoAnswer_NoLayer,
    i_NoAnswer_NoMember := kit_ne n_NoAnswer_NoMember hd_NoMember ty_NoMember s_NoAnswer_NoMember,
    i_NoAnswer_NoPart := kit_ne n_NoAnswer_NoPart hd_NoPart ty_NoPart s_NoAnswer_NoPart,
    i_NoAnswer_NoRule := kit_ne n_NoAnswer_NoRule hd_NoRule ty_NoRule s_NoAnswer_NoRule,
    i_NoAnswer_NoTerms := kit_ne n_NoAnswer_NoTerms hd_NoTerms ty_NoTerms s_NoAnswer_NoTerms,
    i_NoAnswer_Out := kit_ne n_NoAnswer_Out hd_Out ty_Out s_NoAnswer_Out,
    i_NoAnswer_Poor := kit_ne n_NoAnswer_Poor hd_Poor ty_Poor s_NoAnswer_Poor,
    i_NoAnswer_QuitsError := kit_ne n_NoAnswer_QuitsError hd_QuitsError ty_QuitsError s_NoAnswer_QuitsError,
    i_NoAnswer_Ringed := kit_ne n_NoAnswer_Ringed hd_Ringed ty_Ringed s_NoAnswer_Ringed,
    i_NoAnswer_Settled := kit_ne n_NoAnswer_Settled hd_Settled ty_Settled s_NoAnswer_Settled,
    i_NoAnswer_Standing := kit_ne n_NoAnswer_Standing hd_Standing ty_Standing s_NoAnswer_Standing,
    i_NoAnswer_TooMuch := kit_ne n_NoAnswer_TooMuch hd_TooMuch ty_TooMuch s_NoAnswer_TooMuch,
    i_NoAnswer_Unclosed := kit_ne n_NoAnswer_Unclosed hd_Unclosed ty_Unclosed s_NoAnswer_Unclosed,
    i_NoAnswer_ValueError := kit_V v_NoAnswer,
    q_NoAnswer_QuitsError := exm_mk b_QuitsError hd_QuitsError ty_QuitsError s_NoAnswer_QuitsError,
    e_NoPart := errOk_mk x_NoPart ga_NoPart gn_NoPart be_NoPart hd_NoPart fa_NoPart sn_ tk_ mo_NoPart,
    i_NoPart_Bare := kit_ne n_NoPart_Bare hd_Bare ty_Bare s_NoPart_Bare,
    i_NoPart_Closed := kit_ne n_NoPart_Closed hd_Closed ty_Closed s_NoPart_Closed,
    i_NoPart_Gone := kit_ne n_NoPart_Gone hd_Gone ty_Gone s_NoPart_Gone,
    i_NoPart_NoAnswer := kit_ne n_NoPart_NoAnswer hd_NoAnswer ty_NoAnswer s_NoPart_NoAnswer,
    i_NoPart_NoDeal := kit_ne n_NoPart_NoDeal hd_NoDeal ty_NoDeal s_NoPart_NoDeal,
    i_NoPart_NoLayer := kit_ne n_NoPart_NoLayer hd_NoLayer ty_NoLayer s_NoPart_NoLayer,
    i_NoPart_NoMember := kit_ne n_NoPart_NoMember hd_NoMember ty_NoMember s_NoPart_NoMember,
    i_NoPart_NoPart := kit_self,
    i_NoPart_NoRule := kit_ne n_NoPart_NoRule hd_NoRule ty_NoRule s_NoPart_NoRule,
    i_NoPart_NoTerms := kit_ne n_NoPart_NoTerms hd_NoTerms ty_NoTerms s_NoPart_NoTerms,
    i_NoPart_Out := kit_ne n_NoPart_Out hd_Out ty_Out s_NoPart_Out,
    i_NoPart_Poor := kit_ne n_NoPart_Poor hd_Poor ty_Poor s_NoPart_Poor,
    i_NoPart_QuitsError := kit_ne n_NoPart_QuitsError hd_QuitsError ty_QuitsError s_NoPart_QuitsError,
    i_NoPart_Ringed := kit_ne n_NoPart_Ringed hd_Ringed ty_Ringed s_NoPart_Ringed,
    i_NoPart_Settled := kit_ne n_NoPart_Settled hd_Settled ty_Settled s_NoPart_Settled,
    i_NoPart_Standing := kit_ne n_NoPart_Standing hd_Standing ty_Standing s_NoPart_Standing,
    i_NoPart_TooMuch := kit_ne n_NoPart_TooMuch hd_TooMuch ty_TooMuch s_NoPart_TooMuch,
    i_NoPart_Unclosed := kit_ne n_NoPart_Unclosed hd_Unclosed ty_Unclosed s_NoPart_Unclosed,
    i_NoPart_ValueError := kit_V v_NoPart,
    q_NoPart_QuitsError := exm_mk b_QuitsError hd_QuitsError ty_QuitsError s_NoPart_QuitsError,
    d_divisor := { a := f_divisor, fd := _, F := fun_mk (st := s_divisor) l_divisor c_divisor k_divisor, b := (fun_mk (st := s_divisor) l_divisor c_divisor k_divisor).binds (ps := ["one", "other"]) fun _ _ _ _ _ _ us hl => (by obtain ⟨_, _, rfl⟩ := len2 hl; rfl), m := PySem.W.mg_of X G a_divisor },
    d_part := { a := f_part, fd := _, F := fun_mk (st := s_part) l_part c_part k_part, b := (fun_mk (st := s_part) l_part c_part k_part).binds (ps := ["top", "bottom"]) fun _ _ _ _ _ _ us hl => (by obtain ⟨_, _, rfl⟩ := len2 hl; rfl), m := PySem.W.mg_of X G a_part },
    d_solved := { a := f_solved, fd := _, F := fun_mk (st := s_solved) l_solved c_solved k_solved, b := (fun_mk (st := s_solved) l_solved c_solved k_solved).binds (ps := ["rows", "right"]) fun _ _ _ _ _ _ us hl => (by obtain ⟨_, _, rfl⟩ := len2 hl; rfl), m := PySem.W.mg_of X G a_solved },
    d_whole_row := { a := f_whole_row, fd := _, F := fun_mk (st := s_whole_row) l_whole_row c_whole_row k_whole_row, b := (fun_mk (st := s_whole_row) l_whole_row c_whole_row k_whole_row).binds (ps := ["row"]) fun _ _ _ _ _ _ us hl => (by obtain ⟨_, rfl⟩ := len1 hl; rfl), m := PySem.W.mg_of X G a_whole_row },
    d_with_first := { a := f_with_first, fd := _, F := fun_mk (st := s_with_first) l_with_first c_with_first k_with_first, b := (fun_mk (st := s_with_first) l_with_first c_with_first k_with_first).binds (ps := ["table", "place"]) fun _ _ _ _ _ _ us hl => (by obtain ⟨_, _, rfl⟩ := len2 hl; rfl), m := PySem.W.mg_of X G a_with_first },
    d_swept := { a := f_swept, fd := _, F := fun_mk (st := s_swept) l_swept c_swept k_swept, b := (fun_mk (st := s_swept) l_swept c_swept k_swept).binds (ps := ["table", "place", "before"]) fun _ _ _ _ _ _ us hl => (by obtain ⟨_, _, _, rfl⟩ := len3 hl; rfl), m := PySem.W.mg_of X G a_swept },
    d_swept_row := { a := f_swept_row, fd := _, F := fun_mk (st := s_swept_row) l_swept_row c_swept_row k_swept_row, b := (fun_mk (st := s_swept_row) l_swept_row c_swept_row k_swept_row).binds (ps := ["row", "sweeper", "place", "before"]) fun _ _ _ _ _ _ us hl => (by obtain ⟨_, _, _, _, rfl⟩ := len4 hl; rfl), m := PySem.W.mg_of X G a_swept_row },
    d__law_cell := { a := f__law_cell, fd := _, F := fun_mk (st := s__law_cell) l__law_cell c__law_cell k__law_cell, b := (fun_mk (st := s__law_cell) l__law_cell c__law_cell k__law_cell).binds (ps := ["_law_script", "_law_k"]) fun _ _ _ _ _ _ us hl => (by obtain ⟨_, _, rfl⟩ := len2 hl; rfl), m := PySem.W.mg_of X G a__law_cell },
    d__law_draw := { a := f__law_draw, fd := _, F := fun_mk (st := s__law_draw) l__law_draw c__law_draw k__law_draw, b := (fun_mk (st := s__law_draw) l__law_draw c__law_draw k__law_draw).binds (ps := ["_law_script", "_law_k", "_law_prime", "_law_many"]) fun _ _ _ _ _ _ us hl => (by obtain ⟨_, _, _, _, rfl⟩ := len4 hl; rfl), m := PySem.W.mg_of X G a__law_draw },
    d__law_whole := { a := f__law_whole, fd := _, F := fun_mk (st := s__law_whole) l__law_whole c__law_whole k__law_whole, b := (fun_mk (st := s__law_whole) l__law_whole c__law_whole k__law_whole).binds (ps := ["_law_thing"]) fun _ _ _ _ _ _ us hl => (by obtain ⟨_, rfl⟩ := len1 hl; rfl), m := PySem.W.mg_of X G a__law_whole },
    d__law_divisor := { a := f__law_divisor, fd := _, F := fun_mk (st := s__law_divisor) l__law_divisor c__law_divisor k__law_divisor, b := (fun_mk (st := s__law_divisor) l__law_divisor c__law_divisor k__law_divisor).binds (ps := ["_law_one", "_law_other"]) fun _ _ _ _ _ _ us hl => (by obtain ⟨_, _, rfl⟩ := len2 hl; rfl), m := PySem.W.mg_of X G a__law_divisor },
    d__law_is_part := { a := f__law_is_part, fd := _, F := fun_mk (st := s__law_is_part) l__law_is_part c__law_is_part k__law_is_part, b := (fun_mk (st := s__law_is_part) l__law_is_part c__law_is_part k__law_is_part).binds (ps := ["_law_thing"]) fun _ _ _ _ _ _ us hl => (by obtain ⟨_, rfl⟩ := len1 hl; rfl), m := PySem.W.mg_of X G a__law_is_part },
    d__law_parts := { a := f__law_parts, fd := _, F := fun_mk (st := s__law_parts) l__law_parts c__law_parts k__law_parts, b := (fun_mk (st := s__law_parts) l__law_parts c__law_parts k__law_parts).binds (ps := ["_law_told", "_law_many"]) fun _ _ _ _ _ _ us hl => (by obtain ⟨_, _, rfl⟩ := len2 hl; rfl), m := PySem.W.mg_of X G a__law_parts },
    d__law_part := { a := f__law_part, fd := _, F := fun_mk (st := s__law_part) l__law_part c__law_part k__law_part, b := (fun_mk (st := s__law_part) l__law_part c__law_part k__law_part).binds (ps := ["_law_top", "_law_bottom"]) fun _ _ _ _ _ _ us hl => (by obtain ⟨_, _, rfl⟩ := len2 hl; rfl), m := PySem.W.mg_of X G a__law_part },
    d__law_plus := { a := f__law_plus, fd := _, F := fun_mk (st := s__law_plus) l__law_plus c__law_plus k__law_plus, b := (fun_mk (st := s__law_plus) l__law_plus c__law_plus k__law_plus).binds (ps := ["_law_one", "_law_other"]) fun _ _ _ _ _ _ us hl => (by obtain ⟨_, _, rfl⟩ := len2 hl; rfl), m := PySem.W.mg_of X G a__law_plus },
    d__law_row := { a := f__law_row, fd := _, F := fun_mk (st := s__law_row) l__law_row c__law_row k__law_row, b := (fun_mk (st := s__law_row) l__law_row c__law_row k__law_row).binds (ps := ["_law_script", "_law_k", "_law_n"]) fun _ _ _ _ _ _ us hl => (by obtain ⟨_, _, _, rfl⟩ := len3 hl; rfl), m := PySem.W.mg_of X G a__law_row },
    d__law_grid := { a := f__law_grid, fd := _, F := fun_mk (st := s__law_grid) l__law_grid c__law_grid k__law_grid, b := (fun_mk (st := s__law_grid) l__law_grid c__law_grid k__law_grid).binds (ps := ["_law_script", "_law_n"]) fun _ _ _ _ _ _ us hl => (by obtain ⟨_, _, rfl⟩ := len2 hl; rfl), m := PySem.W.mg_of X G a__law_grid },
    d__law_mixed := { a := f__law_mixed, fd := _, F := fun_mk (st := s__law_mixed) l__law_mixed c__law_mixed k__law_mixed, b := (fun_mk (st := s__law_mixed) l__law_mixed c__law_mixed k__law_mixed).binds (ps := ["_law_script", "_law_rows"]) fun _ _ _ _ _ _ us hl => (by obtain ⟨_, _, rfl⟩ := len2 hl; rfl), m := PySem.W.mg_of X G a__law_mixed },
    d__law_side := { a := f__law_side, fd := _, F := fun_mk (st := s__law_side) l__law_side c__law_side k__law_side, b := (fun_mk (st := s__law_side) l__law_side c__law_side k__law_side).binds (ps := ["_law_row_here", "_law_unknowns"]) fun _ _ _ _ _ _ us hl => (by obtain ⟨_, _, rfl⟩ := len2 hl; rfl), m := PySem.W.mg_of X G a__law_side },
    d__law_joined := { a := f__law_joined, fd := _, F := fun_mk (st := s__law_joined) l__law_joined c__law_joined k__law_joined, b := (fun_mk (st := s__law_joined) l__law_joined c__law_joined k__law_joined).binds (ps := ["_law_one", "_law_many", "_law_other", "_law_more"]) fun _ _ _ _ _ _ us hl => (by obtain ⟨_, _, _, _, rfl⟩ := len4 hl; rfl), m := PySem.W.mg_of X G a__law_joined },
    d__law_of_another := { a := f__law_of_another, fd := _, F := fun_mk (st := s__law_of_another) l__law_of_another c__law_of_another k__law_of_another, b := (fun_mk (st := s__law_of_another) l__law_of_another c__law_of_another k__law_of_another).binds (ps := ["_law_error"]) fun _ _ _ _ _ _ us hl => (by obtain ⟨_, rfl⟩ := len1 hl; rfl), m := PySem.W.mg_of X G a__law_of_another },
    d__law_refused := { a := f__law_refused, fd := _, F := fun_mk (st := s__law_refused) l__law_refused c__law_refused k__law_refused, b := (fun_mk (st := s__law_refused) l__law_refused c__law_refused k__law_refused).binds (ps := ["_law_rows", "_law_right"]) fun _ _ _ _ _ _ us hl => (by obtain ⟨_, _, rfl⟩ := len2 hl; rfl), m := PySem.W.mg_of X G a__law_refused },
    d_law := { a := f_law, fd := _, F := fun_mk (st := s_law) l_law c_law k_law, b := (fun_mk (st := s_law) l_law c_law k_law).binds (ps := ["_law_script"]) fun _ _ _ _ _ _ us hl => (by obtain ⟨_, rfl⟩ := len1 hl; rfl), m := PySem.W.mg_of X G a_law },
    bl_law := fun s v => .of_eq rfl,
    z_ValueError := PySem.W.mg_none_of X G w_ValueError,
    z_abs := PySem.W.mg_none_of X G w_abs,
    z_bool := PySem.W.mg_none_of X G w_bool,
    z_enumerate := PySem.W.mg_none_of X G w_enumerate,
    z_int := PySem.W.mg_none_of X G w_int,
    z_isinstance := PySem.W.mg_none_of X G w_isinstance,
    z_len := PySem.W.mg_none_of X G w_len,
    z_list := PySem.W.mg_none_of X G w_list,
    z_range := PySem.W.mg_none_of X G w_range,
    z_tuple := PySem.W.mg_none_of X G w_tuple,
    z_zip := PySem.W.mg_none_of X G w_zip }
noncomputable abbrev sZ : Nat := 142
noncomputable abbrev sB : Nat := 82
section
variable {P : Program} {w : World} {K : PySem.W.Frag} {mg : Str → Option Value} {base : Heap}

theorem ok_divisor (T : Txt K mg) : FnOk P w K mg base (CXF P w) 1 T.d_divisor.a T.d_divisor.fd ["one", "other"] spDiv := by
  refine T.d_divisor.F.okN sc_divisor (fun vs H Q E h => ?_) (fun cdv A outer s H vs Q E hr h => ?_)
  · obtain ⟨a, b, rfl, _⟩ := h; rfl
  obtain ⟨a, b, rfl, q⟩ := h
  refine ⟨_, (pss_cons (ps_set (i := 2) sc_divisor.nd rfl (Or.inl rfl) (pe_callB call_absU rfl T.z_abs BT.abs (pa_cons (pv 0) pa_nil)))
 (pss_cons (ps_set (i := 3) sc_divisor.nd rfl (Or.inl rfl) (pe_callB call_absU rfl T.z_abs BT.abs (pa_cons (pv 1) pa_nil)))
 (pss_cons (ps_while PassesOwn.never (pt_cmpR (show OpR _ (compareOp .NotEq) (rNeU K) from op_neU hr.units) (pv 3) pe_int (nomark _))
  (pss_cons (ps_set (i := 4) sc_divisor.nd rfl (Or.inl rfl) (pe_op op_modU (pv 2) (pv 3)))
 (pss_cons (ps_set (i := 2) sc_divisor.nd rfl (Or.inl rfl) (pv 3))
 (pss_one (ps_set (i := 3) sc_divisor.nd rfl (Or.inl rfl) (pv 4))))))
 (pss_one (ps_ret (pv 2)))))), ?_⟩
  refine x_start (σ0 := [some (.int a), some (.int b), none, none, none]) rfl ?_
  walk_at "x"
  refine ⟨fun m σ H' => ∃ k r f, σ = [some (.int a), some (.int b), some (.int k), some (.int r), f] ∧ H' = H ∧ 0 ≤ k ∧ 0 ≤ r ∧ My.gc k r = My.gc a b ∧ m = r.toNat, ⟨_, _, _, _, rfl, rfl, abs_nn a, abs_nn b, My.gc_abs a b, rfl⟩, ?_⟩
  rintro m σ H' ⟨k, r, f, rfl, rfl, hk, hr0, hg, rfl⟩
  walk_at "x"
  · rename_i hne
    refine ⟨fun σ' H'' => σ' = [some (.int a), some (.int b), some (.int r), some (.int (k % r)), some (.int (k % r))] ∧ H'' = H', ?_, ?_⟩
    · rintro σ' H'' ⟨rfl, rfl⟩
      have h1 := Int.emod_nonneg k (b := r) (by omega)
      have h2 := Int.emod_lt_of_pos k (b := r) (by omega)
      exact ⟨_, by omega, _, _, _, rfl, rfl, hr0, h1, by rw [My.gc_step]; exact hg, rfl⟩
    · walk_at "x"
      exact ⟨rfl, rfl⟩
  · rename_i he
    rw [he, My.gc_zero_right hk] at hg
    rw [hg]; exact q
noncomputable def spPartX (C : Addr) : Sp := fun vs H Q E => ∃ t b : Int, vs = [.int t, .int b] ∧ sz b ≤ 8999 ∧ ((b = 0 ∧ E (.ref C) none H) ∨ (b ≠ 0 ∧ NewQ H Q (Rat.divInt t b)))
theorem spPartX_i {C : Addr} {t b : Int} {H : Hp} {Q : VK} {E : XK} (hb : b ≠ 0) (hs : sz b ≤ 8999) (q : NewQ H Q (Rat.divInt t b)) : spPartX C [.int t, .int b] H Q E := ⟨t, b, rfl, hs, .inr ⟨hb, q⟩⟩
theorem ok_part (T : Txt K mg) : FnOk P w K mg base (CXF P w) 2 T.d_part.a T.d_part.fd ["top", "bottom"] (spPartX T.c_NoPart) := by
  refine T.d_part.F.okX sc_part (fun vs H Q E h => ?_) (fun cdv A outer s H vs Q E hr h => ?_)
  · obtain ⟨t, b, rfl, _⟩ := h; rfl
  obtain ⟨t, b, rfl, hs, k⟩ := h
  refine ⟨_, (pss_cons (ps_if (pt_cmpR (show OpR _ (compareOp .Eq) (rEqU K) from op_eqU hr.units) (pv 1) pe_int (nomark _))
  (pss_one (ps_raise rfl rfl T.m_NoPart (errOk.own T.e_NoPart) (pa_cons pe_str pa_nil) made_F))
  pss_nil)
 (pss_cons (ps_set (i := 2) sc_part.nd rfl (Or.inl rfl) (pe_call (ok_divisor T) (hr.mono (by decide)) rfl T.d_divisor.m T.d_divisor.F.kp T.d_divisor.b .nil (passN nox_F) (pa_cons (pv 0) (pa_cons (pv 1) pa_nil))))
 (pss_mid (ps_if (pt_cmpR op_lt (pv 1) pe_int (nomark _))
  (pss_one (ps_set (i := 2) sc_part.nd rfl (Or.inl rfl) (pe_un un_neg (pv 2))))
  pss_nil)
 (pss_one (ps_ret (pe_tup (pa_cons (pe_op op_divU (pv 0) (pv 2)) (pa_cons (pe_op op_divU (pv 1) (pv 2)) pa_nil)))))))), ?_⟩
  refine x_start (σ0 := [some (.int t), some (.int b), none]) rfl ?_
  walk_at "x"
  · rename_i h0
    rcases k with ⟨_, k⟩ | ⟨h1, _⟩
    · exact ⟨by decide, k⟩
    · exact absurd h0 h1
  · rename_i h0
    rcases k with ⟨h1, _⟩ | ⟨_, k⟩
    · exact absurd h1 h0
    have hg : 0 < My.gc t b := My.gc_pos_right h0
    have hz : sz (My.gc t b) ≤ 9000 := Nat.le_trans (sz_gc_right h0 hs) (by decide)
    refine x_midS 2 (fun v H' => H' = H ∧ ((b < 0 ∧ v = .int (-My.gc t b)) ∨ (0 < b ∧ v = .int (My.gc t b)))) ?_ ?_
    · walk_at "x"
      · rename_i h2; exact ⟨_, rfl, rfl, .inl ⟨h2, rfl⟩⟩
      · rename_i h2; exact ⟨_, rfl, rfl, .inr ⟨by omega, rfl⟩⟩
    rintro v H' ⟨rfl, h2⟩
    rcases h2 with ⟨hn, rfl⟩ | ⟨hp, rfl⟩
    · have zn : sz (-My.gc t b) ≤ 9000 := Nat.le_trans (sz_neg _) hz
      walk_at "x"
      refine x_divN (by omega) zn ?_
      walk_at "x"
      refine x_divN (by omega) zn ?_
      walk_at "x"
      exact NewQ.mk k (My.part_neg hn)
    · walk_at "x"
      exact NewQ.mk k (My.part_pos hp)
theorem ok_whole_row (T : Txt K mg) : FnOk P w K mg base (CXF P w) 2 T.d_whole_row.a T.d_whole_row.fd ["row"] (spWholeRow K sZ sB) := by
  refine T.d_whole_row.F.okN sc_whole_row (fun vs H Q E h => ?_) (fun cdv A outer s H vs Q E hr h => ?_)
  · obtain ⟨a, ws, qs, rfl, _⟩ := h; rfl
  obtain ⟨a, ws, qs, rfl, ha, hq, hl, hz, h1, h2, h3, k⟩ := h
  have hwl := hq.length
  have p8 : ∀ i : Nat, i ≤ 20 → i * sB ≤ 8000 := fun i hi => Nat.le_trans (Nat.mul_le_mul_right _ hi) h1
  refine ⟨_, (pss_cons (ps_set (i := 1) sc_whole_row.nd rfl (Or.inr rfl) pe_int)
 (pss_cons (ps_for PassesOwn.never rfl (show PI _ _ _ (iList K _) from pi_list (pv 0)) (show PG _ _ (gTup K 2 _) from pg_tup (n := 2) rfl (pgs_cons (pg_name (i := 2) sc_whole_row.nd rfl (Or.inl rfl)) (pgs_cons (pg_name (i := 3) sc_whole_row.nd rfl (Or.inl rfl)) pgs_nil)))
  (pss_one (ps_set (i := 1) sc_whole_row.nd rfl (Or.inr rfl) (pe_op op_mulU (pe_op op_divU (pv 1) (pe_call (ok_divisor T) (hr.mono (by decide)) rfl T.d_divisor.m T.d_divisor.F.kp T.d_divisor.b .nil (passN nox_F) (pa_cons (pv 1) (pa_cons (pv 3) pa_nil)))) (pv 3)))))
 (pss_one (ps_ret (pe_comp rfl (show PI _ _ _ (iList K _) from pi_list (pv 0)) (compScope_of (Ni := ["top", "bottom", "common"]) (caps := [none, none, some 1]) (by rfl)) (fun S _ _ _ _ _ => (show PG _ _ (gTup K 2 _) from pg_tup (n := 2) rfl (pgs_cons (pg_nameC (gi := 0) S (Or.inl rfl) rfl) (pgs_cons (pg_nameC (gi := 1) S (Or.inl rfl) rfl) pgs_nil)))) (fun _ _ _ _ _ => pf_nil) (fun _ _ _ _ _ => (pe_op op_mulU (pv 0) (pe_op op_divU (pv 2) (pv 1))))))))), ?_⟩
  refine x_start (σ0 := [some (.ref a), none, none, none]) rfl ?_
  walk_at "x"
  refine x_forL (xs := ws) (fun i σ' H' => ∃ (c : Int) (f2 f3 : Option V), σ' = [some (.ref a), some (.int c), f2, f3] ∧ 0 < c ∧ c ≤ ((2 ^ (i * sB) : Nat) : Int) ∧ (∀ j q, j < i → qs[j]? = some q → (q.den : Int) ∣ c) ∧ H' = H) ⟨1, _, _, rfl, by decide, by rw [Nat.zero_mul]; decide, fun j q hj _ => by omega, rfl⟩ ?_ ?_ ?_
  · rintro i σ' H' _ ⟨c, f2, f3, rfl, _, _, _, rfl⟩; exact SqL.of ha
  · rintro i x σ' H' hx ⟨c, f2, f3, rfl, c0, c1, hc, rfl⟩
    obtain ⟨b, q, rfl, hqi, hb⟩ := hq.get hx
    have hb' : H' b = some (.tup [.int q.num, .int (q.den : Int)]) := hb
    have hi : i < qs.length := (List.getElem?_eq_some_iff.mp hqi).1
    have hzq := hz q (List.mem_of_getElem? hqi)
    have db := den_pos q
    have ls := lcm_step c0 db
    have hg : 0 < My.gc c (q.den : Int) := My.gc_pos_right (by omega)
    have zd : sz (q.den : Int) ≤ 8999 := Nat.le_trans hzq.2 (by have := p8 1 (by omega); omega)
    have zg : sz (My.gc c (q.den : Int)) ≤ 9000 := Nat.le_trans (sz_gc_right (by omega) zd) (by decide)
    have zc : sz c ≤ 8001 := sz_of (by
      have hp : 2 ^ (i * sB) ≤ 2 ^ 8000 := Nat.pow_le_pow_right (by decide) (p8 i (by omega))
      have h2 : (2 : Nat) ^ 8001 = 2 ^ 8000 * 2 := Nat.pow_succ ..
      have h0 : 0 < (2 : Nat) ^ 8000 := Nat.two_pow_pos _
      rw [h2]
      generalize (2 : Nat) ^ 8000 = B at *
      omega)
    have m1 : CMulS (c / My.gc c (q.den : Int)) (q.den : Int) := CMulS.of (Nat.le_trans (sz_div _ _) zc) zd (by decide)
    walk_at "x"
    refine ⟨_, _, _, rfl, ls.1, ?_, ?_, rfl⟩
    · have hd : (q.den : Int) ≤ ((2 ^ sB : Nat) : Int) := by
        have := sz_le.mp hzq.2
        omega
      have h5 : c * (q.den : Int) ≤ ((2 ^ (i * sB) : Nat) : Int) * ((2 ^ sB : Nat) : Int) := Int.mul_le_mul c1 hd (by omega) (by exact_mod_cast Nat.zero_le _)
      rw [Nat.succ_mul, Nat.pow_add]
      push_cast at h5 ⊢
      exact Int.le_trans ls.2.2.2 h5
    · intro j r hj hr
      rcases Nat.lt_or_eq_of_le (Nat.le_of_lt_succ hj) with h | h
      · exact Int.dvd_trans (hc j r h hr) ls.2.1
      · subst h; rw [hqi] at hr; cases hr; exact ls.2.2.1
  · rintro σ' H' ⟨c, f2, f3, rfl, c0, c1, hc, rfl⟩
    rw [hwl] at c1 hc
    obtain ⟨F, hF⟩ : ∃ F : Nat → Int, F = fun j => (qs.getD j 0).num * (c / ((qs.getD j 0).den : Int)) := ⟨_, rfl⟩
    have zc : sz c ≤ 8001 := sz_of (by
      have hp : 2 ^ (qs.length * sB) ≤ 2 ^ 8000 := Nat.pow_le_pow_right (by decide) (p8 _ hl)
      have h2 : (2 : Nat) ^ 8001 = 2 ^ 8000 * 2 := Nat.pow_succ ..
      have h0 : 0 < (2 : Nat) ^ 8000 := Nat.two_pow_pos _
      rw [h2]
      generalize (2 : Nat) ^ 8000 = B at *
      omega)
    walk_at "x"
    refine x_compS2 (src_list (K := K) (a := a) (xs := ws)) (fun H2 e => SqL.of (e.at ha)) rfl (fun i vs H2 => vs = (vec i F).map V.int) (fun H2 _ => rfl) ?_ ?_
    · rintro i x D vs o o' H1 H2 hi hD e1 hv hvl rfl e2 hx
      obtain ⟨b, q, rfl, hqi, hb⟩ := (hq.same (e1.trans e2)).get hx
      have hb' : H2 b = some (.tup [.int q.num, .int (q.den : Int)]) := hb
      have hzq := hz q (List.mem_of_getElem? hqi)
      have db := den_pos q
      have zd : sz (q.den : Int) ≤ 9000 := Nat.le_trans hzq.2 (by have := p8 1 (by omega); omega)
      have m1 : CMulS q.num (c / (q.den : Int)) := CMulS.of hzq.1 (Nat.le_trans (sz_div _ _) zc) (by omega)
      walk_at "x"
      rename_i H3 b3 h3'
      refine ⟨⟨_, _, rfl⟩, by walk_at "h", _, h3', by rw [List.length_append]; exact Nat.succ_le_succ hvl, ?_⟩
      show (vec i F).map V.int ++ _ = (vec (i + 1) F).map V.int
      rw [vec_succ, List.map_append, hF]
      have : qs.getD i 0 = q := by rw [List.getD_eq_getElem?_getD, hqi]; rfl
      dsimp only
      rw [this]; rfl
    · rintro D H2 vs hD e hv hvl rfl
      refine k D H2 F c hD e c0 (fun j q hj => ?_) (by rw [hwl] at hv; exact hv)
      have hjl : j < qs.length := (List.getElem?_eq_some_iff.mp hj).1
      have hzq := hz q (List.mem_of_getElem? hj)
      have : qs.getD j 0 = q := by rw [List.getD_eq_getElem?_getD, hj]; rfl
      have db := den_pos q
      rw [hF]
      dsimp only
      rw [this]
      obtain ⟨u, hu⟩ := hc j q hjl hj
      have ed : c / (q.den : Int) = u := by rw [hu]; exact Int.mul_ediv_cancel_left _ (by omega)
      have u0 : 0 < u := by
        rcases Int.lt_or_le 0 u with h | h
        · exact h
        · have := Int.mul_nonpos_of_nonneg_of_nonpos (Int.le_of_lt db) h; omega
      have uc : u ≤ c := by
        have h1 : 1 * u ≤ (q.den : Int) * u := Int.mul_le_mul_of_nonneg_right (by omega) (by omega)
        omega
      rw [ed]
      refine ⟨?_, ?_⟩
      · rw [hu, Rat.intCast_mul, Rat.intCast_mul]
        have e1 : ((q.num : Int) : Rat) / (((q.den : Nat) : Int) : Rat) = q := by rw [← Rat.divInt_eq_div]; exact Rat.num_divInt_den q
        have hne : (((q.den : Nat) : Int) : Rat) ≠ 0 := fun z => by
          have : ((q.den : Nat) : Int) = 0 := by exact_mod_cast z
          omega
        have e2 : ((q.num : Int) : Rat) = q * (((q.den : Nat) : Int) : Rat) := by
          have := Rat.div_mul_cancel (a := ((q.num : Int) : Rat)) hne
          rw [e1] at this; exact this.symm
        rw [e2]
        grind
      · refine sz_of ?_
        rw [Int.natAbs_mul, Nat.pow_add]
        have a1 := sz_le.mp hzq.1
        have a2 : u.natAbs ≤ 2 ^ (qs.length * sB) := by omega
        exact Nat.lt_of_le_of_lt (Nat.mul_le_mul_left _ a2) (Nat.mul_lt_mul_of_pos_right a1 (Nat.two_pow_pos _))

theorem ok_with_first (T : Txt K mg) : FnOk P w K mg base (CXF P w) 1 T.d_with_first.a T.d_with_first.fd ["table", "place"] (spWithFirst K T.c_NoAnswer) := by
  refine T.d_with_first.F.okX sc_with_first (fun vs H Q E h => ?_) (fun cdv A outer s H vs Q E hr h => ?_)
  · obtain ⟨a, as, w, M, k, rfl, _⟩ := h; rfl
  obtain ⟨a, as, w, M, k, rfl, ha, hR, k0, k1, k2, hl, q0, q1⟩ := h
  have hml : (as.map V.ref).length = as.length := List.length_map ..
  obtain ⟨b1, hb1⟩ := lt_some (show k.toNat < as.length by omega)
  have hat1 : atI (as.map V.ref) k = some (.ref b1) := atI_lt k0 (by rw [List.getElem?_map, hb1]; rfl)
  refine ⟨_, (pss_cons (ps_for PassesOwn.leaving rfl (pi_range2 rfl T.z_range (pa_cons (pv 1) (pa_cons (pe_callB (show CallR _ _ (rLen K) from call_lenU) rfl T.z_len BT.len (pa_cons (pv 0) pa_nil)) pa_nil))) (pg_name (i := 2) sc_with_first.nd rfl (Or.inl rfl))
  (pss_one (ps_if (pt_cmpR (show OpR _ (compareOp .NotEq) (rNeU K) from op_neU hr.units) (pe_ix (show IxR _ (rIx K) from ix_seq) (pe_ix (show IxR _ (rIx K) from ix_seq) (pv 0) (pv 2) (fun _ _ => rfl)) (pv 1) (fun _ _ => rfl)) pe_int (nomark _))
  (pss_cons (ps_set (i := 3) sc_with_first.nd rfl (Or.inl rfl) (pe_callTy (show CallR _ _ (rListOf K) from call_listU) rfl T.z_list BT.list (pa_cons (pv 0) pa_nil)))
 (pss_cons (ps_asg (pe_ix (show IxR _ (rIx K) from ix_seq) (pv 0) (pv 2) (fun _ _ => rfl)) (pg_sub (pv 3) (pv 1) set_list))
 (pss_cons (ps_asg (pe_ix (show IxR _ (rIx K) from ix_seq) (pv 0) (pv 1) (fun _ _ => rfl)) (pg_sub (pv 3) (pv 2) set_list))
 (pss_one (ps_ret (pv 3))))))
  pss_nil)))
 (pss_one (ps_raise rfl rfl T.m_NoAnswer (errOk.own T.e_NoAnswer) (pa_cons pe_str pa_nil) made_F))), ?_⟩
  refine x_start (σ0 := [some (.ref a), some (.int k), none, none]) rfl ?_
  walk_at "x"
  refine x_forR (fun i σ' H' => ∃ f2 f3 : Option V, σ' = [some (.ref a), some (.int k), f2, f3] ∧ (∀ j, k.toNat ≤ j → j < k.toNat + i → M j k.toNat = 0) ∧ H' = H) ⟨_, _, rfl, fun j h1 h2 => by omega, rfl⟩ ?_ ?_
  · rintro i σ' H' hi ⟨f2, f3, rfl, hM, rfl⟩
    rw [hml] at hi
    have ei : (k + (i : Int)).toNat = k.toNat + i := by omega
    obtain ⟨b2, hb2⟩ := lt_some (show k.toNat + i < as.length by omega)
    have hat2 : atI (as.map V.ref) (k + (i : Int)) = some (.ref b2) := atI_lt (by omega) (by rw [ei, List.getElem?_map, hb2]; rfl)
    have hr2 := hR.2 _ _ hb2
    have hk2 : atI ((vec w (M (k.toNat + i))).map V.int) k = some (.int (M (k.toNat + i) k.toNat)) := atI_lt k0 (by rw [List.getElem?_map, vec_get (by omega)]; rfl)
    walk_at "x"
    · rename_i hne p H1 fp e1 hp
      have npa : p ∉ as := hR.fresh fp
      have nap : a ≠ p := fun z => by rw [z, fp] at ha; cases ha
      refine x_setN (j := k.toNat) hp (ixN_lt k0 (by omega)) ?_
      intro H2 b2' h2'
      have ha2 : H2 a = some (.lst (as.map V.ref)) := b2'.lst (e1.at ha) nap
      walk_at "x"
      refine x_setN (j := k.toNat + i) h2' (by rw [← ei]; exact ixN_lt (by omega) (by rw [List.length_set]; omega)) ?_
      intro H3 b3 h3
      walk_at "x"
      have e13 : Same H' H3 := b3.same (b2'.same e1 fp) fp
      refine q1 p H3 (swpL as k.toNat (k.toNat + i) b1 b2) (k.toNat + i) (by omega) (by omega) hne fp e13 ?_ ?_ ?_ ?_
      · rw [h3]; unfold swpL; rw [List.map_set, List.map_set]
      · unfold swpL; rw [List.length_set, List.length_set]
      · intro c hc
        unfold swpL at hc
        rcases List.mem_or_eq_of_mem_set hc with h | h
        · rcases List.mem_or_eq_of_mem_set h with h | h
          · exact h
          · rw [h]; exact List.mem_of_getElem? hb2
        · rw [h]; exact List.mem_of_getElem? hb1
      · exact swpL_rows (hR.same e13) hb1 hb2
    · rename_i hz
      refine ⟨_, _, rfl, fun j h1 h2 => ?_, rfl⟩
      by_cases e : j = k.toNat + i
      · rw [e]; exact hz
      · exact hM j h1 (by omega)
  · rintro σ' H' ⟨f2, f3, rfl, hM, rfl⟩
    rw [hml] at hM
    walk_at "x"
    exact ⟨by decide, q0 (fun i h1 h2 => hM i h1 (by omega)) _ (Same.refl _)⟩

theorem ok_swept_row (T : Txt K mg) : FnOk P w K mg base (CXF P w) 1 T.d_swept_row.a T.d_swept_row.fd ["row", "sweeper", "place", "before"] (spSweptRow K) := by
  refine T.d_swept_row.F.okN sc_swept_row (fun vs H Q E h => ?_) (fun cdv A outer s H vs Q E hr h => ?_)
  · obtain ⟨a, b, w, f, g, k, d, rfl, _⟩ := h; rfl
  obtain ⟨a, b, w, f, g, k, d, rfl, ha, hb, k0, k1, hw, d0, hd, hz, q⟩ := h
  have hk1 : atI ((vec w f).map V.int) k = some (.int (f k.toNat)) := atI_lt k0 (by rw [List.getElem?_map, vec_get (by omega)]; rfl)
  have hk2 : atI ((vec w g).map V.int) k = some (.int (g k.toNat)) := atI_lt k0 (by rw [List.getElem?_map, vec_get (by omega)]; rfl)
  refine ⟨_, (pss_cons (ps_set (i := 4) sc_swept_row.nd rfl (Or.inr rfl) (pe_ix (show IxR _ (rIx K) from ix_seq) (pv 1) (pv 2) (fun _ _ => rfl)))
 (pss_cons (ps_set (i := 5) sc_swept_row.nd rfl (Or.inr rfl) (pe_ix (show IxR _ (rIx K) from ix_seq) (pv 0) (pv 2) (fun _ _ => rfl)))
 (pss_one (ps_ret (pe_comp rfl (show PI _ _ _ (iZip K _) from pi_zip rfl T.z_zip (pa_cons (pv 0) (pa_cons (pv 1) pa_nil))) (compScope_of (Ni := ["mine", "other", "keep", "take", "before"]) (caps := [none, none, some 4, some 5, some 3]) (by rfl)) (fun S _ _ _ _ _ => (show PG _ _ (gTup K 2 _) from pg_tup (n := 2) rfl (pgs_cons (pg_nameC (gi := 0) S (Or.inl rfl) rfl) (pgs_cons (pg_nameC (gi := 1) S (Or.inl rfl) rfl) pgs_nil)))) (fun _ _ _ _ _ => pf_nil) (fun _ _ _ _ _ => (pe_op op_divU (pe_op op_sub (pe_op op_mulU (pv 2) (pv 0)) (pe_op op_mulU (pv 3) (pv 1))) (pv 4)))))))), ?_⟩
  refine x_start (σ0 := [some (.ref a), some (.ref b), some (.int k), some (.int d), none, none]) rfl ?_
  walk_at "x"
  have hn : min ((vec w f).map V.int).length ((vec w g).map V.int).length = w := by rw [List.length_map, List.length_map, vec_len, vec_len, Nat.min_self]
  refine x_compS2 (src_zip (K := K) (a := a) (b := b) (xs := (vec w f).map V.int) (ys := (vec w g).map V.int)) (fun H2 e => ⟨SqL.of (e.at ha), SqL.of (e.at hb)⟩) rfl (fun i vs H2 => vs = (vec i fun j => (g k.toNat * f j - f k.toNat * g j).fdiv d).map V.int) (fun H2 _ => rfl) ?_ ?_
  · rintro i x D vs o o' H1 H2 hi hD e1 hv hvl rfl e2 ⟨p, v, v', rfl, hv1, hv2, hp⟩
    rw [hn] at hi
    rw [List.getElem?_map, vec_get hi] at hv1 hv2
    cases hv1; cases hv2
    have z1 := hz i hi
    have z2 := hz k.toNat (by omega)
    have m1 : CMulS (g k.toNat) (f i) := CMulS.of z2.2 z1.1 (by decide)
    have m2 : CMulS (f k.toNat) (g i) := CMulS.of z2.1 z1.2 (by decide)
    walk_at "x"
    refine x_divN d0 hd ?_
    walk_at "x"
    rename_i H3 b3 h3'
    refine ⟨⟨_, _, rfl⟩, by walk_at "h", _, h3', by rw [List.length_append]; exact Nat.succ_le_succ hvl, ?_⟩
    show _ = (vec (i + 1) _).map V.int
    rw [vec_succ, List.map_append]; rfl
  · rintro D H2 vs hD e hv hvl rfl
    rw [hn] at hv
    exact q D H2 hD e hv
theorem ok_swept (T : Txt K mg) : FnOk P w K mg base (CXF P w) 2 T.d_swept.a T.d_swept.fd ["table", "place", "before"] (spSwept K) := by
  refine T.d_swept.F.okN sc_swept (fun vs H Q E h => ?_) (fun cdv A outer s H vs Q E hr h => ?_)
  · obtain ⟨a, as, w, M, k, d, rfl, _⟩ := h; rfl
  obtain ⟨a, as, w, M, k, d, rfl, ha, hR, k0, k1, k2, hw, hl, d0, hd, hz, q⟩ := h
  have hml : (as.map V.ref).length = as.length := List.length_map ..
  obtain ⟨b, hb⟩ := lt_some (show k.toNat < as.length by omega)
  have hat : atI (as.map V.ref) k = some (.ref b) := atI_lt k0 (by rw [List.getElem?_map, hb]; rfl)
  have hrb := hR.2 _ _ hb
  refine ⟨_, (pss_cons (ps_set (i := 3) sc_swept.nd rfl (Or.inl rfl) (pe_ix (show IxR _ (rIx K) from ix_seq) (pv 0) (pv 1) (fun _ _ => rfl)))
 (pss_cons (ps_set (i := 4) sc_swept.nd rfl (Or.inl rfl) (pe_lst pa_nil))
 (pss_cons (ps_for PassesOwn.never rfl (show PI _ _ _ (iEnum K _) from pi_enum rfl T.z_enumerate (pa_cons (pv 0) pa_nil)) (show PG _ _ (gTup K 2 _) from pg_tup (n := 2) rfl (pgs_cons (pg_name (i := 5) sc_swept.nd rfl (Or.inl rfl)) (pgs_cons (pg_name (i := 6) sc_swept.nd rfl (Or.inl rfl)) pgs_nil)))
  (pss_one (ps_if (pt_cmpR (show OpR _ (compareOp .Eq) (rEqU K) from op_eqU hr.units) (pv 5) (pv 1) (nomark _))
  (pss_one (ps_expr (show PE _ _ (tBM K _ _ _ _) from pe_bm PySem.F.plainAttrs_list PySem.F.slot_list_append PySem.F.type_list_append mt_append (pv 4) (pa_cons (pv 6) pa_nil))))
  (pss_one (ps_expr (show PE _ _ (tBM K _ _ _ _) from pe_bm PySem.F.plainAttrs_list PySem.F.slot_list_append PySem.F.type_list_append mt_append (pv 4) (pa_cons (pe_call (ok_swept_row T) (hr.mono (by decide)) rfl T.d_swept_row.m T.d_swept_row.F.kp T.d_swept_row.b .nil (passN nox_F) (pa_cons (pv 6) (pa_cons (pv 3) (pa_cons (pv 1) (pa_cons (pv 2) pa_nil))))) pa_nil)))))))
 (pss_one (ps_ret (pv 4)))))), ?_⟩
  refine x_start (σ0 := [some (.ref a), some (.int k), some (.int d), none, none, none, none]) rfl ?_
  walk_at "x"
  rename_i D H1 fD e1 hD
  refine x_forS (src_enum (K := K) (a := a) (xs := as.map V.ref)) (fun i σ' H' => ∃ (f5 f6 : Option V) (bs : List Addr), σ' = [some (.ref a), some (.int k), some (.int d), some (.ref b), some (.ref D), f5, f6] ∧ H' D = some (.lst (bs.map V.ref)) ∧ bs.length = i ∧ Same H H' ∧ Rows H' bs w (Dt.nxtI M k.toNat d) ∧ (k.toNat < i → bs[k.toNat]? = some b) ∧ ∀ j c, bs[j]? = some c → c ∈ as → c = b ∧ j = k.toNat) ⟨_, _, [], rfl, hD, rfl, e1, ⟨List.nodup_nil, fun _ _ h => nomatch h⟩, fun h => by omega, fun _ _ h => nomatch h⟩ ?_ ?_ ?_
  · rintro i σ' H' ⟨f5, f6, bs, rfl, hD', hbl, e, _⟩; exact SqL.of (e.at ha)
  · rintro i x σ' H2 H3 hi ⟨f5, f6, bs, rfl, hD', hbl, e, hB, hkb, hmem⟩ e3 ⟨p, v, rfl, hv, hp⟩
    rw [hml] at hi
    obtain ⟨c, hc⟩ := lt_some hi
    have ev : v = .ref c := by rw [List.getElem?_map, hc] at hv; exact (Option.some.inj hv).symm
    subst ev
    have hD3 := e3.at hD'
    have e03 := e.trans e3
    have hrc := e03.at (hR.2 _ _ hc)
    have hrb3 := e03.at hrb
    have nD : D ∉ bs := hB.ne (by omega) hD'
    have nDa : D ∉ as := hR.fresh fD
    have hbl' : (bs.map V.ref).length ≤ 20 := by rw [List.length_map]; omega
    have hz1 : ∀ j, j < w → sz (M i j) ≤ 9000 ∧ sz (M k.toNat j) ≤ 9000 := fun j hj => ⟨hz i j hi hj, hz _ j (by omega) hj⟩
    walk_at "x"
    · rename_i hik H4 b4 h4
      have ek : i = k.toNat := by omega
      have ecb : c = b := by rw [ek, hb] at hc; exact (Option.some.inj hc).symm
      subst ecb
      have cm : c ∈ as := List.mem_of_getElem? hb
      have ncb : c ∉ bs := fun z => by
        obtain ⟨j, hj, ej⟩ := List.getElem_of_mem z
        have := (hmem j c (by rw [List.getElem?_eq_getElem hj, ej]) cm).2
        omega
      have ncD : c ≠ D := fun z => nDa (z ▸ cm)
      refine ⟨_, _, bs ++ [c], rfl, by rw [h4, List.map_append]; rfl, by rw [List.length_append, hbl]; rfl, b4.same e03 fD, ?_, ?_, ?_⟩
      · refine Rows.app ((hB.same e3).but b4 nD) ncb ?_
        rw [b4.lst hrb3 ncD, hbl]
        refine congrArg (fun z => some (HO.lst (z.map V.int))) (vec_congr fun j _ => ?_)
        unfold Dt.nxtI
        rw [if_pos ek]
      · intro _
        rw [List.getElem?_append_right (by omega), show k.toNat - bs.length = 0 by omega]; rfl
      · intro j c' hj hc'
        rcases Nat.lt_or_ge j bs.length with h | h
        · rw [List.getElem?_append_left h] at hj; exact hmem j c' hj hc'
        · rw [List.getElem?_append_right h] at hj
          have hj0 : j - bs.length = 0 := by
            rcases Nat.eq_zero_or_pos (j - bs.length) with z | z
            · exact z
            · rw [List.getElem?_eq_none (by simp only [List.length_singleton]; omega)] at hj; cases hj
          rw [hj0] at hj
          exact ⟨(Option.some.inj hj).symm, by omega⟩
    · rename_i hik p' H4 fp' e4 hp' H5 b5 h5
      have nk : i ≠ k.toNat := fun z => hik (by omega)
      have npb : p' ∉ bs := (hB.same e3).fresh fp'
      have npD : p' ≠ D := fun z => by rw [z, hD3] at fp'; cases fp'
      refine ⟨_, _, bs ++ [p'], rfl, by rw [h5, List.map_append]; rfl, by rw [List.length_append, hbl]; rfl, b5.same (e03.trans e4) fD, ?_, ?_, ?_⟩
      · refine Rows.app (((hB.same e3).same e4).but b5 nD) npb ?_
        rw [b5.lst hp' npD, hbl]
        refine congrArg (fun z => some (HO.lst (z.map V.int))) (vec_congr fun j _ => ?_)
        unfold Dt.nxtI
        rw [if_neg nk]
      · intro h
        rw [List.getElem?_append_left (by omega)]
        exact hkb (by omega)
      · intro j c' hj hc'
        rcases Nat.lt_or_ge j bs.length with h | h
        · rw [List.getElem?_append_left h] at hj; exact hmem j c' hj hc'
        · rw [List.getElem?_append_right h] at hj
          have hj0 : j - bs.length = 0 := by
            rcases Nat.eq_zero_or_pos (j - bs.length) with z | z
            · exact z
            · rw [List.getElem?_eq_none (by simp only [List.length_singleton]; omega)] at hj; cases hj
          rw [hj0] at hj
          have ec : c' = p' := (Option.some.inj hj).symm
          obtain ⟨m, _, _, hm⟩ := (hR.same e03).mem hc'
          rw [ec, fp'] at hm; cases hm
  · rintro σ' H2 ⟨f5, f6, bs, rfl, hD', hbl, e, hB, hkb, hmem⟩
    walk_at "x"
    rw [hml] at hbl
    exact q D H2 bs fD e hD' hbl hB

theorem ok_solved (T : Txt K mg) : FnOk P w K mg base (CXF P w) 3 T.d_solved.a T.d_solved.fd ["rows", "right"] (spSolved K T.c_NoAnswer sZ sB) := by
  refine T.d_solved.F.okX sc_solved (fun vs H Q E h => ?_) (fun cdv A outer s H vs Q E hr h => ?_)
  · obtain ⟨a, b, n, R, rfl, _⟩ := h; rfl
  obtain ⟨a, b, n, R, rfl, ⟨⟨as, ha, hal, hrow⟩, ⟨ws, hb, hside⟩⟩, n0, n1, hz, h1, h2, h3, h4, q0, q1⟩ := h
  have hml : (as.map V.ref).length = n := by rw [List.length_map]; exact hal
  have hwl : ws.length = n := by rw [hside.length, List.length_map, List.length_range]
  refine ⟨_, (pss_cons (ps_set (i := 2) sc_solved.nd rfl (Or.inr rfl) (pe_callB (show CallR _ _ (rLen K) from call_lenU) rfl T.z_len BT.len (pa_cons (pv 0) pa_nil)))
 (pss_cons (ps_setC (i := 3) sc_solved.nd rfl rfl rfl (pi_range1 rfl T.z_range (pa_cons (pv 2) pa_nil)) (compScope_of (Ni := ["place", "rows", "right"]) (caps := [none, some 0, some 1]) (by rfl)) (fun S _ _ _ _ _ => (pg_nameC (gi := 0) S (Or.inl rfl) rfl)) (fun _ _ _ _ _ => pf_nil) (fun _ _ _ _ _ => (pe_call (ok_whole_row T) (hr.mono (by decide)) rfl T.d_whole_row.m T.d_whole_row.F.kp T.d_whole_row.b .nil (passN nox_F) (pa_cons (pe_op (show OpR _ (binaryOp .Add) (rAddU K) from op_addU) (pe_callTy (show CallR _ _ (rListOf K) from call_listU) rfl T.z_list BT.list (pa_cons (pe_ix (show IxR _ (rIx K) from ix_seq) (pv 1) (pv 0) (fun _ _ => rfl)) pa_nil)) (pe_lst (pa_cons (pe_ix (show IxR _ (rIx K) from ix_seq) (pv 2) (pv 0) (fun _ _ => rfl)) pa_nil))) pa_nil))))
 (pss_cons (ps_set (i := 4) sc_solved.nd rfl (Or.inr rfl) pe_int)
 (pss_cons (ps_for PassesOwn.leaving rfl (pi_range1 rfl T.z_range (pa_cons (pv 2) pa_nil)) (pg_name (i := 5) sc_solved.nd rfl (Or.inl rfl))
  (pss_cons (ps_set (i := 3) sc_solved.nd rfl (Or.inl rfl) (pe_call (ok_with_first T) (hr.mono (by decide)) rfl T.d_with_first.m T.d_with_first.F.kp T.d_with_first.b .nil pass_F (pa_cons (pv 3) (pa_cons (pv 5) pa_nil))))
 (pss_cons (ps_set (i := 3) sc_solved.nd rfl (Or.inl rfl) (pe_call (ok_swept T) (hr.mono (by decide)) rfl T.d_swept.m T.d_swept.F.kp T.d_swept.b .nil (passN nox_F) (pa_cons (pv 3) (pa_cons (pv 5) (pa_cons (pv 4) pa_nil)))))
 (pss_one (ps_set (i := 4) sc_solved.nd rfl (Or.inr rfl) (pe_ix (show IxR _ (rIx K) from ix_seq) (pe_ix (show IxR _ (rIx K) from ix_seq) (pv 3) (pv 5) (fun _ _ => rfl)) (pv 5) (fun _ _ => rfl)))))))
 (pss_one (ps_ret (pe_comp rfl (show PI _ _ _ (iList K _) from pi_list (pv 3)) (compScope_of (Ni := ["row", "count", "before"]) (caps := [none, some 2, some 4]) (by rfl)) (fun S _ _ _ _ _ => (pg_nameC (gi := 0) S (Or.inl rfl) rfl)) (fun _ _ _ _ _ => pf_nil) (fun _ _ _ _ _ => (pe_call (ok_part T) (hr.mono (by decide)) rfl T.d_part.m T.d_part.F.kp T.d_part.b .nil (passN nox_F) (pa_cons (pe_ix (show IxR _ (rIx K) from ix_seq) (pv 0) (pv 1) (fun _ _ => rfl)) (pa_cons (pv 2) pa_nil))))))))))), ?_⟩
  refine x_start (σ0 := [some (.ref a), some (.ref b), none, none, none, none]) rfl ?_
  walk_at "x"
  refine x_compS1 (src_range (lo := 0) (n := ((as.map V.ref).length : Int).toNat)) (fun _ _ => trivial) rfl (fun i vs H' => ∃ (bs : List Addr) (F : Nat → Nat → Int) (L : Nat → Int), vs = bs.map V.ref ∧ bs.length = i ∧ Rows H' bs (n + 1) F ∧ ∀ l, l < i → 0 < L l ∧ ∀ j, j ≤ n → ((F l j : Int) : Rat) = ((L l : Int) : Rat) * R l j ∧ sz (F l j) ≤ sZ + (n + 1) * sB) (fun H' _ => ⟨[], fun _ _ => 0, fun _ => 0, rfl, rfl, ⟨List.nodup_nil, fun _ _ h => nomatch h⟩, fun l h => by omega⟩) ?_ ?_
  · rintro i x D vs o H1 H2 hi hD e1 hv hvl ⟨bs, F, L, rfl, hbl, hR, hF⟩ e2 rfl
    rw [hml] at hi
    have hi' : i < n := by omega
    obtain ⟨c, hc⟩ := lt_some (show i < as.length by omega)
    obtain ⟨us, hu1, hu2⟩ := hrow i c hc
    obtain ⟨v, hv'⟩ := lt_some (show i < ws.length by omega)
    obtain ⟨g, q, rfl, hq, hg⟩ := hside.get hv'
    have ei : ((0 : Int) + (i : Int)).toNat = i := by omega
    have hat1 : atI (as.map V.ref) ((0 : Int) + (i : Int)) = some (.ref c) := atI_lt (by omega) (by rw [ei, List.getElem?_map, hc]; rfl)
    have hat2 : atI ws ((0 : Int) + (i : Int)) = some (.ref g) := atI_lt (by omega) (by rw [ei]; exact hv')
    have e12 := e1.trans e2
    have ha2 := e12.at ha
    have hb2 := e12.at hb
    have hc2 := e12.at hu1
    walk_at "x"
    rename_i l1 H3 f1 e3 hl1 l2 H4 f2 e4 hl2
    have hul : us.length = n := by rw [hu2.length, List.length_map, List.length_range]
    have eq : q = R i n := by
      rw [List.getElem?_map, List.getElem?_range hi'] at hq
      exact (Option.some.inj hq).symm
    refine x_catN (e4.at hl1) hl2 (by rw [hul]; simp only [List.length_singleton]; omega) ?_
    intro p H5 fp e5 hp5
    have e05 : Same H H5 := ((e12.trans e3).trans e4).trans e5
    have hq5 : IsQs H5 (us ++ [.ref g]) ((List.range (n + 1)).map (R i)) := by
      rw [List.range_succ, List.map_append, List.map_singleton, ← eq]
      exact IsQs.app (e05.isQ hg) (hu2.same e05)
    have hql : ((List.range (n + 1)).map (R i)).length = n + 1 := by rw [List.length_map, List.length_range]
    walk_at "x"
    refine spWholeRow_i hp5 hq5 (by rw [hql]; omega) (fun r hr => ?_) h2 h3 h1 ?_
    · obtain ⟨j, hj, rfl⟩ := List.mem_map.mp hr
      exact hz i j hi' (by have := List.mem_range.mp hj; omega)
    intro p' H6 f L' fp' e6 L0 hf hp6
    rw [hql] at hp6 hf
    have hv6 : H6 D = some (.lst (bs.map V.ref)) := (((e2.trans e3).trans e4).trans (e5.trans e6)).at hv
    have hbl6 : (bs.map V.ref).length ≤ 20 := by omega
    walk_at "x"
    rename_i H7 b7 h7
    have e16 : Same H1 H6 := ((e2.trans e3).trans e4).trans (e5.trans e6)
    have e15 : Same H1 H5 := ((e2.trans e3).trans e4).trans e5
    have npb : p' ∉ bs := (hR.same e15).fresh fp'
    have nDb : D ∉ bs := hR.ne (by omega) hv
    have npD : p' ≠ D := fun z => by rw [z, e15.at hv] at fp'; cases fp'
    refine ⟨⟨_, rfl⟩, b7.same (e1.trans e16) hD, _, h7, by rw [List.length_append]; exact Nat.succ_le_succ hvl, bs ++ [p'], (fun l => if l = bs.length then f else F l), (fun l => if l = i then L' else L l), by rw [List.map_append]; rfl, by rw [List.length_append, hbl]; rfl, Rows.snoc ((hR.same e16).but b7 nDb) npb (b7.lst hp6 npD), fun l hl => ?_⟩
    rw [hbl]
    dsimp only
    by_cases e : l = i
    · subst e
      rw [if_pos rfl, if_pos rfl]
      refine ⟨L0, fun j hj => hf j _ ?_⟩
      rw [List.getElem?_map, List.getElem?_range (by omega)]; rfl
    · rw [if_neg e, if_neg e]; exact hF l (by omega)
  · rintro t H1 vs ft e1 ht hvl ⟨bs, F, L, rfl, hbl, hR, hF⟩
    have hcn : ((as.map V.ref).length : Int).toNat = n := by omega
    rw [hcn] at hbl hF
    obtain ⟨z, ez⟩ : ∃ z, z = sZ + (n + 1) * sB := ⟨_, rfl⟩
    rw [← ez] at hF h4
    have hFR : ∀ l, l < n → ((L l : Int) : Rat) ≠ 0 := fun l hl w => by
      have : L l = 0 := by exact_mod_cast w
      have := (hF l hl).1
      omega
    have hdet : Dt.det n (Dt.cl R) = 0 ↔ Dt.det n (Dt.cl (Dt.castM F)) = 0 := by
      rw [Dt.det_scale hFR]
      have : Dt.det n (Dt.cl (fun l j => ((L l : Int) : Rat) * R l j)) = Dt.det n (Dt.cl (Dt.castM F)) := Dt.det_congr fun j r hj hr => (((hF r hr).2 j (by omega)).1).symm
      rw [this]
    have hmeet : ∀ x : Nat → Rat, (∀ l, l < n → Dt.sm n (fun m => Dt.castM F l m * x m) = Dt.castM F l n) → ∀ l, l < n → Dt.sm n (fun m => R l m * x m) = R l n := fun x hx => by
      rw [Dt.meets_scale hFR]
      intro l hl
      have h0 := hx l hl
      have e1 : Dt.castM F l n = ((L l : Int) : Rat) * R l n := ((hF l hl).2 n (by omega)).1
      rw [e1] at h0
      rw [← h0]
      refine Dt.sm_congr fun m hm => ?_
      rw [show Dt.castM F l m = ((L l : Int) : Rat) * R l m from ((hF l hl).2 m (by omega)).1]
    walk_at "x"
    refine x_forR (fun k σ' H' => ∃ (f5 : Option V) (t' : Addr) (bs' : List Addr) (B M : Nat → Nat → Int) (d : Int), σ' = [some (.ref a), some (.ref b), some (.int ((as.map V.ref).length : Int)), some (.ref t'), some (.int d), f5] ∧ Same H H' ∧ H t' = none ∧ H' t' = some (.lst (bs'.map V.ref)) ∧ bs'.length = n ∧ Rows H' bs' (n + 1) M ∧ Dt.Bar n k (Dt.castM B) (Dt.castM M) ((d : Int) : Rat) ∧ Dt.Eqv n (Dt.castM F) (Dt.castM B) ∧ ∀ l j, l < n → j ≤ n → sz (B l j) ≤ z) ⟨_, t, bs, F, F, 1, rfl, e1, ft, ht, hbl, hR, Dt.bar_start, Dt.Eqv.refl _ _, fun l j hl hj => ((hF l hl).2 j hj).2⟩ ?_ ?_
    · rintro k σ' H2 hk ⟨f5, t', bs', B, M, d, rfl, e2, ft', ht', hbl', hR', hbar, heq, hsz⟩
      rw [hcn] at hk
      have ek : ((0 : Int) + (k : Int)).toNat = k := by omega
      have big : ∀ (B' M' : Nat → Nat → Int) (d' : Int) (k' : Nat), Dt.Bar n k' (Dt.castM B') (Dt.castM M') ((d' : Int) : Rat) → k' ≤ n → (∀ l j, l < n → j ≤ n → sz (B' l j) ≤ z) → ∀ i j, i < n → j ≤ n → sz (M' i j) ≤ 9000 := fun B' M' d' k' hb hk' hs i j hi hj => by
        have := bd_sz (x := M' i j) (hb.sz hk' (by omega) (fun l m hl hm => sz_bd (hs l m hl hm)) hi hj)
        omega
      walk_at "x"
      refine spWithFirst_i ht' hR' (by omega) (by omega) (by omega) (by omega) ?_ ?_
      · intro hM H3 e3
        rw [ek] at hM
        refine q0 (hdet.mpr (heq.dt.mpr (hbar.stuck hk fun i h1 h2 => ?_))) H3 (e2.trans e3)
        show ((M i k : Int) : Rat) = 0
        rw [hM i h1 (by omega)]; rfl
      intro p1 H3 as1 i1 hi1 hi2 hne fp1 e3 hp1 hal1 hm1 hR1
      rw [ek] at hi1 hne hR1
      rw [hbl'] at hi2 hal1
      have hbar1 : Dt.Bar n k (Dt.castM (Dt.swp B k i1)) (Dt.castM (Dt.swp M k i1)) ((d : Int) : Rat) := by
        have := hbar.swap (p := k) (q := i1) (Nat.le_refl _) hi1 hk hi2
        have c1 : ∀ N : Nat → Nat → Int, Dt.castM (Dt.swp N k i1) = Dt.swp (Dt.castM N) k i1 := fun N => by
          funext u v
          unfold Dt.castM Dt.swp
          split
          · rfl
          · split <;> rfl
        rw [c1, c1]; exact this
      have heq1 : Dt.Eqv n (Dt.castM F) (Dt.castM (Dt.swp B k i1)) := by
        have c1 : Dt.castM (Dt.swp B k i1) = Dt.swp (Dt.castM B) k i1 := by
          funext u v
          unfold Dt.castM Dt.swp
          split
          · rfl
          · split <;> rfl
        rw [c1]; exact heq.trans (Dt.Eqv.swap hk hi2 _)
      have hsz1 : ∀ l j, l < n → j ≤ n → sz (Dt.swp B k i1 l j) ≤ z := fun l j hl hj => by
        obtain ⟨l', hl', e⟩ := Dt.swp_at hk hi2 B l hl
        rw [e]; exact hsz l' j hl' hj
      have hM1 := big _ _ _ k hbar1 (by omega) hsz1
      have hp : Dt.swp M k i1 k k ≠ 0 := by
        unfold Dt.swp
        rw [if_pos rfl]; exact hne
      have hdn : d ≠ 0 := fun w => hbar.d0 (by rw [w]; rfl)
      have hdd : sz d ≤ 9000 := by
        rcases Nat.eq_zero_or_pos k with h0 | h0
        · have h1 : ((d : Int) : Rat) = 1 := by rw [hbar.dd, h0]; rfl
          have : d = 1 := by exact_mod_cast h1
          rw [this]; exact szL (by decide) (by decide) (by decide)
        · have h1 := hbar.id1 0 0 h0 h0
          rw [if_pos rfl] at h1
          have : M 0 0 = d := by exact_mod_cast (show ((M 0 0 : Int) : Rat) = ((d : Int) : Rat) from h1)
          rw [← this]; exact big _ _ _ k hbar (by omega) hsz 0 0 (by omega) (by omega)
      have st := hbar1.stepI hk hp
      walk_at "x"
      refine spSwept_i hp1 hR1 (by omega) (by omega) (by omega) (by omega) (by omega) hdn hdd (fun i j hi hj => hM1 i j (by omega) (by omega)) ?_
      intro p2 H4 as2 fp2 e4 hp2 hal2 hR2
      rw [ek] at hR2
      obtain ⟨c2, hc2⟩ := lt_some (show k < as2.length by omega)
      have hat : atI (as2.map V.ref) ((0 : Int) + (k : Int)) = some (.ref c2) := atI_lt (by omega) (by rw [ek, List.getElem?_map, hc2]; rfl)
      have hr2 := hR2.2 _ _ hc2
      have e04 : Same H H4 := (e2.trans e3).trans e4
      walk_at "x"
      refine ⟨_, p2, as2, Dt.swp B k i1, Dt.nxtI (Dt.swp M k i1) k d, _, rfl, e04, Same.none fp2 (e2.trans e3), hp2, by omega, hR2, ?_, heq1, hsz1⟩
      have : Dt.nxtI (Dt.swp M k i1) k d k ((0 : Int) + (k : Int)).toNat = Dt.swp M k i1 k k := by
        rw [ek]; unfold Dt.nxtI; rw [if_pos rfl]
      rw [this]
      exact st.1
    · rintro σ' H2 ⟨f5, t', bs', B, M, d, rfl, e2, ft', ht', hbl', hR', hbar, heq, hsz⟩
      rw [hcn] at hbar
      have hdn : d ≠ 0 := fun w => hbar.d0 (by rw [w]; rfl)
      have hdd : sz d ≤ 8999 := by
        have h1 := hbar.id1 0 0 n0 n0
        rw [if_pos rfl] at h1
        have : M 0 0 = d := by exact_mod_cast (show ((M 0 0 : Int) : Rat) = ((d : Int) : Rat) from h1)
        rw [← this]
        have := bd_sz (x := M 0 0) (hbar.sz (Nat.le_refl _) (by omega) (fun l m hl hm => sz_bd (hsz l m hl hm)) n0 (Nat.zero_le _))
        omega
      have hdne : Dt.det n (Dt.cl R) ≠ 0 := fun w => hbar.d0 (by rw [hbar.dd]; exact heq.dt.mp (hdet.mp w))
      have hat0 := heq.an (fun m => Dt.castM M m n / ((d : Int) : Rat))
      have hans := hmeet _ (hat0.mpr fun l hl => hbar.meets hl)
      walk_at "x"
      refine x_compS1 (src_list (K := K) (a := t') (xs := bs'.map V.ref)) (fun H' e => SqL.of (e.at ht')) rfl (fun i vs H' => IsQs H' vs ((List.range i).map fun m => Dt.castM M m n / ((d : Int) : Rat))) (fun H' _ => trivial) ?_ ?_
      · rintro i x D vs o H3 H4 hi hD e3 hv hvl hI e4 hx
        rw [List.length_map] at hi
        obtain ⟨c, hc⟩ := lt_some hi
        have ev : x = .ref c := by rw [List.getElem?_map, hc] at hx; exact (Option.some.inj hx).symm
        subst ev
        have hr := (e3.trans e4).at (hR'.2 _ _ hc)
        walk_at "x"
        refine spPartX_i hdn hdd ?_
        intro p H5 e5 hq
        rw [hcn] at hq
        have hv5 := (e4.trans e5).at hv
        walk_at "x"
        rename_i H6 b6 h6
        refine ⟨⟨_, rfl⟩, by walk_at "h", _, h6, by rw [List.length_append]; exact Nat.succ_le_succ hvl, ?_⟩
        show IsQs H6 _ ((List.range (i + 1)).map _)
        rw [List.range_succ, List.map_append, List.map_singleton]
        refine IsQs.app ?_ (LBut.isQs b6 (hI.same (e4.trans e5)))
        have : Dt.castM M i n / ((d : Int) : Rat) = Rat.divInt (M i n) d := by rw [Rat.divInt_eq_div]; rfl
        rw [this]
        exact LBut.isQ b6 hq
      · rintro D H3 vs hD e3 hv hvl hI
        rw [List.length_map, hbl'] at hI
        refine q1 hdne D H3 vs _ (Same.none hD e2) (e2.trans e3) hv hI hans fun m hm => ?_
        show SzQ (((M m n : Int) : Rat) / ((d : Int) : Rat)) _ _
        rw [← Rat.divInt_eq_div, ← ez]
        have sM : ∀ i j, i < n → j ≤ n → sz (M i j) ≤ n * (z + 4) + 1 := fun i j hi hj => bd_sz (x := M i j) (hbar.sz (Nat.le_refl _) (by omega) (fun l m hl hm => sz_bd (hsz l m hl hm)) hi hj)
        have h1 := hbar.id1 0 0 n0 n0
        rw [if_pos rfl] at h1
        have hM0 : M 0 0 = d := by exact_mod_cast (show ((M 0 0 : Int) : Rat) = ((d : Int) : Rat) from h1)
        exact szQ_div' hdn (sM m n hm (Nat.le_refl _)) (hM0 ▸ sM 0 0 n0 (Nat.zero_le _))

theorem ok__law_cell (T : Txt K mg) : FnOk P w K mg base (CXF P w) 1 T.d__law_cell.a T.d__law_cell.fd ["_law_script", "_law_k"] (spCell K) := by
  refine T.d__law_cell.F.okN sc__law_cell (fun vs H Q E h => ?_) (fun cdv A outer s H vs Q E hr h => ?_)
  · obtain ⟨a, ns, k, rfl, _⟩ := h; rfl
  obtain ⟨a, ns, k, rfl, hS, h0, q⟩ := h
  refine ⟨_, (pss_cons (ps_if (pt_cmpR op_lt (pv 1) (pe_callB (show CallR _ _ (rLen K) from call_lenU) rfl T.z_len BT.len (pa_cons (pv 0) pa_nil)) (nomark _))
  (pss_one (ps_ret (pe_ix (show IxR _ (rIx K) from ix_seq) (pv 0) (pv 1) (fun _ _ => rfl))))
  pss_nil)
 (pss_one (ps_ret pe_int))), ?_⟩
  refine x_start (σ0 := [some (.ref a), some (.int k)]) rfl ?_
  walk_at "x"
  · rename_i h
    exact x_ixL hS (cell_in h0 h) q
  · rename_i h
    rw [cell_out h] at q
    exact q
theorem ok__law_draw (T : Txt K mg) : FnOk P w K mg base (CXF P w) 2 T.d__law_draw.a T.d__law_draw.fd ["_law_script", "_law_k", "_law_prime", "_law_many"] (spDrawP K) := by
  refine T.d__law_draw.F.okN sc__law_draw (fun vs H Q E h => ?_) (fun cdv A outer s H vs Q E hr h => ?_)
  · obtain ⟨a, ns, k, p, m, rfl, _⟩ := h; rfl
  obtain ⟨a, ns, k, p, m, rfl, hS, hz, h0, h1, hp, hm, q⟩ := h
  have hk := sq_le h0 h1
  have hk' := Int.mul_nonneg h0 h0
  have hc := hz.cell k
  refine ⟨_, (pss_one (ps_ret (pe_op op_modU (pe_op op_modU (pe_op (show OpR _ (binaryOp .Add) (rAddU K) from op_addU) (pe_op (show OpR _ (binaryOp .Add) (rAddU K) from op_addU) (pe_op op_mulU (pe_call (ok__law_cell T) (hr.mono (by decide)) rfl T.d__law_cell.m T.d__law_cell.F.kp T.d__law_cell.b .nil (passN nox_F) (pa_cons (pv 0) (pa_cons (pv 1) pa_nil))) pe_int) (pe_op op_mulU (pe_op op_mulU pe_int (pv 1)) (pv 1))) pe_int) (pv 2)) (pv 3)))), ?_⟩
  refine x_start (σ0 := [some (.ref a), some (.int k), some (.int p), some (.int m)]) rfl ?_
  walk_at "x"
  exact q _ rfl (Int.emod_nonneg _ (by omega)) (Int.emod_lt_of_pos _ (by omega))
theorem ok__law_whole (T : Txt K mg) : FnOk P w K mg base (CXF P w) 1 T.d__law_whole.a T.d__law_whole.fd ["_law_thing"] spWhole := by
  refine T.d__law_whole.F.okN sc__law_whole (fun vs H Q E h => ?_) (fun cdv A outer s H vs Q E hr h => ?_)
  · obtain ⟨x, rfl, _⟩ := h; rfl
  obtain ⟨i, rfl, q⟩ := h
  refine ⟨_, (pss_one (ps_ret (pe_and (pe_callB (show CallR _ _ (rIsiU K) from call_isiU) rfl T.z_isinstance BT.isinstance (pa_cons (pv 0) (pa_cons (pe_bltn (v := .ty "int") rfl T.z_int BT.int rfl) pa_nil))) (pe_one (show PE _ _ (tNotU K _) from pe_notU (pe_callB (show CallR _ _ (rIsiU K) from call_isiU) rfl T.z_isinstance BT.isinstance (pa_cons (pv 0) (pa_cons (pe_bltn (v := .ty "bool") rfl T.z_bool BT.bool rfl) pa_nil)))))))), ?_⟩
  refine x_start (σ0 := [some (.int i)]) rfl ?_
  walk_at "x"
  exact q
theorem ok__law_divisor (T : Txt K mg) : FnOk P w K mg base (CXF P w) 1 T.d__law_divisor.a T.d__law_divisor.fd ["_law_one", "_law_other"] spDivP := by
  refine T.d__law_divisor.F.okN sc__law_divisor (fun vs H Q E h => ?_) (fun cdv A outer s H vs Q E hr h => ?_)
  · obtain ⟨a, b, rfl, _⟩ := h; rfl
  obtain ⟨a, b, rfl, a0, b0, q⟩ := h
  refine ⟨_, (pss_cons (ps_while PassesOwn.never (pt_cmpR (show OpR _ (compareOp .NotEq) (rNeU K) from op_neU hr.units) (pv 1) pe_int (nomark _))
  (pss_cons (ps_set (i := 2) sc__law_divisor.nd rfl (Or.inl rfl) (pe_op op_modU (pv 0) (pv 1)))
 (pss_cons (ps_set (i := 0) sc__law_divisor.nd rfl (Or.inl rfl) (pv 1))
 (pss_one (ps_set (i := 1) sc__law_divisor.nd rfl (Or.inl rfl) (pv 2))))))
 (pss_one (ps_ret (pv 0)))), ?_⟩
  refine x_start (σ0 := [some (.int a), some (.int b), none]) rfl ?_
  walk_at "x"
  refine ⟨fun m σ H' => ∃ k r f, σ = [some (.int k), some (.int r), f] ∧ H' = H ∧ 0 ≤ k ∧ 0 ≤ r ∧ My.gc k r = My.gc a b ∧ m = r.toNat, ⟨_, _, _, _, rfl, rfl, a0, b0, rfl, rfl⟩, ?_⟩
  rintro m σ H' ⟨k, r, f, rfl, rfl, hk, hr0, hg, rfl⟩
  walk_at "x"
  · rename_i hne
    refine ⟨fun σ' H'' => σ' = [some (.int r), some (.int (k % r)), some (.int (k % r))] ∧ H'' = H', ?_, ?_⟩
    · rintro σ' H'' ⟨rfl, rfl⟩
      have h1 := Int.emod_nonneg k (b := r) (by omega)
      have h2 := Int.emod_lt_of_pos k (b := r) (by omega)
      exact ⟨_, by omega, _, _, _, rfl, rfl, hr0, h1, by rw [My.gc_step]; exact hg, rfl⟩
    · walk_at "x"
      exact ⟨rfl, rfl⟩
  · rename_i he
    rw [he, My.gc_zero_right hk] at hg
    rw [hg]; exact q
theorem ok__law_is_part (T : Txt K mg) : FnOk P w K mg base (CXF P w) 2 T.d__law_is_part.a T.d__law_is_part.fd ["_law_thing"] spIsPartQ := by
  refine T.d__law_is_part.F.okN sc__law_is_part (fun vs H Q E h => ?_) (fun cdv A outer s H vs Q E hr h => ?_)
  · obtain ⟨a, q, rfl, _⟩ := h; rfl
  obtain ⟨a, q, rfl, h, k⟩ := h
  have hdp := den_pos q
  have hab := abs_nn q.num
  have hgc := gc_part q
  refine ⟨_, (pss_cons (ps_if (PW.pt (pw_or (pt_not (show PT _ _ (tTru K _) from pt_truthU (pe_callB (show CallR _ _ (rIsiU K) from call_isiU) rfl T.z_isinstance BT.isinstance (pa_cons (pv 0) (pa_cons (pe_bltn (v := .ty "tuple") rfl T.z_tuple BT.tuple rfl) pa_nil))) (fun _ => rfl))) (pw_or1 (pt_cmpR (show OpR _ (compareOp .NotEq) (rNeU K) from op_neU hr.units) (pe_callB (show CallR _ _ (rLen K) from call_lenU) rfl T.z_len BT.len (pa_cons (pv 0) pa_nil)) pe_int (nomark _)))))
  (pss_one (ps_ret pe_bl))
  pss_nil)
 (pss_cons (ps_if (PW.pt (pw_or (pt_not (show PT _ _ (tTru K _) from pt_truthU (pe_call (ok__law_whole T) (hr.mono (by decide)) rfl T.d__law_whole.m T.d__law_whole.F.kp T.d__law_whole.b .nil (passN nox_F) (pa_cons (pe_ix (show IxR _ (rIx K) from ix_seq) (pv 0) pe_int (fun _ _ => rfl)) pa_nil)) (fun _ => rfl))) (pw_or (pt_not (show PT _ _ (tTru K _) from pt_truthU (pe_call (ok__law_whole T) (hr.mono (by decide)) rfl T.d__law_whole.m T.d__law_whole.F.kp T.d__law_whole.b .nil (passN nox_F) (pa_cons (pe_ix (show IxR _ (rIx K) from ix_seq) (pv 0) pe_int (fun _ _ => rfl)) pa_nil)) (fun _ => rfl))) (pw_or1 (pt_cmpR op_lt (pe_ix (show IxR _ (rIx K) from ix_seq) (pv 0) pe_int (fun _ _ => rfl)) pe_int (nomark _))))))
  (pss_one (ps_ret pe_bl))
  pss_nil)
 (pss_one (ps_ret (pe_cmpR (show OpR _ (compareOp .Eq) (rEqU K) from op_eqU hr.units) (pe_call (ok__law_divisor T) (hr.mono (by decide)) rfl T.d__law_divisor.m T.d__law_divisor.F.kp T.d__law_divisor.b .nil (passN nox_F) (pa_cons (pe_callB call_absU rfl T.z_abs BT.abs (pa_cons (pe_ix (show IxR _ (rIx K) from ix_seq) (pv 0) pe_int (fun _ _ => rfl)) pa_nil)) (pa_cons (pe_ix (show IxR _ (rIx K) from ix_seq) (pv 0) pe_int (fun _ _ => rfl)) pa_nil))) pe_int (nomark _)))))), ?_⟩
  refine x_start (σ0 := [some (.ref a)]) rfl ?_
  walk_at "x"
  all_goals first | (exfalso; omega) | skip
  rw [hgc]
  walk_at "x"
  exact k
theorem ok__law_parts (T : Txt K mg) : FnOk P w K mg base (CXF P w) 3 T.d__law_parts.a T.d__law_parts.fd ["_law_told", "_law_many"] (spPartsQ K) := by
  refine T.d__law_parts.F.okN sc__law_parts (fun vs H Q E h => ?_) (fun cdv A outer s H vs Q E hr h => ?_)
  · obtain ⟨a, ws, qs, n, rfl, _⟩ := h; rfl
  obtain ⟨a, ws, qs, n, rfl, ha, hq, hn, k⟩ := h
  have hwl := hq.length
  refine ⟨_, (pss_cons (ps_if (PW.pt (pw_or (pt_not (show PT _ _ (tTru K _) from pt_truthU (pe_callB (show CallR _ _ (rIsiU K) from call_isiU) rfl T.z_isinstance BT.isinstance (pa_cons (pv 0) (pa_cons (pe_bltn (v := .ty "list") rfl T.z_list BT.list rfl) pa_nil))) (fun _ => rfl))) (pw_or1 (pt_cmpR (show OpR _ (compareOp .NotEq) (rNeU K) from op_neU hr.units) (pe_callB (show CallR _ _ (rLen K) from call_lenU) rfl T.z_len BT.len (pa_cons (pv 0) pa_nil)) (pv 1) (nomark _)))))
  (pss_one (ps_ret pe_bl))
  pss_nil)
 (pss_cons (ps_for PassesOwn.never rfl (show PI _ _ _ (iList K _) from pi_list (pv 0)) (pg_name (i := 2) sc__law_parts.nd rfl (Or.inl rfl))
  (pss_one (ps_if (pt_not (show PT _ _ (tTru K _) from pt_truthU (pe_call (ok__law_is_part T) (hr.mono (by decide)) rfl T.d__law_is_part.m T.d__law_is_part.F.kp T.d__law_is_part.b .nil (passN nox_F) (pa_cons (pv 2) pa_nil)) (fun _ => rfl)))
  (pss_one (ps_ret pe_bl))
  pss_nil)))
 (pss_one (ps_ret pe_bl)))), ?_⟩
  refine x_start (σ0 := [some (.ref a), some (.int n), none]) rfl ?_
  walk_at "x"
  · exfalso; omega
  refine x_forL (xs := ws) (fun i σ' H' => ∃ f2 : Option V, σ' = [some (.ref a), some (.int n), f2] ∧ H' = H) ⟨_, rfl, rfl⟩ ?_ ?_ ?_
  · rintro i σ' H' _ ⟨_, _, rfl⟩; exact SqL.of ha
  · rintro i x σ' H' hx ⟨f2, rfl, rfl⟩
    obtain ⟨b, q, rfl, hqi, hb⟩ := hq.get hx
    walk_at "x"
    exact ⟨_, rfl, rfl⟩
  · rintro σ' H3 ⟨f2, rfl, rfl⟩
    walk_at "x"
    exact k
theorem ok__law_part (T : Txt K mg) : FnOk P w K mg base (CXF P w) 2 T.d__law_part.a T.d__law_part.fd ["_law_top", "_law_bottom"] spPartP := by
  refine T.d__law_part.F.okN sc__law_part (fun vs H Q E h => ?_) (fun cdv A outer s H vs Q E hr h => ?_)
  · obtain ⟨a, b, rfl, _⟩ := h; rfl
  obtain ⟨t, b, rfl, hb, hs, q⟩ := h
  have ha := abs_nn t
  have eg : My.gc (if t < 0 then -t else t) b = My.gc t b := by
    have := My.gc_abs t b
    rwa [if_neg (show ¬ b < 0 by omega)] at this
  have hg : 0 < My.gc (if t < 0 then -t else t) b := by rw [eg]; exact My.gc_pos_right (by omega)
  have hz : sz (My.gc (if t < 0 then -t else t) b) ≤ 9000 := by rw [eg]; exact Nat.le_trans (sz_gc_right (by omega) hs) (by decide)
  refine ⟨_, (pss_cons (ps_set (i := 2) sc__law_part.nd rfl (Or.inl rfl) (pe_call (ok__law_divisor T) (hr.mono (by decide)) rfl T.d__law_divisor.m T.d__law_divisor.F.kp T.d__law_divisor.b .nil (passN nox_F) (pa_cons (pe_callB call_absU rfl T.z_abs BT.abs (pa_cons (pv 0) pa_nil)) (pa_cons (pv 1) pa_nil))))
 (pss_one (ps_ret (pe_tup (pa_cons (pe_op op_divU (pv 0) (pv 2)) (pa_cons (pe_op op_divU (pv 1) (pv 2)) pa_nil)))))), ?_⟩
  refine x_start (σ0 := [some (.int t), some (.int b), none]) rfl ?_
  walk_at "x"
  refine NewQ.mk (q := Rat.divInt t b) q ?_
  rw [eg]
  exact My.part_pos hb
theorem ok__law_plus (T : Txt K mg) : FnOk P w K mg base (CXF P w) 3 T.d__law_plus.a T.d__law_plus.fd ["_law_one", "_law_other"] spPlusL := by
  refine T.d__law_plus.F.okN sc__law_plus (fun vs H Q E h => ?_) (fun cdv A outer s H vs Q E hr h => ?_)
  · obtain ⟨a, b, q, r, rfl, _⟩ := h; rfl
  obtain ⟨a, b, q, r, rfl, h1, h2, s1, s2, k⟩ := h
  have d1 := den_pos q
  have d2 := den_pos r
  have m1 : CMulS q.num (r.den : Int) := CMulS.of s1.1 s2.2 (by decide)
  have m2 : CMulS r.num (q.den : Int) := CMulS.of s2.1 s1.2 (by decide)
  have m3 : CMulS (q.den : Int) (r.den : Int) := CMulS.of s1.2 s2.2 (by decide)
  have s3 : sz ((q.den : Int) * (r.den : Int)) ≤ 8999 := Nat.le_trans (sz_mul s1.2 s2.2) (by decide)
  have d3 : 0 < (q.den : Int) * (r.den : Int) := Int.mul_pos d1 d2
  refine ⟨_, (pss_one (ps_ret (pe_call (ok__law_part T) (hr.mono (by decide)) rfl T.d__law_part.m T.d__law_part.F.kp T.d__law_part.b .nil (passN nox_F) (pa_cons (pe_op (show OpR _ (binaryOp .Add) (rAddU K) from op_addU) (pe_op op_mulU (pe_ix (show IxR _ (rIx K) from ix_seq) (pv 0) pe_int (fun _ _ => rfl)) (pe_ix (show IxR _ (rIx K) from ix_seq) (pv 1) pe_int (fun _ _ => rfl))) (pe_op op_mulU (pe_ix (show IxR _ (rIx K) from ix_seq) (pv 1) pe_int (fun _ _ => rfl)) (pe_ix (show IxR _ (rIx K) from ix_seq) (pv 0) pe_int (fun _ _ => rfl)))) (pa_cons (pe_op op_mulU (pe_ix (show IxR _ (rIx K) from ix_seq) (pv 0) pe_int (fun _ _ => rfl)) (pe_ix (show IxR _ (rIx K) from ix_seq) (pv 1) pe_int (fun _ _ => rfl))) pa_nil))))), ?_⟩
  refine x_start (σ0 := [some (.ref a), some (.ref b)]) rfl ?_
  walk_at "x"
  rename_i p H' e hp
  exact k p H' e (plus_div q r ▸ hp)

theorem ok__law_row (T : Txt K mg) : FnOk P w K mg base (CXF P w) 3 T.d__law_row.a T.d__law_row.fd ["_law_script", "_law_k", "_law_n"] (spRowT K) := by
  refine T.d__law_row.F.okN sc__law_row (fun vs H Q E h => ?_) (fun cdv A outer s H vs Q E hr h => ?_)
  · obtain ⟨a, ns, k, n, rfl, _⟩ := h; rfl
  obtain ⟨a, ns, k, n, rfl, hS, hz, hk, hn, q⟩ := h
  refine ⟨_, (pss_cons (ps_set (i := 3) sc__law_row.nd rfl (Or.inl rfl) (pe_lst pa_nil))
 (pss_cons (ps_for PassesOwn.never rfl (pi_range1 rfl T.z_range (pa_cons (pv 1) pa_nil)) (pg_name (i := 4) sc__law_row.nd rfl (Or.inl rfl))
  (pss_cons (ps_set (i := 5) sc__law_row.nd rfl (Or.inl rfl) (pe_op op_sub (pe_call (ok__law_draw T) (hr.mono (by decide)) rfl T.d__law_draw.m T.d__law_draw.F.kp T.d__law_draw.b .nil (passN nox_F) (pa_cons (pv 0) (pa_cons (pe_op (show OpR _ (binaryOp .Add) (rAddU K) from op_addU) (pe_op (show OpR _ (binaryOp .Add) (rAddU K) from op_addU) pe_int (pe_op op_mulU pe_int (pv 1))) (pv 4)) (pa_cons pe_int (pa_cons pe_int pa_nil))))) pe_int))
 (pss_one (ps_expr (show PE _ _ (tBM K _ _ _ _) from pe_bm PySem.F.plainAttrs_list PySem.F.slot_list_append PySem.F.type_list_append mt_append (pv 3) (pa_cons (pe_op op_mulU (pv 5) (pe_call (ok__law_draw T) (hr.mono (by decide)) rfl T.d__law_draw.m T.d__law_draw.F.kp T.d__law_draw.b .nil (passN nox_F) (pa_cons (pv 0) (pa_cons (pe_op (show OpR _ (binaryOp .Add) (rAddU K) from op_addU) (pe_op (show OpR _ (binaryOp .Add) (rAddU K) from op_addU) pe_int (pe_op op_mulU pe_int (pv 1))) (pv 4)) (pa_cons pe_int (pa_cons pe_int pa_nil)))))) pa_nil))))))
 (pss_cons (ps_set (i := 6) sc__law_row.nd rfl (Or.inl rfl) (pe_op (show OpR _ (binaryOp .Add) (rAddU K) from op_addU) pe_int (pe_call (ok__law_draw T) (hr.mono (by decide)) rfl T.d__law_draw.m T.d__law_draw.F.kp T.d__law_draw.b .nil (passN nox_F) (pa_cons (pv 0) (pa_cons (pe_op (show OpR _ (binaryOp .Add) (rAddU K) from op_addU) pe_int (pe_op op_mulU pe_int (pv 1))) (pa_cons pe_int (pa_cons pe_int pa_nil)))))))
 (pss_mid (ps_if (pt_cmpR (show OpR _ (compareOp .Eq) (rEqU K) from op_eqU hr.units) (pe_call (ok__law_draw T) (hr.mono (by decide)) rfl T.d__law_draw.m T.d__law_draw.F.kp T.d__law_draw.b .nil (passN nox_F) (pa_cons (pv 0) (pa_cons (pe_op (show OpR _ (binaryOp .Add) (rAddU K) from op_addU) pe_int (pe_op op_mulU pe_int (pv 1))) (pa_cons pe_int (pa_cons pe_int pa_nil))))) pe_int (nomark _))
  (pss_one (ps_set (i := 6) sc__law_row.nd rfl (Or.inl rfl) (pe_op op_sub pe_int (pv 6))))
  pss_nil)
 (pss_one (ps_ret (pe_op (show OpR _ (binaryOp .Add) (rAddU K) from op_addU) (pe_op (show OpR _ (binaryOp .Add) (rAddU K) from op_addU) (pv 3) (pe_lst (pa_cons (pv 6) pa_nil))) (pe_comp rfl (pi_range2 rfl T.z_range (pa_cons (pe_op (show OpR _ (binaryOp .Add) (rAddU K) from op_addU) (pv 1) pe_int) (pa_cons (pv 2) pa_nil))) (compScope_of (Ni := ["_law_m"]) (caps := [none]) (by rfl)) (fun S _ _ _ _ _ => (pg_nameC (gi := 0) S (Or.inl rfl) rfl)) (fun _ _ _ _ _ => pf_nil) (fun _ _ _ _ _ => pe_int))))))))), ?_⟩
  refine x_start (σ0 := [some (.ref a), some (.int (k : Int)), some (.int (n : Int)), none, none, none, none]) rfl ?_
  walk_at "x"
  rename_i D H1 fD e1 hD
  refine x_forR (fun i σ' H' => ∃ (f : Nat → Int) (f4 f5 : Option V), σ' = [some (.ref a), some (.int (k : Int)), some (.int (n : Int)), some (.ref D), f4, f5, none] ∧ Same H H' ∧ H' D = some (.lst ((vec i f).map V.int)) ∧ ∀ j, -9 ≤ f j ∧ f j ≤ 9) ⟨fun _ => 0, _, _, rfl, e1, hD, fun j => ⟨by show (-9 : Int) ≤ 0; decide, by show (0 : Int) ≤ 9; decide⟩⟩ ?_ ?_
  · rintro i σ' H2 hi ⟨f, f4, f5, rfl, e2, hD2, hf⟩
    have hi' : i < k := by omega
    have hS2 : SqL K H2 a (ns.map V.int) := hS.keep e2
    have hlv : ((vec i f).map V.int).length ≤ 20 := by rw [List.length_map, vec_len]; omega
    walk_at "x"
    rename_i y ye y0 y1 z ze z0 z1 H3 b3 h3
    rw [vec_more] at h3
    refine ⟨_, _, _, rfl, b3.same e2 fD, h3, fun j => ?_⟩
    split
    · rcases (show z = 0 ∨ z = 1 by omega) with h | h <;> subst h <;> omega
    · exact hf j
  rintro σ' H2 ⟨f, f4, f5, rfl, e2, hD2, hf⟩
  rw [show ((k : Int)).toNat = k by omega] at hD2
  have hS2 : SqL K H2 a (ns.map V.int) := hS.keep e2
  walk_at "x"
  rename_i y ye y0 y1
  refine x_midS 6 (fun v H' => H' = H2 ∧ ∃ c : Int, v = .int c ∧ c ≠ 0 ∧ -9 ≤ c ∧ c ≤ 9) ?_ ?_
  · walk_at "x"
    · exact ⟨_, rfl, rfl, _, rfl, by omega, by omega, by omega⟩
    · exact ⟨_, rfl, rfl, _, rfl, by omega, by omega, by omega⟩
  rintro _ H3 ⟨rfl, c, rfl, cn, c0, c1⟩
  walk_at "x"
  rename_i l1 H4 f1 e4 hl1
  refine x_catN (e4.at hD2) hl1 (by rw [List.length_map, vec_len]; simp only [List.length_singleton]; omega) ?_
  intro D2 H5 f2 e5 hD5
  rw [vec_more] at hD5
  walk_at "x"
  rename_i z H6 f3 e6 hz6
  refine x_catN (e6.at hD5) hz6 (by rw [List.length_map, vec_len, List.length_map, vec_len]; omega) ?_
  intro p H7 fp e7 hp
  rw [vec_join] at hp
  have hln : k + 1 + ((n : Int) - ((k : Int) + 1)).toNat = n := by omega
  rw [hln] at hp
  refine q p H7 _ (Same.none fp (((e2.trans e4).trans e5).trans e6)) ((((e2.trans e4).trans e5).trans e6).trans e7) hp (fun j => ?_) (fun j hj => ?_) ?_
  · split
    · split
      · exact ⟨c0, c1⟩
      · exact hf j
    · exact ⟨by show (-9 : Int) ≤ 0; decide, by show (0 : Int) ≤ 9; decide⟩
  · rw [if_neg (by omega)]
  · rw [if_pos (by omega), if_pos rfl]; exact cn

theorem ok__law_grid (T : Txt K mg) : FnOk P w K mg base (CXF P w) 4 T.d__law_grid.a T.d__law_grid.fd ["_law_script", "_law_n"] (spGrid K) := by
  refine T.d__law_grid.F.okN sc__law_grid (fun vs H Q E h => ?_) (fun cdv A outer s H vs Q E hr h => ?_)
  · obtain ⟨a, ns, n, rfl, _⟩ := h; rfl
  obtain ⟨a, ns, n, rfl, hS, hz, n0, hn, q⟩ := h
  refine ⟨_, (pss_cons (ps_set (i := 2) sc__law_grid.nd rfl (Or.inr rfl) (pe_comp rfl (pi_range1 rfl T.z_range (pa_cons (pv 1) pa_nil)) (compScope_of (Ni := ["_law_k", "_law_script", "_law_n"]) (caps := [none, some 0, some 1]) (by rfl)) (fun S _ _ _ _ _ => (pg_nameC (gi := 0) S (Or.inl rfl) rfl)) (fun _ _ _ _ _ => pf_nil) (fun _ _ _ _ _ => (pe_call (ok__law_row T) (hr.mono (by decide)) rfl T.d__law_row.m T.d__law_row.F.kp T.d__law_row.b .nil (passN nox_F) (pa_cons (pv 1) (pa_cons (pv 0) (pa_cons (pv 2) pa_nil)))))))
 (pss_cons (ps_for PassesOwn.never rfl (pi_range2 rfl T.z_range (pa_cons pe_int (pa_cons (pv 1) pa_nil))) (pg_name (i := 3) sc__law_grid.nd rfl (Or.inl rfl))
  (pss_cons (ps_set (i := 4) sc__law_grid.nd rfl (Or.inr rfl) (pe_op op_sub (pe_op op_sub (pv 1) pe_int) (pv 3)))
 (pss_cons (ps_set (i := 5) sc__law_grid.nd rfl (Or.inr rfl) (pe_op op_sub (pe_call (ok__law_draw T) (hr.mono (by decide)) rfl T.d__law_draw.m T.d__law_draw.F.kp T.d__law_draw.b .nil (passN nox_F) (pa_cons (pv 0) (pa_cons (pe_op (show OpR _ (binaryOp .Add) (rAddU K) from op_addU) pe_int (pe_op op_mulU pe_int (pv 4))) (pa_cons pe_int (pa_cons pe_int pa_nil))))) pe_int))
 (pss_one (ps_asg (pe_comp rfl (pi_range1 rfl T.z_range (pa_cons (pv 1) pa_nil)) (compScope_of (Ni := ["_law_m", "_law_grid_here", "_law_k", "_law_many"]) (caps := [none, some 2, some 4, some 5]) (by rfl)) (fun S _ _ _ _ _ => (pg_nameC (gi := 0) S (Or.inl rfl) rfl)) (fun _ _ _ _ _ => pf_nil) (fun _ _ _ _ _ => (pe_op (show OpR _ (binaryOp .Add) (rAddU K) from op_addU) (pe_ix (show IxR _ (rIx K) from ix_seq) (pe_ix (show IxR _ (rIx K) from ix_seq) (pv 1) (pv 2) (fun _ _ => rfl)) (pv 0) (fun _ _ => rfl)) (pe_op op_mulU (pv 3) (pe_ix (show IxR _ (rIx K) from ix_seq) (pe_ix (show IxR _ (rIx K) from ix_seq) (pv 1) (pe_op (show OpR _ (binaryOp .Add) (rAddU K) from op_addU) (pv 2) pe_int) (fun _ _ => rfl)) (pv 0) (fun _ _ => rfl)))))) (pg_sub (pv 2) (pv 4) set_list))))))
 (pss_one (ps_ret (pv 2))))), ?_⟩
  refine x_start (σ0 := [some (.ref a), some (.int (n : Int)), none, none, none, none]) rfl ?_
  walk_at "x"
  refine x_compS1 (src_range (lo := 0) (n := ((n : Int)).toNat)) (fun _ _ => trivial) rfl (fun i vs H' => ∃ (bs : List Addr) (F : Nat → Nat → Int), vs = bs.map V.ref ∧ bs.length = i ∧ Rows H' bs n F ∧ (∀ l j, -9 ≤ F l j ∧ F l j ≤ 9) ∧ ∀ l, l < i → (∀ j, l < j → F l j = 0) ∧ F l l ≠ 0) (fun H' _ => ⟨[], fun _ _ => 0, rfl, rfl, ⟨List.nodup_nil, fun _ _ h => nomatch h⟩, fun l j => ⟨by show (-9 : Int) ≤ 0; decide, by show (0 : Int) ≤ 9; decide⟩, fun l h => by omega⟩) ?_ ?_
  · rintro i x D vs o H1 H2 hi hD e1 hv hvl ⟨bs, F, rfl, hbl, hR, hF, hT⟩ e2 rfl
    have hi' : i < n := by omega
    have hS2 : SqL K H2 a (ns.map V.int) := hS.keep (e1.trans e2)
    have hbl3 : (bs.map V.ref).length ≤ 20 := by rw [List.length_map]; omega
    rw [Int.zero_add]
    walk_at "x"
    rename_i p H3 f fp e3 hp f9 f0 fc H4 b4 h4
    have npb : p ∉ bs := (hR.same e2).fresh fp
    have nDb : D ∉ bs := hR.ne (by omega) hv
    have npD : p ≠ D := fun z => by rw [z, e2.at hv] at fp; cases fp
    refine ⟨⟨_, rfl⟩, b4.same (e1.trans (e2.trans e3)) hD, _, h4, by rw [List.length_append]; exact Nat.succ_le_succ hvl, bs ++ [p], (fun l => if l = bs.length then f else F l), by rw [List.map_append]; rfl, by rw [List.length_append, hbl]; rfl, Rows.snoc ((hR.same (e2.trans e3)).but b4 nDb) npb (b4.lst hp npD), fun l j => ?_, fun l hl => ?_⟩
    · dsimp only
      split
      · exact f9 j
      · exact hF l j
    · rw [hbl]
      dsimp only
      by_cases e : l = i
      · subst e
        rw [if_pos rfl]; exact ⟨f0, fc⟩
      · rw [if_neg e]; exact hT l (by omega)
  rintro g H1 vs fg e1 hg hvl ⟨as, F, rfl, hal, hR, hF, hT⟩
  have hcn : ((n : Int)).toNat = n := by omega
  rw [hcn] at hal hT
  have hdet : Dt.det n (Dt.cl (Dt.castM F)) ≠ 0 := Dt.tri_det (fun l j hl hj => by
    show ((F l j : Int) : Rat) = 0
    rw [(hT l (by omega)).1 j hl]; rfl) fun l hl w => (hT l hl).2 (by exact_mod_cast (show ((F l l : Int) : Rat) = 0 from w))
  walk_at "x"
  refine x_forR (fun i σ' H' => ∃ (as : List Addr) (F : Nat → Nat → Int) (f3 f4 f5 : Option V), σ' = [some (.ref a), some (.int (n : Int)), some (.ref g), f3, f4, f5] ∧ Same H H' ∧ H' g = some (.lst (as.map V.ref)) ∧ as.length = n ∧ Rows H' as n F ∧ (∀ l j, -(9 * 4 ^ i) ≤ F l j ∧ F l j ≤ 9 * 4 ^ i) ∧ Dt.det n (Dt.cl (Dt.castM F)) ≠ 0) ⟨as, F, _, _, _, rfl, e1, hg, hal, hR, fun l j => by have := hF l j; rw [Int.pow_zero]; omega, hdet⟩ ?_ ?_
  · clear hg hal hR hF hT hdet
    rintro i σ' H2 hi ⟨as, F, f3, f4, f5, rfl, e2, hg, hal, hR, hF, hdet⟩
    have hi' : i + 1 < n := by omega
    obtain ⟨k, hk⟩ : ∃ k : Nat, (n : Int) - 1 - (1 + (i : Int)) = (k : Int) := ⟨n - 2 - i, by omega⟩
    have hk1 : k + 1 < n := by omega
    have hS2 : SqL K H2 a (ns.map V.int) := hS.keep e2
    obtain ⟨c1, hc1⟩ := lt_some (show k < as.length by omega)
    obtain ⟨c2, hc2⟩ := lt_some (show k + 1 < as.length by omega)
    have hat1 : atI (as.map V.ref) (k : Int) = some (.ref c1) := atI_lt (by omega) (by rw [Int.toNat_natCast, List.getElem?_map, hc1]; rfl)
    have hat2 : atI (as.map V.ref) ((k : Int) + 1) = some (.ref c2) := atI_lt (by omega) (by rw [show ((k : Int) + 1).toNat = k + 1 by omega, List.getElem?_map, hc2]; rfl)
    have hb4 := four_le (i := i) (by omega)
    have hsF : ∀ l j, sz (F l j) ≤ 20 := fun l j => sz_of (by have := hF l j; omega)
    walk_at "x"
    rename_i m me m0 m1
    rw [hk]
    refine x_compS1 (src_range (lo := 0) (n := ((n : Int)).toNat)) (fun _ _ => trivial) rfl (fun j vs H' => vs = (vec j fun j => F k j + (m - 3) * F (k + 1) j).map V.int) (fun H' _ => rfl) ?_ ?_
    · rintro j x D vs o H3 H4 hj hD e3 hv hvl rfl e4 rfl
      have hj' : j < n := by omega
      have ej : ((j : Int)).toNat = j := Int.toNat_natCast j
      have hg4 := (e3.trans e4).at hg
      have hr1 := (e3.trans e4).at (hR.2 _ _ hc1)
      have hr2 := (e3.trans e4).at (hR.2 _ _ hc2)
      have mm : CMulS (m - 3) (F (k + 1) (j : Int).toNat) := CMulS.of (n := 4) (sz_of (by omega)) (hsF _ _) (by decide)
      rw [Int.zero_add]
      walk_at "x"
      rename_i H5 b5 h5
      refine ⟨⟨_, rfl⟩, by walk_at "h", _, h5, by rw [List.length_append]; exact Nat.succ_le_succ hvl, ?_⟩
      show (vec j _).map V.int ++ _ = (vec (j + 1) _).map V.int
      rw [vec_succ, List.map_append, ej]; rfl
    rintro D H3 vs hD e3 hv hvl rfl
    rw [hcn] at hv
    have hg3 := e3.at hg
    walk_at "x"
    refine x_setN (j := k) hg3 (by rw [show k = ((k : Int)).toNat from (Int.toNat_natCast _).symm]; exact ixN_lt (by omega) (by rw [List.length_map]; omega)) ?_
    intro H4 b4 h4
    have nDa : D ∉ as := hR.fresh hD
    have nDg : D ≠ g := fun z => by rw [z, hg] at hD; cases hD
    have nga : g ∉ as := hR.ne (by omega) hg
    have ngs : g ∉ as.set k D := fun z => by
      rcases List.mem_or_eq_of_mem_set z with h | h
      · exact nga h
      · exact nDg h.symm
    refine ⟨as.set k D, _, _, _, _, rfl, b4.same (e2.trans e3) fg, by rw [h4, List.map_set], by rw [List.length_set]; exact hal, (Rows.putL (j := k) (hR.same e3) nDa hv).but b4 ngs, fun l j => ?_, ?_⟩
    · have hb := hF l j
      have hb1 := hF k j
      have hb2 := hF (k + 1) j
      rw [Int.pow_succ]
      generalize (4 : Int) ^ i = B at *
      have b3 := bd3 (m := m - 3) (by omega) (by omega) hb2.1 hb2.2
      split
      · show -(9 * (B * 4)) ≤ F k j + (m - 3) * F (k + 1) j ∧ F k j + (m - 3) * F (k + 1) j ≤ 9 * (B * 4)
        omega
      · omega
    · have : Dt.det n (Dt.cl (Dt.castM fun l => if l = k then (fun j => F k j + (m - 3) * F (k + 1) j) else F l)) = Dt.det n (Dt.cl (Dt.castM F)) := by
        rw [← Dt.row_add (c := ((m - 3 : Int) : Rat)) (A := Dt.castM F) (show k < n by omega) hk1 (by omega)]
        refine Dt.det_congr fun j r _ _ => ?_
        show (((if r = k then (fun j => F k j + (m - 3) * F (k + 1) j) else F r) j : Int) : Rat) = if r = k then Dt.castM F k j + _ * Dt.castM F (k + 1) j else Dt.castM F r j
        by_cases h : r = k
        · rw [if_pos h, if_pos h, Rat.intCast_add, Rat.intCast_mul]; rfl
        · rw [if_neg h, if_neg h]; rfl
      rw [this]; exact hdet
  rintro σ' H2 ⟨as, F, f3, f4, f5, rfl, e2, hg, hal, hR, hF, hdet⟩
  walk_at "x"
  refine q g H2 as F fg e2 hg hal hR (fun l j => ?_) hdet
  have hb := hF l j
  have h8 := four_le (i := ((n : Int) - 1).toNat) (by omega)
  constructor
  · exact Int.le_trans (by omega) hb.1
  · exact Int.le_trans hb.2 h8

theorem ok__law_mixed (T : Txt K mg) : FnOk P w K mg base (CXF P w) 3 T.d__law_mixed.a T.d__law_mixed.fd ["_law_script", "_law_rows"] (spMixed K) := by
  refine T.d__law_mixed.F.okN sc__law_mixed (fun vs H Q E h => ?_) (fun cdv A outer s H vs Q E hr h => ?_)
  · obtain ⟨a, r, ns, as, rfl, _⟩ := h; rfl
  obtain ⟨a, r, ns, as, rfl, hS, hz, hr', hl, q⟩ := h
  have hml : (as.map V.ref).length = as.length := List.length_map ..
  refine ⟨_, (pss_cons (ps_set (i := 2) sc__law_mixed.nd rfl (Or.inl rfl) (pe_lst pa_nil))
 (pss_cons (ps_for PassesOwn.never rfl (pi_range1 rfl T.z_range (pa_cons (pe_callB (show CallR _ _ (rLen K) from call_lenU) rfl T.z_len BT.len (pa_cons (pv 1) pa_nil)) pa_nil)) (pg_name (i := 3) sc__law_mixed.nd rfl (Or.inl rfl))
  (pss_cons (ps_set (i := 4) sc__law_mixed.nd rfl (Or.inl rfl) (pe_call (ok__law_draw T) (hr.mono (by decide)) rfl T.d__law_draw.m T.d__law_draw.F.kp T.d__law_draw.b .nil (passN nox_F) (pa_cons (pv 0) (pa_cons (pe_op (show OpR _ (binaryOp .Add) (rAddU K) from op_addU) pe_int (pv 3)) (pa_cons pe_int (pa_cons (pe_op (show OpR _ (binaryOp .Add) (rAddU K) from op_addU) (pv 3) pe_int) pa_nil))))))
 (pss_one (ps_set (i := 2) sc__law_mixed.nd rfl (Or.inl rfl) (pe_op (show OpR _ (binaryOp .Add) (rAddU K) from op_addU) (pe_op (show OpR _ (binaryOp .Add) (rAddU K) from op_addU) (pe_slice (show SlR _ (rSlL K) from sl_list) (pv 2) po_none (po_some (pv 4))) (pe_lst (pa_cons (pe_ix (show IxR _ (rIx K) from ix_seq) (pv 1) (pv 3) (fun _ _ => rfl)) pa_nil))) (pe_slice (show SlR _ (rSlL K) from sl_list) (pv 2) (po_some (pv 4)) po_none))))))
 (pss_one (ps_ret (pv 2))))), ?_⟩
  refine x_start (σ0 := [some (.ref a), some (.ref r), none, none, none]) rfl ?_
  walk_at "x"
  rename_i D H1 fD e1 hD
  refine x_forR (fun i σ' H' => ∃ (m : Addr) (bs : List Addr) (f3 f4 : Option V), σ' = [some (.ref a), some (.ref r), some (.ref m), f3, f4] ∧ Same H H' ∧ H m = none ∧ H' m = some (.lst (bs.map V.ref)) ∧ bs.Perm (as.take i)) ⟨D, [], _, _, rfl, e1, fD, hD, by rw [List.take_zero]⟩ ?_ ?_
  · rintro i σ' H2 hi ⟨m, bs, f3, f4, rfl, e2, fm, hm, hp⟩
    have hi' : i < as.length := by omega
    have hS2 : SqL K H2 a (ns.map V.int) := hS.keep e2
    have hr2 := e2.at hr'
    obtain ⟨c, hc⟩ := lt_some hi'
    have ei : ((0 : Int) + (i : Int)).toNat = i := by omega
    have hat : atI (as.map V.ref) ((0 : Int) + (i : Int)) = some (.ref c) := atI_lt (by omega) (by rw [ei, List.getElem?_map, hc]; rfl)
    have hbl : bs.length = i := by rw [hp.length_eq, List.length_take]; omega
    walk_at "x"
    rename_i t te t0 t1 l1 H3 f1 e3 hl1 l2 H4 f2 e4 hl2
    obtain ⟨j, rfl⟩ : ∃ j : Nat, t = (j : Int) := ⟨t.toNat, by omega⟩
    have hj : j ≤ bs.length := by omega
    rw [(cut_at hj).1] at hl1
    refine x_catN (e4.at hl1) hl2 (by rw [List.length_map, List.length_take]; simp only [List.length_singleton]; omega) ?_
    intro l3 H5 f3' e5 hl3
    have hm5 := ((e3.trans e4).trans e5).at hm
    walk_at "x"
    rename_i l4 H6 f4' e6 hl4
    rw [(cut_at hj).2] at hl4
    refine x_catN (e6.at hl3) hl4 (by rw [List.length_append, List.length_map, List.length_take, List.length_map, List.length_drop]; simp only [List.length_singleton]; omega) ?_
    intro l5 H7 f5' e7 hl5
    have e26 : Same H2 H6 := ((e3.trans e4).trans e5).trans e6
    walk_at "x"
    refine ⟨l5, bs.take j ++ [c] ++ bs.drop j, _, _, rfl, e2.trans (e26.trans e7), Same.none f5' (e2.trans e26), ?_, perm_put hp hc⟩
    rw [hl5, List.map_append, List.map_append]; rfl
  rintro σ' H2 ⟨m, bs, f3, f4, rfl, e2, fm, hm, hp⟩
  rw [show ((as.map V.ref).length : Int).toNat = as.length by omega, List.take_length] at hp
  walk_at "x"
  exact q m H2 bs fm e2 hm hp

theorem ok__law_side (T : Txt K mg) : FnOk P w K mg base (CXF P w) 4 T.d__law_side.a T.d__law_side.fd ["_law_row_here", "_law_unknowns"] (spSide K) := by
  refine T.d__law_side.F.okN sc__law_side (fun vs H Q E h => ?_) (fun cdv A outer s H vs Q E hr h => ?_)
  · obtain ⟨a, u, ws, n, F, x, rfl, _⟩ := h; rfl
  obtain ⟨a, u, ws, n, F, x, rfl, ha, hu, hI, hn, hF, hx, k⟩ := h
  have hvl : ((vec n F).map V.int).length = n := by rw [List.length_map, vec_len]
  have hwl : ws.length = n := by rw [hI.length, List.length_map, List.length_range]
  refine ⟨_, (pss_cons (ps_set (i := 2) sc__law_side.nd rfl (Or.inl rfl) (pe_tup (pa_cons pe_int (pa_cons pe_int pa_nil))))
 (pss_cons (ps_for PassesOwn.never rfl (pi_range1 rfl T.z_range (pa_cons (pe_callB (show CallR _ _ (rLen K) from call_lenU) rfl T.z_len BT.len (pa_cons (pv 0) pa_nil)) pa_nil)) (pg_name (i := 3) sc__law_side.nd rfl (Or.inl rfl))
  (pss_one (ps_set (i := 2) sc__law_side.nd rfl (Or.inl rfl) (pe_call (ok__law_plus T) (hr.mono (by decide)) rfl T.d__law_plus.m T.d__law_plus.F.kp T.d__law_plus.b .nil (passN nox_F) (pa_cons (pv 2) (pa_cons (pe_call (ok__law_part T) (hr.mono (by decide)) rfl T.d__law_part.m T.d__law_part.F.kp T.d__law_part.b .nil (passN nox_F) (pa_cons (pe_op op_mulU (pe_ix (show IxR _ (rIx K) from ix_seq) (pv 0) (pv 3) (fun _ _ => rfl)) (pe_ix (show IxR _ (rIx K) from ix_seq) (pe_ix (show IxR _ (rIx K) from ix_seq) (pv 1) (pv 3) (fun _ _ => rfl)) pe_int (fun _ _ => rfl))) (pa_cons (pe_ix (show IxR _ (rIx K) from ix_seq) (pe_ix (show IxR _ (rIx K) from ix_seq) (pv 1) (pv 3) (fun _ _ => rfl)) pe_int (fun _ _ => rfl)) pa_nil))) pa_nil))))))
 (pss_one (ps_ret (pv 2))))), ?_⟩
  refine x_start (σ0 := [some (.ref a), some (.ref u), none, none]) rfl ?_
  walk_at "x"
  refine x_tupQ (q := (0 : Rat)) ⟨rfl, rfl⟩ ?_
  intro p0 H1 e1 hp0
  walk_at "x"
  refine x_forR (fun i σ' H' => ∃ (p : Addr) (f3 : Option V), σ' = [some (.ref a), some (.ref u), some (.ref p), f3] ∧ Same H H' ∧ IsQ H' p (Dt.sm i fun m => ((F m : Int) : Rat) * x m) ∧ SzQ (Dt.sm i fun m => ((F m : Int) : Rat) * x m) (50 + 5 * i) (1 + 4 * i)) ⟨p0, _, rfl, e1, hp0, sz_of (by show (0 : Int).natAbs < 2 ^ 50; decide), sz_of (by show (1 : Int).natAbs < 2 ^ 1; decide)⟩ ?_ ?_
  · rintro i σ' H2 hi ⟨p, f3, rfl, e2, hq, hz⟩
    have hi' : i < n := by omega
    obtain ⟨v, hv⟩ := lt_some (show i < ws.length by omega)
    obtain ⟨g, q, rfl, hqi, hg⟩ := hI.get hv
    have eq : q = x i := by
      rw [List.getElem?_map, List.getElem?_range hi'] at hqi
      exact (Option.some.inj hqi).symm
    subst eq
    have ei : ((0 : Int) + (i : Int)).toNat = i := by omega
    have hat : atI ws ((0 : Int) + (i : Int)) = some (.ref g) := atI_lt (by omega) (by rw [ei]; exact hv)
    have ha2 := e2.at ha
    have hu2 := e2.at hu
    have hg2 := e2.isQ hg
    have hxi := hx i hi'
    have hFi := hF i
    have sF : sz (F i) ≤ 20 := sz_of (by omega)
    have mm : CMulS (F i) (x i).num := CMulS.of sF hxi.1 (by decide)
    have dp := den_pos (x i)
    have t1 : sz ((x i).den : Int) ≤ 8999 := Nat.le_trans hxi.2 (by decide)
    have zm : SzQ (((F i : Int) : Rat) * x i) 40 4 := by
      rw [← mul_div]
      exact szQ_div (den_pos _) (sz_mul sF hxi.1) hxi.2
    have zm' : SzQ (Rat.divInt (F i * (x i).num) ((x i).den : Int)) 4000 4000 := by
      rw [mul_div]
      exact zm.mono (by decide) (by decide)
    have zs' : SzQ (Dt.sm i fun m => ((F m : Int) : Rat) * x m) 4000 4000 := hz.mono (by omega) (by omega)
    have za := szQ_add hz zm (by omega)
    walk_at "x"
    rw [ei]
    walk_at "x"
    rename_i p1 H3 e3 hp1 p2 H4 e4 hp2
    rw [mul_div] at hp2
    exact ⟨_, _, rfl, (e2.trans e3).trans e4, hp2, za.mono (by omega) (by omega)⟩
  · rintro σ' H2 ⟨p, f3, rfl, e2, hq, hz⟩
    rw [hvl, show ((n : Nat) : Int).toNat = n from Int.toNat_natCast n] at hq hz
    walk_at "x"
    exact k _ rfl (hz.mono (by omega) (by omega)) p H2 e2 hq

theorem ok__law_joined (T : Txt K mg) : FnOk P w K mg base (CXF P w) 4 T.d__law_joined.a T.d__law_joined.fd ["_law_one", "_law_many", "_law_other", "_law_more"] (spJoin K) := by
  refine T.d__law_joined.F.okN sc__law_joined (fun vs H Q E h => ?_) (fun cdv A outer s H vs Q E hr h => ?_)
  · obtain ⟨a, b, ws, us, n, f, g, c, d, rfl, _⟩ := h; rfl
  obtain ⟨a, b, ws, us, n, f, g, c, d, rfl, h1, h2, h3, h4, hn, hz, c0, c1, d0, d1, k⟩ := h
  have hwl : ws.length = n := by rw [h2.length, List.length_map, List.length_range]
  have hul : us.length = n := by rw [h4.length, List.length_map, List.length_range]
  refine ⟨_, (pss_cons (ps_set (i := 4) sc__law_joined.nd rfl (Or.inl rfl) (pe_lst pa_nil))
 (pss_cons (ps_for PassesOwn.never rfl (pi_range1 rfl T.z_range (pa_cons (pe_callB (show CallR _ _ (rLen K) from call_lenU) rfl T.z_len BT.len (pa_cons (pv 0) pa_nil)) pa_nil)) (pg_name (i := 5) sc__law_joined.nd rfl (Or.inl rfl))
  (pss_cons (ps_set (i := 6) sc__law_joined.nd rfl (Or.inl rfl) (pe_call (ok__law_part T) (hr.mono (by decide)) rfl T.d__law_part.m T.d__law_part.F.kp T.d__law_part.b .nil (passN nox_F) (pa_cons (pe_op op_mulU (pe_ix (show IxR _ (rIx K) from ix_seq) (pe_ix (show IxR _ (rIx K) from ix_seq) (pv 0) (pv 5) (fun _ _ => rfl)) pe_int (fun _ _ => rfl)) (pv 1)) (pa_cons (pe_ix (show IxR _ (rIx K) from ix_seq) (pe_ix (show IxR _ (rIx K) from ix_seq) (pv 0) (pv 5) (fun _ _ => rfl)) pe_int (fun _ _ => rfl)) pa_nil))))
 (pss_one (ps_expr (show PE _ _ (tBM K _ _ _ _) from pe_bm PySem.F.plainAttrs_list PySem.F.slot_list_append PySem.F.type_list_append mt_append (pv 4) (pa_cons (pe_call (ok__law_plus T) (hr.mono (by decide)) rfl T.d__law_plus.m T.d__law_plus.F.kp T.d__law_plus.b .nil (passN nox_F) (pa_cons (pv 6) (pa_cons (pe_call (ok__law_part T) (hr.mono (by decide)) rfl T.d__law_part.m T.d__law_part.F.kp T.d__law_part.b .nil (passN nox_F) (pa_cons (pe_op op_mulU (pe_ix (show IxR _ (rIx K) from ix_seq) (pe_ix (show IxR _ (rIx K) from ix_seq) (pv 2) (pv 5) (fun _ _ => rfl)) pe_int (fun _ _ => rfl)) (pv 3)) (pa_cons (pe_ix (show IxR _ (rIx K) from ix_seq) (pe_ix (show IxR _ (rIx K) from ix_seq) (pv 2) (pv 5) (fun _ _ => rfl)) pe_int (fun _ _ => rfl)) pa_nil))) pa_nil))) pa_nil))))))
 (pss_one (ps_ret (pv 4))))), ?_⟩
  refine x_start (σ0 := [some (.ref a), some (.int c), some (.ref b), some (.int d), none, none, none]) rfl ?_
  walk_at "x"
  rename_i D H1 fD e1 hD
  refine x_forR (fun i σ' H' => ∃ (vs : List V) (f5 f6 : Option V), σ' = [some (.ref a), some (.int c), some (.ref b), some (.int d), some (.ref D), f5, f6] ∧ Same H H' ∧ H' D = some (.lst vs) ∧ IsQs H' vs ((List.range i).map fun j => ((c : Int) : Rat) * f j + ((d : Int) : Rat) * g j)) ⟨[], _, _, rfl, e1, hD, trivial⟩ ?_ ?_
  · rintro i σ' H2 hi ⟨vs, f5, f6, rfl, e2, hD2, hI⟩
    have hi' : i < n := by omega
    obtain ⟨v1, hv1⟩ := lt_some (show i < ws.length by omega)
    obtain ⟨v2, hv2⟩ := lt_some (show i < us.length by omega)
    obtain ⟨g1, q1, rfl, hq1, hg1⟩ := h2.get hv1
    obtain ⟨g2, q2, rfl, hq2, hg2⟩ := h4.get hv2
    have e1 : q1 = f i := by
      rw [List.getElem?_map, List.getElem?_range hi'] at hq1
      exact (Option.some.inj hq1).symm
    have e2' : q2 = g i := by
      rw [List.getElem?_map, List.getElem?_range hi'] at hq2
      exact (Option.some.inj hq2).symm
    subst e1; subst e2'
    have ei : ((0 : Int) + (i : Int)).toNat = i := by omega
    have hat1 : atI ws ((0 : Int) + (i : Int)) = some (.ref g1) := atI_lt (by omega) (by rw [ei]; exact hv1)
    have hat2 : atI us ((0 : Int) + (i : Int)) = some (.ref g2) := atI_lt (by omega) (by rw [ei]; exact hv2)
    have h12 := e2.at h1
    have h32 := e2.at h3
    have hg12 := e2.isQ hg1
    have hg22 := e2.isQ hg2
    have hzz := hz i hi'
    have js := join_sz hzz c0 c1 d0 d1
    have dp1 := den_pos (f i)
    have dp2 := den_pos (g i)
    have t1 : sz ((f i).den : Int) ≤ 8999 := Nat.le_trans hzz.1.2 (by decide)
    have t2 : sz ((g i).den : Int) ≤ 8999 := Nat.le_trans hzz.2.2 (by decide)
    have mm1 : CMulS (f i).num c := CMulS.of hzz.1.1 (sz_of (n := 2) (by omega)) (by decide)
    have mm2 : CMulS (g i).num d := CMulS.of hzz.2.1 (sz_of (n := 2) (by omega)) (by decide)
    have z1 : SzQ (Rat.divInt ((f i).num * c) ((f i).den : Int)) 4000 4000 := js.1.mono (by decide) (by decide)
    have z2 : SzQ (Rat.divInt ((g i).num * d) ((g i).den : Int)) 4000 4000 := js.2.1.mono (by decide) (by decide)
    have hvs : vs.length ≤ 20 := by rw [hI.length, List.length_map, List.length_range]; omega
    walk_at "x"
    rename_i p1 H3 e3 hp1 p2 H4 e4 hp2 p3 H5 e5 hp3 H6 b6 h6
    refine ⟨_, _, _, rfl, b6.same (((e2.trans e3).trans e4).trans e5) fD, h6, ?_⟩
    rw [List.range_succ, List.map_append, List.map_singleton]
    refine IsQs.app ?_ (LBut.isQs b6 (hI.same ((e3.trans e4).trans e5)))
    rw [← js.2.2]
    exact LBut.isQ b6 hp3
  · rintro σ' H2 ⟨vs, f5, f6, rfl, e2, hD2, hI⟩
    rw [show (ws.length : Int).toNat = n by omega] at hI
    walk_at "x"
    exact k D H2 vs fD e2 hD2 hI

noncomputable def spAnother (C : Addr) : Sp := fun vs H Q _ => ∃ a : Addr, vs = [.ref a] ∧ H a = some (ExcAt a C) ∧ Q (.bl false) H
theorem spAnother_i {C : Addr} {a : Addr} {H : Hp} {Q : VK} {E : XK} (h : H a = some (ExcAt a C)) (k : Q (.bl false) H) : spAnother C [.ref a] H Q E := ⟨a, rfl, h, k⟩
theorem ok__law_of_another (T : Txt K mg) : FnOk P w K mg base (CXF P w) 1 T.d__law_of_another.a T.d__law_of_another.fd ["_law_error"] (spAnother T.c_NoAnswer) := by
  refine T.d__law_of_another.F.okN sc__law_of_another (fun vs H Q E h => ?_) (fun cdv A outer s H vs Q E hr h => ?_)
  · obtain ⟨a, rfl, _⟩ := h; rfl
  obtain ⟨a, rfl, ha, k⟩ := h
  have e_NoAnswer := T.e_NoAnswer
  have i_NoAnswer_Bare := T.i_NoAnswer_Bare
  have i_NoAnswer_Closed := T.i_NoAnswer_Closed
  have i_NoAnswer_Gone := T.i_NoAnswer_Gone
  have i_NoAnswer_NoAnswer := T.i_NoAnswer_NoAnswer
  have i_NoAnswer_NoDeal := T.i_NoAnswer_NoDeal
  have i_NoAnswer_NoLayer := T.i_NoAnswer_NoLayer
  have i_NoAnswer_NoMember := T.i_NoAnswer_NoMember
  have i_NoAnswer_NoPart := T.i_NoAnswer_NoPart
  have i_NoAnswer_NoRule := T.i_NoAnswer_NoRule
  have i_NoAnswer_NoTerms := T.i_NoAnswer_NoTerms
  have i_NoAnswer_Out := T.i_NoAnswer_Out
  have i_NoAnswer_Poor := T.i_NoAnswer_Poor
  have i_NoAnswer_QuitsError := T.i_NoAnswer_QuitsError
  have i_NoAnswer_Ringed := T.i_NoAnswer_Ringed
  have i_NoAnswer_Settled := T.i_NoAnswer_Settled
  have i_NoAnswer_Standing := T.i_NoAnswer_Standing
  have i_NoAnswer_TooMuch := T.i_NoAnswer_TooMuch
  have i_NoAnswer_Unclosed := T.i_NoAnswer_Unclosed
  have i_NoAnswer_ValueError := T.i_NoAnswer_ValueError
  have q_NoAnswer_QuitsError := T.q_NoAnswer_QuitsError
  have e_NoPart := T.e_NoPart
  have i_NoPart_Bare := T.i_NoPart_Bare
  have i_NoPart_Closed := T.i_NoPart_Closed
  have i_NoPart_Gone := T.i_NoPart_Gone
  have i_NoPart_NoAnswer := T.i_NoPart_NoAnswer
  have i_NoPart_NoDeal := T.i_NoPart_NoDeal
  have i_NoPart_NoLayer := T.i_NoPart_NoLayer
  have i_NoPart_NoMember := T.i_NoPart_NoMember
  have i_NoPart_NoPart := T.i_NoPart_NoPart
  have i_NoPart_NoRule := T.i_NoPart_NoRule
  have i_NoPart_NoTerms := T.i_NoPart_NoTerms
  have i_NoPart_Out := T.i_NoPart_Out
  have i_NoPart_Poor := T.i_NoPart_Poor
  have i_NoPart_QuitsError := T.i_NoPart_QuitsError
  have i_NoPart_Ringed := T.i_NoPart_Ringed
  have i_NoPart_Settled := T.i_NoPart_Settled
  have i_NoPart_Standing := T.i_NoPart_Standing
  have i_NoPart_TooMuch := T.i_NoPart_TooMuch
  have i_NoPart_Unclosed := T.i_NoPart_Unclosed
  have i_NoPart_ValueError := T.i_NoPart_ValueError
  have q_NoPart_QuitsError := T.q_NoPart_QuitsError
  refine ⟨_, (pss_cons (ps_if (PW.pt (pw_or (show PT _ _ (tTru K _) from pt_truthU (pe_callB (show CallR _ _ (rIsiU K) from call_isiU) rfl T.z_isinstance BT.isinstance (pa_cons (pv 0) (pa_cons (pe_glob (v := .ref T.c_Bare) rfl T.m_Bare rfl) pa_nil))) (fun _ => rfl)) (pw_or (show PT _ _ (tTru K _) from pt_truthU (pe_callB (show CallR _ _ (rIsiU K) from call_isiU) rfl T.z_isinstance BT.isinstance (pa_cons (pv 0) (pa_cons (pe_glob (v := .ref T.c_Closed) rfl T.m_Closed rfl) pa_nil))) (fun _ => rfl)) (pw_or (show PT _ _ (tTru K _) from pt_truthU (pe_callB (show CallR _ _ (rIsiU K) from call_isiU) rfl T.z_isinstance BT.isinstance (pa_cons (pv 0) (pa_cons (pe_glob (v := .ref T.c_Gone) rfl T.m_Gone rfl) pa_nil))) (fun _ => rfl)) (pw_or1 (show PT _ _ (tTru K _) from pt_truthU (pe_callB (show CallR _ _ (rIsiU K) from call_isiU) rfl T.z_isinstance BT.isinstance (pa_cons (pv 0) (pa_cons (pe_glob (v := .ref T.c_NoDeal) rfl T.m_NoDeal rfl) pa_nil))) (fun _ => rfl)))))))
  (pss_one (ps_ret pe_bl))
  pss_nil)
 (pss_cons (ps_if (PW.pt (pw_or (show PT _ _ (tTru K _) from pt_truthU (pe_callB (show CallR _ _ (rIsiU K) from call_isiU) rfl T.z_isinstance BT.isinstance (pa_cons (pv 0) (pa_cons (pe_glob (v := .ref T.c_NoLayer) rfl T.m_NoLayer rfl) pa_nil))) (fun _ => rfl)) (pw_or (show PT _ _ (tTru K _) from pt_truthU (pe_callB (show CallR _ _ (rIsiU K) from call_isiU) rfl T.z_isinstance BT.isinstance (pa_cons (pv 0) (pa_cons (pe_glob (v := .ref T.c_NoMember) rfl T.m_NoMember rfl) pa_nil))) (fun _ => rfl)) (pw_or1 (show PT _ _ (tTru K _) from pt_truthU (pe_callB (show CallR _ _ (rIsiU K) from call_isiU) rfl T.z_isinstance BT.isinstance (pa_cons (pv 0) (pa_cons (pe_glob (v := .ref T.c_NoPart) rfl T.m_NoPart rfl) pa_nil))) (fun _ => rfl))))))
  (pss_one (ps_ret pe_bl))
  pss_nil)
 (pss_cons (ps_if (PW.pt (pw_or (show PT _ _ (tTru K _) from pt_truthU (pe_callB (show CallR _ _ (rIsiU K) from call_isiU) rfl T.z_isinstance BT.isinstance (pa_cons (pv 0) (pa_cons (pe_glob (v := .ref T.c_NoRule) rfl T.m_NoRule rfl) pa_nil))) (fun _ => rfl)) (pw_or (show PT _ _ (tTru K _) from pt_truthU (pe_callB (show CallR _ _ (rIsiU K) from call_isiU) rfl T.z_isinstance BT.isinstance (pa_cons (pv 0) (pa_cons (pe_glob (v := .ref T.c_NoTerms) rfl T.m_NoTerms rfl) pa_nil))) (fun _ => rfl)) (pw_or (show PT _ _ (tTru K _) from pt_truthU (pe_callB (show CallR _ _ (rIsiU K) from call_isiU) rfl T.z_isinstance BT.isinstance (pa_cons (pv 0) (pa_cons (pe_glob (v := .ref T.c_Out) rfl T.m_Out rfl) pa_nil))) (fun _ => rfl)) (pw_or1 (show PT _ _ (tTru K _) from pt_truthU (pe_callB (show CallR _ _ (rIsiU K) from call_isiU) rfl T.z_isinstance BT.isinstance (pa_cons (pv 0) (pa_cons (pe_glob (v := .ref T.c_Poor) rfl T.m_Poor rfl) pa_nil))) (fun _ => rfl)))))))
  (pss_one (ps_ret pe_bl))
  pss_nil)
 (pss_cons (ps_if (PW.pt (pw_or (show PT _ _ (tTru K _) from pt_truthU (pe_callB (show CallR _ _ (rIsiU K) from call_isiU) rfl T.z_isinstance BT.isinstance (pa_cons (pv 0) (pa_cons (pe_glob (v := .ref T.c_Ringed) rfl T.m_Ringed rfl) pa_nil))) (fun _ => rfl)) (pw_or (show PT _ _ (tTru K _) from pt_truthU (pe_callB (show CallR _ _ (rIsiU K) from call_isiU) rfl T.z_isinstance BT.isinstance (pa_cons (pv 0) (pa_cons (pe_glob (v := .ref T.c_Settled) rfl T.m_Settled rfl) pa_nil))) (fun _ => rfl)) (pw_or1 (show PT _ _ (tTru K _) from pt_truthU (pe_callB (show CallR _ _ (rIsiU K) from call_isiU) rfl T.z_isinstance BT.isinstance (pa_cons (pv 0) (pa_cons (pe_glob (v := .ref T.c_Standing) rfl T.m_Standing rfl) pa_nil))) (fun _ => rfl))))))
  (pss_one (ps_ret pe_bl))
  pss_nil)
 (pss_one (ps_ret (pe_or (pe_callB (show CallR _ _ (rIsiU K) from call_isiU) rfl T.z_isinstance BT.isinstance (pa_cons (pv 0) (pa_cons (pe_glob (v := .ref T.c_TooMuch) rfl T.m_TooMuch rfl) pa_nil))) (pe_one (pe_callB (show CallR _ _ (rIsiU K) from call_isiU) rfl T.z_isinstance BT.isinstance (pa_cons (pv 0) (pa_cons (pe_glob (v := .ref T.c_Unclosed) rfl T.m_Unclosed rfl) pa_nil))))))))))), ?_⟩
  refine x_start (σ0 := [some (.ref a)]) rfl ?_
  walk_at "x"
  exact k
noncomputable def spRefN (K : PySem.W.Frag) : Sp := fun vs H Q _ => ∃ (a b : Addr) (n : Nat) (R : Nat → Nat → Rat), vs = [.ref a, .ref b] ∧ Sys H a b n R ∧ 1 ≤ n ∧ n ≤ 9 ∧ (∀ l j, l < n → j ≤ n → SzQ (R l j) sZ sB) ∧ Dt.det n (Dt.cl R) = 0 ∧ ∀ H', Same H H' → Q (.bl true) H'
theorem spRefN_i {K : PySem.W.Frag} {a b : Addr} {n : Nat} {R : Nat → Nat → Rat} {H : Hp} {Q : VK} {E : XK} (h : Sys H a b n R) (n0 : 1 ≤ n) (n1 : n ≤ 9) (hz : ∀ l j, l < n → j ≤ n → SzQ (R l j) sZ sB) (hd : Dt.det n (Dt.cl R) = 0) (k : ∀ H', Same H H' → Q (.bl true) H') : spRefN K [.ref a, .ref b] H Q E := ⟨a, b, n, R, rfl, h, n0, n1, hz, hd, k⟩
theorem ssz {n : Nat} (h : n ≤ 9) : n * (sZ + (n + 1) * sB + 4) ≤ 8990 := Nat.le_trans (Nat.mul_le_mul h (show sZ + (n + 1) * sB + 4 ≤ sZ + 10 * sB + 4 by show 142 + (n + 1) * 82 + 4 ≤ 142 + 10 * 82 + 4; omega)) (by decide)
theorem ok__law_refused (T : Txt K mg) : FnOk P w K mg base (CXF P w) 4 T.d__law_refused.a T.d__law_refused.fd ["_law_rows", "_law_right"] (spRefN K) := by
  refine T.d__law_refused.F.okN sc__law_refused (fun vs H Q E h => ?_) (fun cdv A outer s H vs Q E hr h => ?_)
  · obtain ⟨a, b, n, R, rfl, _⟩ := h; rfl
  obtain ⟨a, b, n, R, rfl, sys, n0, n1, hz, hd, k⟩ := h
  have e_NoAnswer := T.e_NoAnswer
  have i_NoAnswer_Bare := T.i_NoAnswer_Bare
  have i_NoAnswer_Closed := T.i_NoAnswer_Closed
  have i_NoAnswer_Gone := T.i_NoAnswer_Gone
  have i_NoAnswer_NoAnswer := T.i_NoAnswer_NoAnswer
  have i_NoAnswer_NoDeal := T.i_NoAnswer_NoDeal
  have i_NoAnswer_NoLayer := T.i_NoAnswer_NoLayer
  have i_NoAnswer_NoMember := T.i_NoAnswer_NoMember
  have i_NoAnswer_NoPart := T.i_NoAnswer_NoPart
  have i_NoAnswer_NoRule := T.i_NoAnswer_NoRule
  have i_NoAnswer_NoTerms := T.i_NoAnswer_NoTerms
  have i_NoAnswer_Out := T.i_NoAnswer_Out
  have i_NoAnswer_Poor := T.i_NoAnswer_Poor
  have i_NoAnswer_QuitsError := T.i_NoAnswer_QuitsError
  have i_NoAnswer_Ringed := T.i_NoAnswer_Ringed
  have i_NoAnswer_Settled := T.i_NoAnswer_Settled
  have i_NoAnswer_Standing := T.i_NoAnswer_Standing
  have i_NoAnswer_TooMuch := T.i_NoAnswer_TooMuch
  have i_NoAnswer_Unclosed := T.i_NoAnswer_Unclosed
  have i_NoAnswer_ValueError := T.i_NoAnswer_ValueError
  have q_NoAnswer_QuitsError := T.q_NoAnswer_QuitsError
  have e_NoPart := T.e_NoPart
  have i_NoPart_Bare := T.i_NoPart_Bare
  have i_NoPart_Closed := T.i_NoPart_Closed
  have i_NoPart_Gone := T.i_NoPart_Gone
  have i_NoPart_NoAnswer := T.i_NoPart_NoAnswer
  have i_NoPart_NoDeal := T.i_NoPart_NoDeal
  have i_NoPart_NoLayer := T.i_NoPart_NoLayer
  have i_NoPart_NoMember := T.i_NoPart_NoMember
  have i_NoPart_NoPart := T.i_NoPart_NoPart
  have i_NoPart_NoRule := T.i_NoPart_NoRule
  have i_NoPart_NoTerms := T.i_NoPart_NoTerms
  have i_NoPart_Out := T.i_NoPart_Out
  have i_NoPart_Poor := T.i_NoPart_Poor
  have i_NoPart_QuitsError := T.i_NoPart_QuitsError
  have i_NoPart_Ringed := T.i_NoPart_Ringed
  have i_NoPart_Settled := T.i_NoPart_Settled
  have i_NoPart_Standing := T.i_NoPart_Standing
  have i_NoPart_TooMuch := T.i_NoPart_TooMuch
  have i_NoPart_Unclosed := T.i_NoPart_Unclosed
  have i_NoPart_ValueError := T.i_NoPart_ValueError
  have q_NoPart_QuitsError := T.q_NoPart_QuitsError
  refine ⟨_, (pss_cons (ps_set (i := 2) sc__law_refused.nd rfl (Or.inl rfl) pe_non)
 (pss_cons (show PS _ _ (tTryE K _ _ _ _ _) from ps_tryE (i := 3) ⟨rfl, rfl⟩ (ok_solved T) (hr.mono (by decide)) rfl T.d_solved.m T.d_solved.F.kp T.d_solved.b (pa_cons (pv 0) (pa_cons (pv 1) pa_nil)) rfl T.m_QuitsError sc__law_refused.nd rfl rfl (fun _ => (pss_one (ps_set (i := 2) sc__law_refused.nd rfl (Or.inl rfl) (pv 3)))))
 (pss_cons (ps_if (PW.pt (pw_or (pt_cmpR op_isN (pv 2) pe_non (nomark _)) (pw_or (pt_not (show PT _ _ (tTru K _) from pt_truthU (pe_callB (show CallR _ _ (rIsiU K) from call_isiU) rfl T.z_isinstance BT.isinstance (pa_cons (pv 2) (pa_cons (pe_glob (v := .ref T.c_NoAnswer) rfl T.m_NoAnswer rfl) pa_nil))) (fun _ => rfl))) (pw_or1 (pt_not (show PT _ _ (tTru K _) from pt_truthU (pe_callB (show CallR _ _ (rIsiU K) from call_isiU) rfl T.z_isinstance BT.isinstance (pa_cons (pv 2) (pa_cons (pe_bltn (v := .ty "ValueError") rfl T.z_ValueError BT.ValueError rfl) pa_nil))) (fun _ => rfl)))))))
  (pss_one (ps_ret pe_bl))
  pss_nil)
 (pss_one (ps_ret (show PE _ _ (tNotU K _) from pe_notU (pe_call (ok__law_of_another T) (hr.mono (by decide)) rfl T.d__law_of_another.m T.d__law_of_another.F.kp T.d__law_of_another.b .nil (passN nox_F) (pa_cons (pv 2) pa_nil)))))))), ?_⟩
  refine x_start (σ0 := [some (.ref a), some (.ref b), none, none]) rfl ?_
  walk_at "x"
  refine spSolved_i sys n0 n1 hz (by decide) (by decide) (by decide) (ssz n1) ?_ (fun h => absurd hd h)
  intro _ H2 e2
  refine x_catch (by assumption) fun er H3 f3 e3 h3 => ?_
  have nn : ¬ V.ref er = V.non := fun h => nomatch h
  walk_at "x"
  refine spAnother_i h3 ?_
  walk_at "x"
  exact k _ (by walk_at "h")

theorem x_cutC {r : Addr} {n : Nat} {σ : St} {Q : VK} {H : Hp} {rows : List Addr} {R : Nat → Nat → Rat} (hr : H r = some (.lst (rows.map V.ref))) (hP : PRows H rows (fun l => (List.range (n + 1)).map (R l))) (al : rows.length = n) (nn1 : n ≤ 9) (hs : capSt [none, some 1] σ = [none, some (.int (n : Int))]) (q : ∀ D H' (bs : List Addr), H D = none → Same H H' → H' D = some (.lst (bs.map V.ref)) → bs.length = n → PRows H' bs (fun l => (List.range n).map (R l)) → Q (.ref D) H') : CompK (Itl K r) [none, some 1] (gName 0) tYes (tSl (rSlL K) (tVar 0) tNoPart (tPart (tVar 1))) σ Q H := by
  refine x_compS1 (src_list (K := K) (a := r) (xs := rows.map V.ref)) (fun H' e => SqL.of (e.at hr)) hs (fun i vs H' => ∃ bs : List Addr, vs = bs.map V.ref ∧ bs.length = i ∧ PRows H' bs (fun l => (List.range n).map (R l))) (fun H' _ => ⟨[], rfl, rfl, PRows.nil⟩) ?_ ?_
  · rintro i x D us o H5 H6 hi hD e5 hv hvl ⟨cs, rfl, hcl, hRc⟩ e6 hx'
    rw [List.length_map, al] at hi
    obtain ⟨c', hc'⟩ := lt_some (show i < rows.length by rw [al]; exact hi)
    have ex : x = .ref c' := by rw [List.getElem?_map, hc'] at hx'; exact (Option.some.inj hx').symm
    subst ex
    obtain ⟨zs, z1, z2⟩ := (hP.same (e5.trans e6)).2 _ _ hc'
    have cq := cut_qs z2
    have hcs : (cs.map V.ref).length ≤ 20 := by rw [List.length_map]; omega
    walk_at "x"
    rename_i p H7 fp e7 hp H8 b8 h8
    rw [cq.1] at hp
    have hD' : D ∉ cs := hRc.ne hv
    have hpD : p ≠ D := ne_new' fp (e6.at hv)
    exact ⟨⟨_, rfl⟩, b8.same ((e5.trans e6).trans e7) hD, _, h8, by rw [List.length_append]; exact Nat.succ_le_succ hvl, cs ++ [p], by rw [List.map_append]; rfl, by rw [List.length_append, hcl]; rfl, PRows.snoc ((hRc.same (e6.trans e7)).but b8 hD') ((hRc.same e6).fresh fp) (b8.lst hp hpD) (by rw [hcl]; exact LBut.isQs b8 (cq.2.1.same e7))⟩
  rintro D H5 us fD e5 hD _ ⟨bs, rfl, hbl, hRb⟩
  rw [List.length_map, al] at hbl
  exact q D H5 bs fD e5 hD hbl hRb
theorem x_sideC {r : Addr} {n : Nat} {σ : St} {Q : VK} {H : Hp} {rows : List Addr} {R : Nat → Nat → Rat} (hr : H r = some (.lst (rows.map V.ref))) (hP : PRows H rows (fun l => (List.range (n + 1)).map (R l))) (al : rows.length = n) (nn1 : n ≤ 9) (hs : capSt [none, some 1] σ = [none, some (.int (n : Int))]) (q : ∀ D H' vs, H D = none → Same H H' → H' D = some (.lst vs) → IsQs H' vs ((List.range n).map fun l => R l n) → Q (.ref D) H') : CompK (Itl K r) [none, some 1] (gName 0) tYes (tOp (rIx K) (tVar 0) (tVar 1)) σ Q H := by
  refine x_compS1 (src_list (K := K) (a := r) (xs := rows.map V.ref)) (fun H' e => SqL.of (e.at hr)) hs (fun i vs H' => IsQs H' vs ((List.range i).map fun l => R l n)) (fun H' _ => trivial) ?_ ?_
  · rintro i x D us o H5 H6 hi hD e5 hv hvl hJ e6 hx'
    rw [List.length_map, al] at hi
    obtain ⟨c', hc'⟩ := lt_some (show i < rows.length by rw [al]; exact hi)
    have ex : x = .ref c' := by rw [List.getElem?_map, hc'] at hx'; exact (Option.some.inj hx').symm
    subst ex
    obtain ⟨zs, z1, z2⟩ := (hP.same (e5.trans e6)).2 _ _ hc'
    obtain ⟨g, hg1, hg2⟩ := (cut_qs z2).2.2
    have hat : atI zs (n : Int) = some (.ref g) := atI_lt (by omega) (by rw [Int.toNat_natCast]; exact hg1)
    have hcs : us.length ≤ 20 := by omega
    walk_at "x"
    rename_i H7 b7 h7
    refine ⟨⟨_, rfl⟩, b7.same (e5.trans e6) hD, _, h7, by rw [List.length_append]; exact Nat.succ_le_succ hvl, ?_⟩
    show IsQs H7 _ ((List.range (i + 1)).map _)
    rw [List.range_succ, List.map_append, List.map_singleton]
    exact IsQs.app (LBut.isQ b7 hg2) (LBut.isQs b7 (hJ.same e6))
  rintro D H5 us fD e5 hD _ hJ
  rw [List.length_map, al] at hJ
  exact q D H5 us fD e5 hD hJ

noncomputable def spLaw (K : PySem.W.Frag) : Sp := fun vs H Q _ => ∃ (a : Addr) (ns : List Int), vs = [.ref a] ∧ SqL K H a (ns.map V.int) ∧ ns.length ≤ 63 ∧ Light ns ∧ ∀ H', Q (.bl true) H'
theorem ok_law (T : Txt K mg) : FnOk P w K mg base (CXF P w) 5 T.d_law.a T.d_law.fd ["_law_script"] (spLaw K) := by
  refine T.d_law.F.okN sc_law (fun vs H Q E h => ?_) (fun cdv A outer s H vs Q E hr h => ?_)
  · obtain ⟨a, ns, rfl, _⟩ := h; rfl
  obtain ⟨a, ns, rfl, hS, h63, hz, k⟩ := h
  refine ⟨_, (pss_cons (ps_set (i := 1) sc_law.nd rfl (Or.inr rfl) (pe_op (show OpR _ (binaryOp .Add) (rAddU K) from op_addU) pe_int (pe_call (ok__law_draw T) (hr.mono (by decide)) rfl T.d__law_draw.m T.d__law_draw.F.kp T.d__law_draw.b .nil (passN nox_F) (pa_cons (pv 0) (pa_cons pe_int (pa_cons pe_int (pa_cons pe_int pa_nil)))))))
 (pss_cons (ps_set (i := 2) sc_law.nd rfl (Or.inl rfl) (pe_lst pa_nil))
 (pss_cons (ps_for PassesOwn.never rfl (pi_range1 rfl T.z_range (pa_cons (pv 1) pa_nil)) (pg_name (i := 3) sc_law.nd rfl (Or.inl rfl))
  (pss_cons (ps_set (i := 4) sc_law.nd rfl (Or.inl rfl) (pe_op op_sub (pe_call (ok__law_draw T) (hr.mono (by decide)) rfl T.d__law_draw.m T.d__law_draw.F.kp T.d__law_draw.b .nil (passN nox_F) (pa_cons (pv 0) (pa_cons (pe_op (show OpR _ (binaryOp .Add) (rAddU K) from op_addU) pe_int (pv 3)) (pa_cons pe_int (pa_cons pe_int pa_nil))))) pe_int))
 (pss_one (ps_expr (show PE _ _ (tBM K _ _ _ _) from pe_bm PySem.F.plainAttrs_list PySem.F.slot_list_append PySem.F.type_list_append mt_append (pv 2) (pa_cons (pe_call (ok__law_part T) (hr.mono (by decide)) rfl T.d__law_part.m T.d__law_part.F.kp T.d__law_part.b .nil (passN nox_F) (pa_cons (pv 4) (pa_cons (pe_op (show OpR _ (binaryOp .Add) (rAddU K) from op_addU) pe_int (pe_call (ok__law_draw T) (hr.mono (by decide)) rfl T.d__law_draw.m T.d__law_draw.F.kp T.d__law_draw.b .nil (passN nox_F) (pa_cons (pv 0) (pa_cons (pe_op (show OpR _ (binaryOp .Add) (rAddU K) from op_addU) pe_int (pv 3)) (pa_cons pe_int (pa_cons pe_int pa_nil)))))) pa_nil))) pa_nil))))))
 (pss_cons (ps_set (i := 5) sc_law.nd rfl (Or.inl rfl) (pe_lst pa_nil))
 (pss_cons (ps_for PassesOwn.never rfl (show PI _ _ _ (iList K _) from pi_list (pe_call (ok__law_grid T) (hr.mono (by decide)) rfl T.d__law_grid.m T.d__law_grid.F.kp T.d__law_grid.b .nil (passN nox_F) (pa_cons (pv 0) (pa_cons (pv 1) pa_nil)))) (pg_name (i := 6) sc_law.nd rfl (Or.inl rfl))
  (pss_cons (ps_set (i := 7) sc_law.nd rfl (Or.inr rfl) (pe_op (show OpR _ (binaryOp .Add) (rAddU K) from op_addU) pe_int (pe_call (ok__law_draw T) (hr.mono (by decide)) rfl T.d__law_draw.m T.d__law_draw.F.kp T.d__law_draw.b .nil (passN nox_F) (pa_cons (pv 0) (pa_cons (pe_op (show OpR _ (binaryOp .Add) (rAddU K) from op_addU) pe_int (pe_op op_mulU pe_int (pe_callB (show CallR _ _ (rLen K) from call_lenU) rfl T.z_len BT.len (pa_cons (pv 5) pa_nil)))) (pa_cons pe_int (pa_cons pe_int pa_nil)))))))
 (pss_cons (ps_setC (i := 8) sc_law.nd rfl rfl rfl (show PI _ _ _ (iList K _) from pi_list (pv 6)) (compScope_of (Ni := ["_law_one", "_law_shared"]) (caps := [none, some 7]) (by rfl)) (fun S _ _ _ _ _ => (pg_nameC (gi := 0) S (Or.inl rfl) rfl)) (fun _ _ _ _ _ => pf_nil) (fun _ _ _ _ _ => (pe_call (ok__law_part T) (hr.mono (by decide)) rfl T.d__law_part.m T.d__law_part.F.kp T.d__law_part.b .nil (passN nox_F) (pa_cons (pv 0) (pa_cons (pv 1) pa_nil)))))
 (pss_one (ps_expr (show PE _ _ (tBM K _ _ _ _) from pe_bm PySem.F.plainAttrs_list PySem.F.slot_list_append PySem.F.type_list_append mt_append (pv 5) (pa_cons (pe_op (show OpR _ (binaryOp .Add) (rAddU K) from op_addU) (pv 8) (pe_lst (pa_cons (pe_call (ok__law_part T) (hr.mono (by decide)) rfl T.d__law_part.m T.d__law_part.F.kp T.d__law_part.b .nil (passN nox_F) (pa_cons (pe_ix (show IxR _ (rIx K) from ix_seq) (pe_call (ok__law_side T) (hr.mono (by decide)) rfl T.d__law_side.m T.d__law_side.F.kp T.d__law_side.b .nil (passN nox_F) (pa_cons (pv 6) (pa_cons (pv 2) pa_nil))) pe_int (fun _ _ => rfl)) (pa_cons (pe_op op_mulU (pe_ix (show IxR _ (rIx K) from ix_seq) (pe_call (ok__law_side T) (hr.mono (by decide)) rfl T.d__law_side.m T.d__law_side.F.kp T.d__law_side.b .nil (passN nox_F) (pa_cons (pv 6) (pa_cons (pv 2) pa_nil))) pe_int (fun _ _ => rfl)) (pv 7)) pa_nil))) pa_nil))) pa_nil)))))))
 (pss_cons (ps_set (i := 5) sc_law.nd rfl (Or.inl rfl) (pe_call (ok__law_mixed T) (hr.mono (by decide)) rfl T.d__law_mixed.m T.d__law_mixed.F.kp T.d__law_mixed.b .nil (passN nox_F) (pa_cons (pv 0) (pa_cons (pv 5) pa_nil))))
 (pss_cons (ps_set (i := 9) sc_law.nd rfl (Or.inl rfl) (pe_callTy (show CallR _ _ (rListOf K) from call_listU) rfl T.z_list BT.list (pa_cons (pv 5) pa_nil)))
 (pss_cons (ps_set (i := 10) sc_law.nd rfl (Or.inl rfl) (pe_call (ok__law_draw T) (hr.mono (by decide)) rfl T.d__law_draw.m T.d__law_draw.F.kp T.d__law_draw.b .nil (passN nox_F) (pa_cons (pv 0) (pa_cons pe_int (pa_cons pe_int (pa_cons (pv 1) pa_nil))))))
 (pss_cons (ps_set (i := 11) sc_law.nd rfl (Or.inl rfl) (pe_op op_sub (pe_call (ok__law_draw T) (hr.mono (by decide)) rfl T.d__law_draw.m T.d__law_draw.F.kp T.d__law_draw.b .nil (passN nox_F) (pa_cons (pv 0) (pa_cons pe_int (pa_cons pe_int (pa_cons pe_int pa_nil))))) pe_int))
 (pss_cons (ps_set (i := 12) sc_law.nd rfl (Or.inl rfl) (pe_op op_sub (pe_call (ok__law_draw T) (hr.mono (by decide)) rfl T.d__law_draw.m T.d__law_draw.F.kp T.d__law_draw.b .nil (passN nox_F) (pa_cons (pv 0) (pa_cons pe_int (pa_cons pe_int (pa_cons pe_int pa_nil))))) pe_int))
 (pss_cons (ps_asg (pe_comp rfl (pi_range1 rfl T.z_range (pa_cons (pe_op (show OpR _ (binaryOp .Add) (rAddU K) from op_addU) (pv 1) pe_int) pa_nil)) (compScope_of (Ni := ["_law_k"]) (caps := [none]) (by rfl)) (fun S _ _ _ _ _ => (pg_nameC (gi := 0) S (Or.inl rfl) rfl)) (fun _ _ _ _ _ => pf_nil) (fun _ _ _ _ _ => (pe_tup (pa_cons pe_int (pa_cons pe_int pa_nil))))) (pg_sub (pv 9) (pv 10) set_list))
 (pss_mid (ps_if (pt_cmpR op_gt (pv 1) pe_int (nomark _))
  (pss_one (ps_asg (pe_call (ok__law_joined T) (hr.mono (by decide)) rfl T.d__law_joined.m T.d__law_joined.F.kp T.d__law_joined.b .nil (passN nox_F) (pa_cons (pe_ix (show IxR _ (rIx K) from ix_seq) (pv 5) (pe_op op_modU (pe_op (show OpR _ (binaryOp .Add) (rAddU K) from op_addU) (pv 10) pe_int) (pv 1)) (fun _ _ => rfl)) (pa_cons (pv 11) (pa_cons (pe_ix (show IxR _ (rIx K) from ix_seq) (pv 5) (pe_op op_modU (pe_op op_sub (pe_op (show OpR _ (binaryOp .Add) (rAddU K) from op_addU) (pv 10) (pv 1)) pe_int) (pv 1)) (fun _ _ => rfl)) (pa_cons (pv 12) pa_nil))))) (pg_sub (pv 9) (pv 10) set_list)))
  pss_nil)
 (pss_mid (ps_if (pt_cmpR (show OpR _ (compareOp .Eq) (rEqU K) from op_eqU hr.units) (pe_call (ok__law_draw T) (hr.mono (by decide)) rfl T.d__law_draw.m T.d__law_draw.F.kp T.d__law_draw.b .nil (passN nox_F) (pa_cons (pv 0) (pa_cons pe_int (pa_cons pe_int (pa_cons pe_int pa_nil))))) pe_int (nomark _))
  (pss_one (ps_asg (pe_call (ok__law_plus T) (hr.mono (by decide)) rfl T.d__law_plus.m T.d__law_plus.F.kp T.d__law_plus.b .nil (passN nox_F) (pa_cons (pe_ix (show IxR _ (rIx K) from ix_seq) (pe_ix (show IxR _ (rIx K) from ix_seq) (pv 9) (pv 10) (fun _ _ => rfl)) (pv 1) (fun _ _ => rfl)) (pa_cons (pe_tup (pa_cons pe_int (pa_cons pe_int pa_nil))) pa_nil))) (pg_sub (pe_ix (show IxR _ (rIx K) from ix_seq) (pv 9) (pv 10) (fun _ _ => rfl)) (pv 1) set_list)))
  pss_nil)
 (pss_cons (ps_setC (i := 13) sc_law.nd rfl rfl rfl (show PI _ _ _ (iList K _) from pi_list (pv 5)) (compScope_of (Ni := ["_law_row_here", "_law_n"]) (caps := [none, some 1]) (by rfl)) (fun S _ _ _ _ _ => (pg_nameC (gi := 0) S (Or.inl rfl) rfl)) (fun _ _ _ _ _ => pf_nil) (fun _ _ _ _ _ => (pe_slice (show SlR _ (rSlL K) from sl_list) (pv 0) po_none (po_some (pv 1)))))
 (pss_cons (ps_setC (i := 14) sc_law.nd rfl rfl rfl (show PI _ _ _ (iList K _) from pi_list (pv 5)) (compScope_of (Ni := ["_law_row_here", "_law_n"]) (caps := [none, some 1]) (by rfl)) (fun S _ _ _ _ _ => (pg_nameC (gi := 0) S (Or.inl rfl) rfl)) (fun _ _ _ _ _ => pf_nil) (fun _ _ _ _ _ => (pe_ix (show IxR _ (rIx K) from ix_seq) (pv 0) (pv 1) (fun _ _ => rfl))))
 (pss_cons (ps_set (i := 15) sc_law.nd rfl (Or.inl rfl) (pe_call (ok_solved T) (hr.mono (by decide)) rfl T.d_solved.m T.d_solved.F.kp T.d_solved.b .nil (passN nox_F) (pa_cons (pv 13) (pa_cons (pv 14) pa_nil))))
 (pss_cons (ps_if (PW.pt (pw_or (pt_not (show PT _ _ (tTru K _) from pt_truthU (pe_call (ok__law_parts T) (hr.mono (by decide)) rfl T.d__law_parts.m T.d__law_parts.F.kp T.d__law_parts.b .nil (passN nox_F) (pa_cons (pv 15) (pa_cons (pv 1) pa_nil))) (fun _ => rfl))) (pw_or1 (pt_cmpR (show OpR _ (compareOp .NotEq) (rNeU K) from op_neU hr.units) (pv 15) (pv 2) (nomark _)))))
  (pss_one (ps_ret pe_bl))
  pss_nil)
 (pss_cons (ps_if (pt_not (show PT _ _ (tTru K _) from pt_truthU (pe_call (ok__law_refused T) (hr.mono (by decide)) rfl T.d__law_refused.m T.d__law_refused.F.kp T.d__law_refused.b .nil (passN nox_F) (pa_cons (pe_comp rfl (show PI _ _ _ (iList K _) from pi_list (pv 9)) (compScope_of (Ni := ["_law_row_here", "_law_n"]) (caps := [none, some 1]) (by rfl)) (fun S _ _ _ _ _ => (pg_nameC (gi := 0) S (Or.inl rfl) rfl)) (fun _ _ _ _ _ => pf_nil) (fun _ _ _ _ _ => (pe_slice (show SlR _ (rSlL K) from sl_list) (pv 0) po_none (po_some (pv 1))))) (pa_cons (pe_comp rfl (show PI _ _ _ (iList K _) from pi_list (pv 9)) (compScope_of (Ni := ["_law_row_here", "_law_n"]) (caps := [none, some 1]) (by rfl)) (fun S _ _ _ _ _ => (pg_nameC (gi := 0) S (Or.inl rfl) rfl)) (fun _ _ _ _ _ => pf_nil) (fun _ _ _ _ _ => (pe_ix (show IxR _ (rIx K) from ix_seq) (pv 0) (pv 1) (fun _ _ => rfl)))) pa_nil))) (fun _ => rfl)))
  (pss_one (ps_ret pe_bl))
  pss_nil)
 (pss_cons (ps_if (PW.pt (pw_or (pt_cmpR (show OpR _ (compareOp .NotEq) (rNeU K) from op_neU hr.units) (pv 13) (pe_comp rfl (show PI _ _ _ (iList K _) from pi_list (pv 5)) (compScope_of (Ni := ["_law_row_here", "_law_n"]) (caps := [none, some 1]) (by rfl)) (fun S _ _ _ _ _ => (pg_nameC (gi := 0) S (Or.inl rfl) rfl)) (fun _ _ _ _ _ => pf_nil) (fun _ _ _ _ _ => (pe_slice (show SlR _ (rSlL K) from sl_list) (pv 0) po_none (po_some (pv 1))))) (nomark _)) (pw_or1 (pt_cmpR (show OpR _ (compareOp .NotEq) (rNeU K) from op_neU hr.units) (pv 14) (pe_comp rfl (show PI _ _ _ (iList K _) from pi_list (pv 5)) (compScope_of (Ni := ["_law_row_here", "_law_n"]) (caps := [none, some 1]) (by rfl)) (fun S _ _ _ _ _ => (pg_nameC (gi := 0) S (Or.inl rfl) rfl)) (fun _ _ _ _ _ => pf_nil) (fun _ _ _ _ _ => (pe_ix (show IxR _ (rIx K) from ix_seq) (pv 0) (pv 1) (fun _ _ => rfl)))) (nomark _)))))
  (pss_one (ps_ret pe_bl))
  pss_nil)
 (pss_cons (ps_set (i := 16) sc_law.nd rfl (Or.inl rfl) (pe_call (ok_solved T) (hr.mono (by decide)) rfl T.d_solved.m T.d_solved.F.kp T.d_solved.b .nil (passN nox_F) (pa_cons (pv 13) (pa_cons (pv 14) pa_nil))))
 (pss_one (ps_ret (pe_and (pe_call (ok__law_parts T) (hr.mono (by decide)) rfl T.d__law_parts.m T.d__law_parts.F.kp T.d__law_parts.b .nil (passN nox_F) (pa_cons (pv 16) (pa_cons (pv 1) pa_nil))) (pe_one (pe_cmpR (show OpR _ (compareOp .Eq) (rEqU K) from op_eqU hr.units) (pv 16) (pv 2) (nomark _)))))))))))))))))))))))))), ?_⟩
  refine x_start (σ0 := [some (.ref a), none, none, none, none, none, none, none, none, none, none, none, none, none, none, none, none]) rfl ?_
  walk_at "x"
  rename_i n' ne n0 n1 U H1 fU e1 hU
  obtain ⟨n, hn⟩ : ∃ n : Nat, 1 + n' = (n : Int) := ⟨(1 + n').toNat, by omega⟩
  rw [hn]
  have nn0 : 1 ≤ n := by omega
  have nn1 : n ≤ 9 := by omega
  have hcn : ((n : Int)).toNat = n := by omega
  clear ne
  have hS1 : SqL K H1 a (ns.map V.int) := hS.keep e1
  refine x_forR (n := ((n : Int)).toNat) (fun i σ' H' => ∃ (f3 f4 : Option V) (vs : List V) (x : Nat → Rat), σ' = [some (.ref a), some (.int (n : Int)), some (.ref U), f3, f4, none, none, none, none, none, none, none, none, none, none, none, none] ∧ Same H H' ∧ H' U = some (.lst vs) ∧ IsQs H' vs ((List.range i).map x) ∧ ∀ m, m < i → SzQ (x m) 20 4) ⟨_, _, [], fun _ => 0, rfl, e1, hU, trivial, fun m h => by omega⟩ ?_ ?_
  · rintro i σ' H2 hi ⟨f3, f4, vs, x, rfl, e2, hU2, hI, hx⟩
    have hS2 : SqL K H2 a (ns.map V.int) := hS.keep e2
    have hvs : vs.length ≤ 20 := by rw [hI.length, List.length_map, List.length_range]; omega
    walk_at "x"
    rename_i t te t0 t1 b be b0 b1 p H3 e3 hp H4 b4 h4
    have zt : sz (t - 999999) ≤ 20 := sz_of (by omega)
    have zb : sz (1 + b) ≤ 4 := sz_of (by omega)
    refine ⟨_, _, _, fun m => if m = i then Rat.divInt (t - 999999) (1 + b) else x m, rfl, b4.same (e2.trans e3) fU, h4, ?_, fun m hm => ?_⟩
    · rw [List.range_succ, List.map_append, List.map_singleton, if_pos rfl]
      refine IsQs.app (LBut.isQ b4 hp) ?_
      rw [show (List.range i).map (fun m => if m = i then Rat.divInt (t - 999999) (1 + b) else x m) = (List.range i).map x from List.map_congr_left fun m hm => if_neg (by have := List.mem_range.mp hm; omega)]
      exact LBut.isQs b4 (hI.same e3)
    · dsimp only
      by_cases e : m = i
      · rw [if_pos e]; exact szQ_div (by omega) zt zb
      · rw [if_neg e]; exact hx m (by omega)
  rintro σ' H2 ⟨f3, f4, us, x, rfl, e2, hU2, hI, hx⟩
  rw [hcn] at hI hx
  have hS2 : SqL K H2 a (ns.map V.int) := hS.keep e2
  walk_at "x"
  rename_i rw0 H3 frw e3 hrw
  refine spGrid_i (hS2.keep e3) hz nn0 nn1 ?_
  intro gr H4 as F fgr e4 hgr hal hR hF hdet
  have ngr : gr ≠ rw0 := fun z => by rw [z, hrw] at fgr; cases fgr
  have nra : rw0 ∉ as := fun z => by
    obtain ⟨i, _, _, h⟩ := hR.mem z
    rw [e4.at hrw] at h
    have h1 := HO.lst.inj (Option.some.inj h)
    have h2 := congrArg List.length h1
    rw [List.length_map, vec_len] at h2
    exact absurd h2 (by show ¬ 0 = n; omega)
  walk_at "x"
  refine x_forL (xs := as.map V.ref) (fun i σ' H' => ∃ (f6 f7 f8 : Option V) (rs : List Addr) (R : Nat → Nat → Rat) (L : Nat → Rat), σ' = [some (.ref a), some (.int (n : Int)), some (.ref U), f3, f4, some (.ref rw0), f6, f7, f8, none, none, none, none, none, none, none, none] ∧ Same H2 H' ∧ H' gr = some (.lst (as.map V.ref)) ∧ Rows H' as n F ∧ H' rw0 = some (.lst (rs.map V.ref)) ∧ rs.length = i ∧ PRows H' rs (fun l => (List.range (n + 1)).map (R l)) ∧ RowK n F x i R L) ⟨_, _, _, [], fun _ _ => 0, fun _ => 0, rfl, e3.trans e4, hgr, hR, e4.at hrw, rfl, PRows.nil, RowK.nil⟩ ?_ ?_ ?_
  · rintro i σ' H' _ ⟨_, _, _, _, _, _, _, _, h, _⟩; exact SqL.of h
  · rintro i v σ' H5 hv ⟨f6, f7, f8, rs, R, L, rfl, e25, hgr5, hR5, hrw5, hrl, hP, hK⟩
    obtain ⟨c, hc, rfl⟩ : ∃ c, as[i]? = some c ∧ v = .ref c := by
      rw [List.getElem?_map] at hv
      cases h : as[i]? with
      | none => rw [h] at hv; cases hv
      | some c => rw [h] at hv; exact ⟨c, rfl, (Option.some.inj hv).symm⟩
    have hi : i < n := hal ▸ (List.getElem?_eq_some_iff.mp hc).1
    have hS5 : SqL K H5 a (ns.map V.int) := hS2.keep e25
    have hrc := hR5.2 _ _ hc
    have hU5 := e25.at hU2
    have hI5 := hI.same e25
    have hrl5 : (rs.map V.ref).length = i := by rw [List.length_map]; exact hrl
    walk_at "x"
    rename_i s se s0 s1
    have zs : sz (1 + s) ≤ 3 := sz_of (by omega)
    have zs' : sz (1 + s) ≤ 8999 := Nat.le_trans zs (by decide)
    refine x_compS1 (src_list (K := K) (a := c) (xs := (vec n (F i)).map V.int)) (fun H' e => SqL.of (e.at hrc)) rfl (fun j vs H' => IsQs H' vs ((List.range j).map fun j => Rat.divInt (F i j) (1 + s))) (fun H' _ => trivial) ?_ ?_
    · rintro j v D vs o H6 H7 hj hD e6 hv6 hvl hJ e7 hx7
      rw [List.length_map, vec_len] at hj
      have ev : v = .int (F i j) := by
        rw [List.getElem?_map, vec_get hj] at hx7
        exact (Option.some.inj hx7).symm
      subst ev
      walk_at "x"
      rename_i p H8 e8 hp H9 b9 h9
      refine ⟨⟨_, rfl⟩, b9.same ((e6.trans e7).trans e8) hD, _, h9, by rw [List.length_append]; exact Nat.succ_le_succ hvl, ?_⟩
      show IsQs H9 _ ((List.range (j + 1)).map _)
      rw [List.range_succ, List.map_append, List.map_singleton]
      exact IsQs.app (LBut.isQ b9 hp) (LBut.isQs b9 (hJ.same (e7.trans e8)))
    rintro D H6 vs hD e6 hv6 hvl hJ
    rw [List.length_map, vec_len] at hJ hvl
    walk_at "x"
    refine spSide_i (n := n) (e6.at hrc) (e6.at hU5) (hI5.same e6) nn1 (hF i) hx ?_
    intro q1 eq1 zq1 p1 H7 e7 hp1
    walk_at "x"
    refine spSide_i (n := n) ((e6.trans e7).at hrc) ((e6.trans e7).at hU5) (hI5.same (e6.trans e7)) nn1 (hF i) hx ?_
    intro q2 eq2 zq2 p2 H8 e8 hp2
    obtain rfl : q1 = q2 := eq1.trans eq2.symm
    have mm : CMulS (q1.den : Int) (1 + s) := CMulS.of zq1.2 zs (by decide)
    have dpos : 0 < (q1.den : Int) * (1 + s) := Int.mul_pos (den_pos _) (by omega)
    have t1 : sz ((q1.den : Int) * (1 + s)) ≤ 8999 := Nat.le_trans (sz_mul zq1.2 zs) (by decide)
    walk_at "x"
    rename_i p3 H9 e9 hp3 l1 H10 f10 e10 hl1
    refine x_catN ((((e7.trans e8).trans e9).trans e10).at hv6) hl1 (by simp only [List.length_singleton]; omega) ?_
    intro p H11 fp e11 hp
    have e510 : Same H5 H10 := (((e6.trans e7).trans e8).trans e9).trans e10
    have hrw11 := (e510.trans e11).at hrw5
    walk_at "x"
    rename_i H12 b12 h12
    have nprs : p ∉ rs := (hP.same e510).fresh fp
    have npr : p ≠ rw0 := fun z => by rw [z, e510.at hrw5] at fp; cases fp
    have nrr : rw0 ∉ rs := hP.ne hrw5
    refine ⟨_, _, _, rs ++ [p], _, _, rfl, b12.same (e25.trans (e510.trans e11)) frw, b12.lst ((e510.trans e11).at hgr5) ngr, (hR5.same (e510.trans e11)).but b12 nra, by rw [h12, List.map_append]; rfl, by rw [List.length_append, hrl]; rfl, ?_, hK.more (s := 1 + s) (by omega) (by omega) hF eq1 zq1⟩
    refine PRows.snoc ((((hP.same (e510.trans e11)).but b12 nrr)).congr fun l hl => ?_) nprs (b12.lst hp npr) ?_
    · rw [if_neg (by omega)]
    · rw [hrl, if_pos rfl, List.range_succ, List.map_append, List.map_singleton]
      have hlast : rowQ n (F i) q1 (1 + s) n = Rat.divInt q1.num ((q1.den : Int) * (1 + s)) := if_neg (Nat.lt_irrefl _)
      have hfst : (List.range n).map (rowQ n (F i) q1 (1 + s)) = (List.range n).map fun j => Rat.divInt (F i j) (1 + s) := List.map_congr_left fun j hj => if_pos (List.mem_range.mp hj)
      rw [hlast, hfst]
      exact LBut.isQs b12 (IsQs.app ((e10.trans e11).isQ hp3) (hJ.same ((((e7.trans e8).trans e9).trans e10).trans e11)))
  rintro σ' H5 ⟨f6, f7, f8, rs, R, L, rfl, e25, hgr5, hR5, hrw5, hrl, hP, hK⟩
  rw [List.length_map, hal] at hrl hK
  have hdR := hK.det hdet
  have hS5 : SqL K H5 a (ns.map V.int) := hS2.keep e25
  clear hgr5 hR5 hR hgr hdet hF fgr ngr nra e4 hrw e3 hS1 fU hU e1
  walk_at "x"
  refine spMixed_i hS5 hz hrw5 (by omega) ?_
  intro mx H6 bs fmx e6 hmx hperm
  obtain ⟨R', hP', hR1, hR2⟩ := (hP.same e6).perm hperm hrl
  have hd' : Dt.det n (Dt.cl R') ≠ 0 := fun z => hdR (hR2.mpr z)
  have hrt : ∀ l, l < n → R' l n = Dt.sm n fun m => R' l m * x m := fun l hl => by
    obtain ⟨l', hl', e⟩ := hR1 l hl
    rw [e]; exact hK.rt l' hl'
  have hrz : ∀ l, l < n → ∀ j, j ≤ n → SzQ (R' l j) 96 40 := fun l hl j hj => by
    obtain ⟨l', hl', e⟩ := hR1 l hl
    rw [e]; exact hK.sz l' hl' j hj
  have hbl : bs.length = n := by rw [hperm.length_eq, hrl]
  have hbm : (bs.map V.ref).length = n := by rw [List.length_map]; exact hbl
  have hS6 : SqL K H6 a (ns.map V.int) := hS5.keep e6
  have hU6 := (e25.trans e6).at hU2
  have hI6 := hI.same (e25.trans e6)
  clear hP hR1 hR2 hK hdR hrw5 hrl hperm hS5 e25 e6 hU2 hI hS2 frw fmx
  walk_at "x"
  rename_i sp H7 fsp e7 hsp tt te t0 t1 mm me m0 m1 mo moe mo0 mo1
  obtain ⟨t, rfl⟩ : ∃ t : Nat, tt = (t : Int) := ⟨tt.toNat, by omega⟩
  have htn : t < n := by omega
  clear te me moe
  refine x_compS1 (src_range (lo := 0) (n := ((n : Int) + 1).toNat)) (fun _ _ => trivial) rfl (fun j vs H' => IsQs H' vs ((List.range j).map fun _ => (0 : Rat))) (fun H' _ => trivial) ?_ ?_
  · rintro j v D vs o H8 H9 hj hD e8 hv hvl hJ e9 rfl
    walk_at "x"
    refine x_tupQ (q := (0 : Rat)) ⟨rfl, rfl⟩ ?_
    intro p H10 e10 hp
    walk_at "x"
    rename_i H11 b11 h11
    refine ⟨⟨_, rfl⟩, b11.same ((e8.trans e9).trans e10) hD, _, h11, by rw [List.length_append]; exact Nat.succ_le_succ hvl, ?_⟩
    show IsQs H11 _ ((List.range (j + 1)).map _)
    rw [List.range_succ, List.map_append, List.map_singleton]
    exact IsQs.app (LBut.isQ b11 hp) (LBut.isQs b11 (hJ.same (e9.trans e10)))
  rintro zr H8 zs fzr e8 hzr hzl hJ
  rw [show ((n : Int) + 1).toNat = n + 1 by omega] at hJ hzl
  have hix : ∀ cs : List Addr, cs.length = n → ixN (cs.map V.ref).length (t : Int) = some t := fun cs hc => by
    have := ixN_lt (k := (t : Int)) (n := (cs.map V.ref).length) (by omega) (by rw [List.length_map]; omega)
    rw [Int.toNat_natCast] at this; exact this
  have hsp8 := e8.at hsp
  walk_at "x"
  refine x_setN (j := t) hsp8 (hix bs hbl) ?_
  intro H9 b9 h9
  have nzs : zr ≠ sp := fun z => by rw [z, hsp] at fzr; cases fzr
  have e69 : Same H6 H9 := b9.same (e7.trans e8) fsp
  have hmx9 := e69.at hmx
  have hS9 : SqL K H9 a (ns.map V.int) := hS6.keep e69
  have hP9 := hP'.same e69
  rw [← List.map_set] at h9
  walk_at "x"
  refine x_mid (fun σ' H' => ∃ (D2 : Addr) (vs : List V) (G : Nat → Rat), σ' = [some (.ref a), some (.int (n : Int)), some (.ref U), f3, f4, some (.ref mx), f6, f7, f8, some (.ref sp), some (.int (t : Int)), some (.int (mm - 3)), some (.int (mo - 3)), none, none, none, none] ∧ Same H6 H' ∧ H6 D2 = none ∧ D2 ≠ sp ∧ H' sp = some (.lst ((bs.set t D2).map V.ref)) ∧ H' D2 = some (.lst vs) ∧ IsQs H' vs ((List.range (n + 1)).map G) ∧ (∀ j, j ≤ n → SzQ (G j) 139 80) ∧ ((∀ j, j < n → G j = 0) ∨ ∃ (l1 l2 : Nat) (c d : Rat), l1 < n ∧ l2 < n ∧ l1 ≠ t ∧ l2 ≠ t ∧ ∀ j, j < n → G j = c * R' l1 j + d * R' l2 j)) ?_ ?_
  · walk_at "x"
    · rename_i hn1
      obtain ⟨l1, hl1, l1n, l1t⟩ := mod_next htn (show 1 < n by omega)
      obtain ⟨l2, hl2, l2n, l2t⟩ := mod_prev htn (show 1 < n by omega)
      obtain ⟨c1, hc1⟩ := lt_some (show l1 < bs.length by omega)
      obtain ⟨c2, hc2⟩ := lt_some (show l2 < bs.length by omega)
      have hat1 : atI (bs.map V.ref) (((t : Int) + 1) % (n : Int)) = some (.ref c1) := by rw [hl1]; exact atI_lt (by omega) (by rw [Int.toNat_natCast, List.getElem?_map, hc1]; rfl)
      have hat2 : atI (bs.map V.ref) (((t : Int) + (n : Int) - 1) % (n : Int)) = some (.ref c2) := by rw [hl2]; exact atI_lt (by omega) (by rw [Int.toNat_natCast, List.getElem?_map, hc2]; rfl)
      obtain ⟨ws1, w1, i1⟩ := hP9.2 _ _ hc1
      obtain ⟨ws2, w2, i2⟩ := hP9.2 _ _ hc2
      walk_at "x"
      refine spJoin_i (n := n + 1) w1 i1 w2 i2 (by omega) (fun j hj => ⟨hrz l1 l1n j (by omega), hrz l2 l2n j (by omega)⟩) (by omega) (by omega) (by omega) (by omega) ?_
      intro D2 H10 vs fD2 e10 hD2 hI2
      have hsp10 := e10.at h9
      walk_at "x"
      refine x_setN (j := t) hsp10 (hix _ (by rw [List.length_set]; exact hbl)) ?_
      intro H11 b11 h11
      have nDs : D2 ≠ sp := fun z => by rw [z, h9] at fD2; cases fD2
      rw [← List.map_set, List.set_set] at h11
      refine ⟨D2, vs, _, rfl, b11.same (e69.trans e10) fsp, Same.none fD2 e69, nDs, h11, b11.lst hD2 nDs, LBut.isQs b11 hI2, fun j hj => ?_, .inr ⟨l1, l2, _, _, l1n, l2n, l1t, l2t, fun j _ => rfl⟩⟩
      have js := join_sz (c := mm - 3) (d := mo - 3) ⟨hrz l1 l1n j hj, hrz l2 l2n j hj⟩ (by omega) (by omega) (by omega) (by omega)
      rw [← js.2.2]
      exact (szQ_add js.1 js.2.1 (by decide)).mono (by decide) (by decide)
    · refine ⟨zr, zs, fun _ => 0, rfl, e69, Same.none fzr e7, nzs, h9, b9.lst hzr nzs, LBut.isQs b9 hJ, fun j _ => ⟨sz_of (by show (0 : Int).natAbs < 2 ^ 139; decide), sz_of (by show (1 : Int).natAbs < 2 ^ 80; decide)⟩, .inl fun _ _ => rfl⟩
  clear h9 b9 hsp8 hP9 hmx9 hS9 e69 hsp hzr hJ fzr
  rintro σ' H10 ⟨D2, vs, G, rfl, e10, fD2, nDs, hsp, hD2, hG, hGz, hGd⟩
  have hS10 : SqL K H10 a (ns.map V.int) := hS6.keep e10
  walk_at "x"
  refine x_mid (fun σ' H' => ∃ (vs : List V) (G : Nat → Rat), σ' = [some (.ref a), some (.int (n : Int)), some (.ref U), f3, f4, some (.ref mx), f6, f7, f8, some (.ref sp), some (.int (t : Int)), some (.int (mm - 3)), some (.int (mo - 3)), none, none, none, none] ∧ Same H6 H' ∧ H' sp = some (.lst ((bs.set t D2).map V.ref)) ∧ H' D2 = some (.lst vs) ∧ IsQs H' vs ((List.range (n + 1)).map G) ∧ (∀ j, j ≤ n → SzQ (G j) 142 82) ∧ ((∀ j, j < n → G j = 0) ∨ ∃ (l1 l2 : Nat) (c d : Rat), l1 < n ∧ l2 < n ∧ l1 ≠ t ∧ l2 ≠ t ∧ ∀ j, j < n → G j = c * R' l1 j + d * R' l2 j)) ?_ ?_
  · obtain ⟨g, hg1, hg2⟩ := (cut_qs hG).2.2
    have hatD : atI ((bs.set t D2).map V.ref) (t : Int) = some (.ref D2) := atI_lt (by omega) (by rw [Int.toNat_natCast, List.getElem?_map, List.getElem?_set_self (by omega)]; rfl)
    have hatg : atI vs (n : Int) = some (.ref g) := atI_lt (by omega) (by rw [Int.toNat_natCast]; exact hg1)
    have zG := hGz n (Nat.le_refl n)
    have zG4 : SzQ (G n) 4000 4000 := zG.mono (by decide) (by decide)
    have z1 : SzQ (1 : Rat) 1 1 := ⟨sz_of (by show (1 : Int).natAbs < 2 ^ 1; decide), sz_of (by show (1 : Int).natAbs < 2 ^ 1; decide)⟩
    have z14 : SzQ (1 : Rat) 4000 4000 := z1.mono (by decide) (by decide)
    have hvl : vs.length = n + 1 := by rw [hG.length, List.length_map, List.length_range]
    walk_at "x"
    · refine x_tupQ (q := (1 : Rat)) ⟨rfl, rfl⟩ ?_
      intro p1 H11 e11 hp1
      walk_at "x"
      rename_i p2 H12 e12 hp2
      refine x_setN (j := n) ((e11.trans e12).at hD2) (by rw [show n = ((n : Int)).toNat from (Int.toNat_natCast _).symm]; exact ixN_lt (by omega) (by omega)) ?_
      intro H13 b13 h13
      refine ⟨vs.set n (.ref p2), (fun m => if m = n then G n + 1 else G m), rfl, b13.same (e10.trans (e11.trans e12)) fD2, b13.lst ((e11.trans e12).at hsp) (fun z => nDs z.symm), h13, ?_, fun j hj => ?_, ?_⟩
      · rw [← set_rng]
        exact LBut.isQs b13 (IsQs.setQ hp2 n (hG.same (e11.trans e12)))
      · dsimp only
        by_cases e : j = n
        · rw [if_pos e]; exact (szQ_add zG z1 (by decide)).mono (by decide) (by decide)
        · rw [if_neg e]; exact (hGz j hj).mono (by decide) (by decide)
      · rcases hGd with h | ⟨l1, l2, c, d, h1, h2, h3, h4, h⟩
        · exact .inl fun j hj => by dsimp only; rw [if_neg (by omega)]; exact h j hj
        · exact .inr ⟨l1, l2, c, d, h1, h2, h3, h4, fun j hj => by dsimp only; rw [if_neg (by omega)]; exact h j hj⟩
    · exact ⟨vs, G, rfl, e10, hsp, hD2, hG, fun j hj => (hGz j hj).mono (by decide) (by decide), hGd⟩
  clear hsp hD2 hG hGz hGd e10 hS10
  rintro σ' H11 ⟨vs', G', rfl, e11, hsp, hD2, hG, hGz, hGd⟩
  have hmx11 := e11.at hmx
  have hP11 := hP'.same e11
  have hU11 := e11.at hU6
  have hI11 := hI6.same e11
  have nDb : D2 ∉ bs := hP'.fresh fD2
  obtain ⟨R2, hR2⟩ : ∃ R2 : Nat → Nat → Rat, R2 = fun l => if l = t then G' else R' l := ⟨_, rfl⟩
  have hP2 : PRows H11 (bs.set t D2) (fun l => (List.range (n + 1)).map (R2 l)) := (PRows.put (j := t) hP11 nDb hD2 hG).congr fun m _ => by
    rw [hR2]
    dsimp only
    by_cases e : m = t
    · rw [if_pos e, if_pos e]
    · rw [if_neg e, if_neg e]
  have hdet0 : Dt.det n (Dt.cl R2) = 0 := by rw [hR2]; exact det_spoilt htn hGd
  have hz1 : ∀ l j, l < n → j ≤ n → SzQ (R' l j) sZ sB := fun l j hl hj => (hrz l hl j hj).mono (by decide) (by decide)
  have hz2 : ∀ l j, l < n → j ≤ n → SzQ (R2 l j) sZ sB := fun l j hl hj => by
    rw [hR2]
    dsimp only
    by_cases e : l = t
    · rw [if_pos e]; exact hGz j hj
    · rw [if_neg e]; exact hz1 l j hl hj
  have hbl2 : (bs.set t D2).length = n := by rw [List.length_set]; exact hbl
  clear hR2 hG hGz hGd hD2 hP' hmx hI6 hU6 e11 hS6 hrz
  walk_at "x"
  refine x_cutC hmx11 hP11 hbl nn1 rfl ?_
  intro hd H12 hbs fhd e12 hhd hhl hPh
  walk_at "x"
  refine x_sideC (e12.at hmx11) (hP11.same e12) hbl nn1 rfl ?_
  intro sd H13 ss fsd e13 hsd hIs
  have sys : Sys H13 hd sd n R' := ⟨⟨hbs, e13.at hhd, hhl, (hPh.same e13).2⟩, ⟨ss, hsd, hIs⟩⟩
  have hone : ∀ y : Nat → Rat, (∀ l, l < n → Dt.sm n (fun m => R' l m * y m) = R' l n) → (List.range n).map y = (List.range n).map x := fun y hy => List.map_congr_left fun m hm => Dt.one_answer hd' (fun l hl => (hy l hl).trans (hrt l hl)) (List.mem_range.mp hm)
  have hIl : ((((List.range n).map x).length : Nat) : Int) = (n : Int) := by rw [List.length_map, List.length_range]
  walk_at "x"
  refine spSolved_i sys nn0 nn1 hz1 (by decide) (by decide) (by decide) (ssz nn1) (fun z => absurd z hd') ?_
  intro _ tl H14 ts y ftl e14 htl hIy hmeet _
  rw [hone y hmeet] at hIy
  have e114 : Same H11 H14 := (e12.trans e13).trans e14
  walk_at "x"
  refine x_cutC (e114.at hsp) (hP2.same e114) hbl2 nn1 rfl ?_
  intro hd2 H15 hbs2 fhd2 e15 hhd2 hhl2 hPh2
  walk_at "x"
  refine x_sideC ((e114.trans e15).at hsp) (hP2.same (e114.trans e15)) hbl2 nn1 rfl ?_
  intro sd2 H16 ss2 fsd2 e16 hsd2 hIs2
  have sys2 : Sys H16 hd2 sd2 n R2 := ⟨⟨hbs2, e16.at hhd2, hhl2, (hPh2.same e16).2⟩, ⟨ss2, hsd2, hIs2⟩⟩
  walk_at "x"
  refine spRefN_i sys2 nn0 nn1 hz2 hdet0 ?_
  intro H17 e17
  have e1317 : Same H13 H17 := ((e14.trans e15).trans e16).trans e17
  walk_at "x"
  refine x_cutC (((e12.trans e13).trans e1317).at hmx11) (hP11.same ((e12.trans e13).trans e1317)) hbl nn1 rfl ?_
  intro hd3 H18 hbs3 fhd3 e18 hhd3 hhl3 hPh3
  walk_at "x"
  refine x_nePP ((e13.trans (e1317.trans e18)).at hhd) hhd3 (hPh.same (e13.trans (e1317.trans e18))) hPh3 (by omega) ?_
  walk_at "x"
  refine x_sideC (((e12.trans e13).trans (e1317.trans e18)).at hmx11) (hP11.same ((e12.trans e13).trans (e1317.trans e18))) hbl nn1 rfl ?_
  intro sd3 H19 ss3 fsd3 e19 hsd3 hIs3
  have e1319 : Same H13 H19 := (e1317.trans e18).trans e19
  walk_at "x"
  have sys3 : Sys H19 hd sd n R' := ⟨⟨hbs, (e13.trans e1319).at hhd, hhl, (hPh.same (e13.trans e1319)).2⟩, ⟨ss, e1319.at hsd, hIs.same e1319⟩⟩
  refine spSolved_i sys3 nn0 nn1 hz1 (by decide) (by decide) (by decide) (ssz nn1) (fun z => absurd z hd') ?_
  intro _ ag H20 as2 y2 fag e20 hag hIa hmeet2 _
  rw [hone y2 hmeet2] at hIa
  walk_at "x"
  exact k _

end
theorem fin {P : Program} {w : World} {K : PySem.W.Frag} {mg : Str → Option Value} {fa : Addr} (T : Txt K mg) (hfa : mg "law" = some (.ref fa)) :
    ∃ fd : FuncData, (∀ (s : Shared) (v : Value), BindsTo s fd ⟨[v], []⟩ [("_law_script", v)]) ∧ ∀ base : Heap, K.In base → base.Ns mainGlobals mg → FnOk P w K mg base (CXF P w) 5 fa fd ["_law_script"] (spLaw K) := by
  have e := hfa.symm.trans T.d_law.m
  cases e
  exact ⟨_, T.bl_law, fun base _ _ => ok_law T⟩
theorem walk {l : PySem.W.OpenLaw} {q : Program} {loose : List Str} {XP : (Str → Option Value) → Heap → Prop} {YP : World → Heap → Prop} {d : DefRec} {K : Params → PySem.W.Frag} (hn : l.most = some 63) (hdf : d.params.defaults = [])
    (hY : ∀ (w : World) (h : Heap), YP w h → (K w.params).In h)
    (F : ∀ (w : World) (mg : Str → Option Value) (fa : Addr) (h : Heap), (K w.params).In h → h.Ns mainGlobals mg → mg d.name = some (.ref fa) →
      ∃ fd : FuncData, (∀ (s : Shared) (u : Value), BindsTo s fd ⟨[u], []⟩ [("_law_script", u)]) ∧ ∀ base : Heap, (K w.params).In base → base.Ns mainGlobals mg → FnOk l.prog w (K w.params) mg base (CXF l.prog w) 5 fa fd ["_law_script"] (spLaw (K w.params))) :
    PySem.W.WalkO q loose XP YP l.row.toRowW d [] (fun f vs => PySem.call f vs) :=
  Internal.walk_ofZ (n := 63) (k := 5) (x := "_law_script") (CX := fun w => CXF l.prog w) (sp := fun w => spLaw (K w.params)) hn (by decide) hdf ⟨rfl, by decide, by decide⟩ hY F (fun _ _ a ns hl hz _ hS => ⟨a, ns, rfl, hS, hl, hz, fun _ => rfl⟩) fun _ H s e s' z => nox_F _ H s e s' z
end Internal.K
theorem PySem.W.Fast.tw13934525967088659026 : True := trivial
theorem PySem.W.Fast.tw16018762869897651561 : True := trivial
theorem PySem.W.Fast.tw13348193928543283291 : True := trivial
theorem PySem.W.Fast.tw7270089979225654148 : True := trivial
theorem PySem.W.Fast.tw10936954967646773410 : True := trivial
theorem PySem.W.Fast.tw15514008510599846748 : True := trivial
theorem PySem.W.Fast.tw12801138762138417950 : True := trivial
theorem PySem.W.Fast.tw6090408667538641572 : True := trivial
theorem PySem.W.Fast.tw14307340555450036596 : True := trivial
theorem PySem.W.Fast.tw2846185910389042431 : True := trivial
theorem PySem.W.Fast.tw6021274499206703142 : True := trivial
theorem PySem.W.Fast.tw9910928281632482315 : True := trivial
theorem PySem.W.Fast.tw5415863418102051319 : True := trivial
theorem PySem.W.Fast.tw3511042358661652182 : True := trivial
theorem PySem.W.Fast.tw275762185965549318 : True := trivial
theorem PySem.W.Fast.tw4512026082110320059 : True := trivial
theorem PySem.W.Fast.tw15247362568425944976 : True := trivial
theorem PySem.W.Fast.tw8186471974463972189 : True := trivial
theorem PySem.W.Fast.tw3047254533880786947 : True := trivial
theorem PySem.W.Fast.tw2669090715438825475 : True := trivial
theorem PySem.W.Fast.tw2437561832257358345 : True := trivial
theorem PySem.W.Fast.tw10105348933296439276 : True := trivial
theorem PySem.W.Fast.tw1357282937741323396 : True := trivial
theorem PySem.W.Fast.tw14117311598019173572 : True := trivial
open PySem PySem.W PyProof.Rows
set_option maxRecDepth 100000 in
set_option maxHeartbeats 0 in
theorem PySem.Challenge.cw_quits_k31_no_answer_holds : PySem.Challenge.rw_quits_k31_no_answer.Holds := by
  w_on; o_law; k_head; (case hw => w_witness2)
  k_fill
  refine Internal.K.walk (l := PySem.Challenge.rw_quits_k31_no_answer) rfl rfl (fun w h Y => PySem.W.kIn_of Y) ?F
  case F =>
    intro w mg fa h KX G hmg
    refine Internal.K.fin ?T hmg
    case T =>
      refine' Internal.K.txt_mk KX G ?m_Bare ?m_Closed ?m_Gone ?m_NoAnswer ?m_NoDeal ?m_NoLayer ?m_NoMember ?m_NoPart ?m_NoRule ?m_NoTerms ?m_Out ?m_Poor ?m_QuitsError ?m_Ringed ?m_Settled ?m_Standing ?m_TooMuch ?m_Unclosed ?hd_Bare ?ty_Bare ?hd_Closed ?ty_Closed ?hd_Gone ?ty_Gone ?hd_NoAnswer ?ty_NoAnswer ?hd_NoDeal ?ty_NoDeal ?hd_NoLayer ?ty_NoLayer ?hd_NoMember ?ty_NoMember ?hd_NoPart ?ty_NoPart ?hd_NoRule ?ty_NoRule ?hd_NoTerms ?ty_NoTerms ?hd_Out ?ty_Out ?hd_Poor ?ty_Poor ?hd_QuitsError ?ty_QuitsError ?hd_Ringed ?ty_Ringed ?hd_Settled ?ty_Settled ?hd_Standing ?ty_Standing ?hd_TooMuch ?ty_TooMuch ?hd_Unclosed ?ty_Unclosed ?sn_ ?tk_ ?b_QuitsError ?x_NoAnswer ?ga_NoAnswer ?gn_NoAnswer ?be_NoAnswer ?fa_NoAnswer ?mo_NoAnswer ?s_NoAnswer_Bare ?n_NoAnswer_Bare ?s_NoAnswer_Closed ?n_NoAnswer_Closed ?s_NoAnswer_Gone ?n_NoAnswer_Gone ?s_NoAnswer_NoAnswer ?s_NoAnswer_NoDeal ?n_NoAnswer_NoDeal ?s_NoAnswer_NoLayer ?n_NoAnswer_NoLayer ?s_NoAnswer_NoMember ?n_NoAnswer_NoMember ?s_NoAnswer_NoPart ?n_NoAnswer_NoPart ?s_NoAnswer_NoRule ?n_NoAnswer_NoRule ?s_NoAnswer_NoTerms ?n_NoAnswer_NoTerms ?s_NoAnswer_Out ?n_NoAnswer_Out ?s_NoAnswer_Poor ?n_NoAnswer_Poor ?s_NoAnswer_QuitsError ?n_NoAnswer_QuitsError ?s_NoAnswer_Ringed ?n_NoAnswer_Ringed ?s_NoAnswer_Settled ?n_NoAnswer_Settled ?s_NoAnswer_Standing ?n_NoAnswer_Standing ?s_NoAnswer_TooMuch ?n_NoAnswer_TooMuch ?s_NoAnswer_Unclosed ?n_NoAnswer_Unclosed ?v_NoAnswer ?x_NoPart ?ga_NoPart ?gn_NoPart ?be_NoPart ?fa_NoPart ?mo_NoPart ?s_NoPart_Bare ?n_NoPart_Bare ?s_NoPart_Closed ?n_NoPart_Closed ?s_NoPart_Gone ?n_NoPart_Gone ?s_NoPart_NoAnswer ?n_NoPart_NoAnswer ?s_NoPart_NoDeal ?n_NoPart_NoDeal ?s_NoPart_NoLayer ?n_NoPart_NoLayer ?s_NoPart_NoMember ?n_NoPart_NoMember ?s_NoPart_NoPart ?s_NoPart_NoRule ?n_NoPart_NoRule ?s_NoPart_NoTerms ?n_NoPart_NoTerms ?s_NoPart_Out ?n_NoPart_Out ?s_NoPart_Poor ?n_NoPart_Poor ?s_NoPart_QuitsError ?n_NoPart_QuitsError ?s_NoPart_Ringed ?n_NoPart_Ringed ?s_NoPart_Settled ?n_NoPart_Settled ?s_NoPart_Standing ?n_NoPart_Standing ?s_NoPart_TooMuch ?n_NoPart_TooMuch ?s_NoPart_Unclosed ?n_NoPart_Unclosed ?v_NoPart ?a_divisor ?l_divisor ?c_divisor ?k_divisor ?a_part ?l_part ?c_part ?k_part ?a_solved ?l_solved ?c_solved ?k_solved ?a_whole_row ?l_whole_row ?c_whole_row ?k_whole_row ?a_with_first ?l_with_first ?c_with_first ?k_with_first ?a_swept ?l_swept ?c_swept ?k_swept ?a_swept_row ?l_swept_row ?c_swept_row ?k_swept_row ?a__law_cell ?l__law_cell ?c__law_cell ?k__law_cell ?a__law_draw ?l__law_draw ?c__law_draw ?k__law_draw ?a__law_whole ?l__law_whole ?c__law_whole ?k__law_whole ?a__law_divisor ?l__law_divisor ?c__law_divisor ?k__law_divisor ?a__law_is_part ?l__law_is_part ?c__law_is_part ?k__law_is_part ?a__law_parts ?l__law_parts ?c__law_parts ?k__law_parts ?a__law_part ?l__law_part ?c__law_part ?k__law_part ?a__law_plus ?l__law_plus ?c__law_plus ?k__law_plus ?a__law_row ?l__law_row ?c__law_row ?k__law_row ?a__law_grid ?l__law_grid ?c__law_grid ?k__law_grid ?a__law_mixed ?l__law_mixed ?c__law_mixed ?k__law_mixed ?a__law_side ?l__law_side ?c__law_side ?k__law_side ?a__law_joined ?l__law_joined ?c__law_joined ?k__law_joined ?a__law_of_another ?l__law_of_another ?c__law_of_another ?k__law_of_another ?a__law_refused ?l__law_refused ?c__law_refused ?k__law_refused ?a_law ?l_law ?c_law ?k_law ?w_ValueError ?w_abs ?w_bool ?w_enumerate ?w_int ?w_isinstance ?w_len ?w_list ?w_range ?w_tuple ?w_zip
      (case m_Bare => k_is)
      (case m_Closed => k_is)
      (case m_Gone => k_is)
      (case m_NoAnswer => k_is)
      (case m_NoDeal => k_is)
      (case m_NoLayer => k_is)
      (case m_NoMember => k_is)
      (case m_NoPart => k_is)
      (case m_NoRule => k_is)
      (case m_NoTerms => k_is)
      (case m_Out => k_is)
      (case m_Poor => k_is)
      (case m_QuitsError => k_is)
      (case m_Ringed => k_is)
      (case m_Settled => k_is)
      (case m_Standing => k_is)
      (case m_TooMuch => k_is)
      (case m_Unclosed => k_is)
      (case hd_Bare => k_is)
      (case ty_Bare => k_is)
      (case hd_Closed => k_is)
      (case ty_Closed => k_is)
      (case hd_Gone => k_is)
      (case ty_Gone => k_is)
      (case hd_NoAnswer => k_is)
      (case ty_NoAnswer => k_is)
      (case hd_NoDeal => k_is)
      (case ty_NoDeal => k_is)
      (case hd_NoLayer => k_is)
      (case ty_NoLayer => k_is)
      (case hd_NoMember => k_is)
      (case ty_NoMember => k_is)
      (case hd_NoPart => k_is)
      (case ty_NoPart => k_is)
      (case hd_NoRule => k_is)
      (case ty_NoRule => k_is)
      (case hd_NoTerms => k_is)
      (case ty_NoTerms => k_is)
      (case hd_Out => k_is)
      (case ty_Out => k_is)
      (case hd_Poor => k_is)
      (case ty_Poor => k_is)
      (case hd_QuitsError => k_is)
      (case ty_QuitsError => k_is)
      (case hd_Ringed => k_is)
      (case ty_Ringed => k_is)
      (case hd_Settled => k_is)
      (case ty_Settled => k_is)
      (case hd_Standing => k_is)
      (case ty_Standing => k_is)
      (case hd_TooMuch => k_is)
      (case ty_TooMuch => k_is)
      (case hd_Unclosed => k_is)
      (case ty_Unclosed => k_is)
      (case sn_ => k_is)
      (case tk_ => k_is)
      (case b_QuitsError => k_is)
      (case x_NoAnswer => k_exc)
      (case ga_NoAnswer => k_is)
      (case gn_NoAnswer => k_is)
      (case be_NoAnswer => k_is)
      (case fa_NoAnswer => k_is)
      (case mo_NoAnswer => k_is)
      (case s_NoAnswer_Bare => k_is)
      (case n_NoAnswer_Bare => decide)
      (case s_NoAnswer_Closed => k_is)
      (case n_NoAnswer_Closed => decide)
      (case s_NoAnswer_Gone => k_is)
      (case n_NoAnswer_Gone => decide)
      (case s_NoAnswer_NoAnswer => k_is)
      (case s_NoAnswer_NoDeal => k_is)
      (case n_NoAnswer_NoDeal => decide)
      (case s_NoAnswer_NoLayer => k_is)
      (case n_NoAnswer_NoLayer => decide)
      (case s_NoAnswer_NoMember => k_is)
      (case n_NoAnswer_NoMember => decide)
      (case s_NoAnswer_NoPart => k_is)
      (case n_NoAnswer_NoPart => decide)
      (case s_NoAnswer_NoRule => k_is)
      (case n_NoAnswer_NoRule => decide)
      (case s_NoAnswer_NoTerms => k_is)
      (case n_NoAnswer_NoTerms => decide)
      (case s_NoAnswer_Out => k_is)
      (case n_NoAnswer_Out => decide)
      (case s_NoAnswer_Poor => k_is)
      (case n_NoAnswer_Poor => decide)
      (case s_NoAnswer_QuitsError => k_is)
      (case n_NoAnswer_QuitsError => decide)
      (case s_NoAnswer_Ringed => k_is)
      (case n_NoAnswer_Ringed => decide)
      (case s_NoAnswer_Settled => k_is)
      (case n_NoAnswer_Settled => decide)
      (case s_NoAnswer_Standing => k_is)
      (case n_NoAnswer_Standing => decide)
      (case s_NoAnswer_TooMuch => k_is)
      (case n_NoAnswer_TooMuch => decide)
      (case s_NoAnswer_Unclosed => k_is)
      (case n_NoAnswer_Unclosed => decide)
      (case v_NoAnswer => k_is)
      (case x_NoPart => k_exc)
      (case ga_NoPart => k_is)
      (case gn_NoPart => k_is)
      (case be_NoPart => k_is)
      (case fa_NoPart => k_is)
      (case mo_NoPart => k_is)
      (case s_NoPart_Bare => k_is)
      (case n_NoPart_Bare => decide)
      (case s_NoPart_Closed => k_is)
      (case n_NoPart_Closed => decide)
      (case s_NoPart_Gone => k_is)
      (case n_NoPart_Gone => decide)
      (case s_NoPart_NoAnswer => k_is)
      (case n_NoPart_NoAnswer => decide)
      (case s_NoPart_NoDeal => k_is)
      (case n_NoPart_NoDeal => decide)
      (case s_NoPart_NoLayer => k_is)
      (case n_NoPart_NoLayer => decide)
      (case s_NoPart_NoMember => k_is)
      (case n_NoPart_NoMember => decide)
      (case s_NoPart_NoPart => k_is)
      (case s_NoPart_NoRule => k_is)
      (case n_NoPart_NoRule => decide)
      (case s_NoPart_NoTerms => k_is)
      (case n_NoPart_NoTerms => decide)
      (case s_NoPart_Out => k_is)
      (case n_NoPart_Out => decide)
      (case s_NoPart_Poor => k_is)
      (case n_NoPart_Poor => decide)
      (case s_NoPart_QuitsError => k_is)
      (case n_NoPart_QuitsError => decide)
      (case s_NoPart_Ringed => k_is)
      (case n_NoPart_Ringed => decide)
      (case s_NoPart_Settled => k_is)
      (case n_NoPart_Settled => decide)
      (case s_NoPart_Standing => k_is)
      (case n_NoPart_Standing => decide)
      (case s_NoPart_TooMuch => k_is)
      (case n_NoPart_TooMuch => decide)
      (case s_NoPart_Unclosed => k_is)
      (case n_NoPart_Unclosed => decide)
      (case v_NoPart => k_is)
      (case a_divisor => k_is)
      (case l_divisor => k_is)
      (case c_divisor => k_is)
      (case k_divisor => k_is)
      (case a_part => k_is)
      (case l_part => k_is)
      (case c_part => k_is)
      (case k_part => k_is)
      (case a_solved => k_is)
      (case l_solved => k_is)
      (case c_solved => k_is)
      (case k_solved => k_is)
      (case a_whole_row => k_is)
      (case l_whole_row => k_is)
      (case c_whole_row => k_is)
      (case k_whole_row => k_is)
      (case a_with_first => k_is)
      (case l_with_first => k_is)
      (case c_with_first => k_is)
      (case k_with_first => k_is)
      (case a_swept => k_is)
      (case l_swept => k_is)
      (case c_swept => k_is)
      (case k_swept => k_is)
      (case a_swept_row => k_is)
      (case l_swept_row => k_is)
      (case c_swept_row => k_is)
      (case k_swept_row => k_is)
      (case a__law_cell => k_is)
      (case l__law_cell => k_is)
      (case c__law_cell => k_is)
      (case k__law_cell => k_is)
      (case a__law_draw => k_is)
      (case l__law_draw => k_is)
      (case c__law_draw => k_is)
      (case k__law_draw => k_is)
      (case a__law_whole => k_is)
      (case l__law_whole => k_is)
      (case c__law_whole => k_is)
      (case k__law_whole => k_is)
      (case a__law_divisor => k_is)
      (case l__law_divisor => k_is)
      (case c__law_divisor => k_is)
      (case k__law_divisor => k_is)
      (case a__law_is_part => k_is)
      (case l__law_is_part => k_is)
      (case c__law_is_part => k_is)
      (case k__law_is_part => k_is)
      (case a__law_parts => k_is)
      (case l__law_parts => k_is)
      (case c__law_parts => k_is)
      (case k__law_parts => k_is)
      (case a__law_part => k_is)
      (case l__law_part => k_is)
      (case c__law_part => k_is)
      (case k__law_part => k_is)
      (case a__law_plus => k_is)
      (case l__law_plus => k_is)
      (case c__law_plus => k_is)
      (case k__law_plus => k_is)
      (case a__law_row => k_is)
      (case l__law_row => k_is)
      (case c__law_row => k_is)
      (case k__law_row => k_is)
      (case a__law_grid => k_is)
      (case l__law_grid => k_is)
      (case c__law_grid => k_is)
      (case k__law_grid => k_is)
      (case a__law_mixed => k_is)
      (case l__law_mixed => k_is)
      (case c__law_mixed => k_is)
      (case k__law_mixed => k_is)
      (case a__law_side => k_is)
      (case l__law_side => k_is)
      (case c__law_side => k_is)
      (case k__law_side => k_is)
      (case a__law_joined => k_is)
      (case l__law_joined => k_is)
      (case c__law_joined => k_is)
      (case k__law_joined => k_is)
      (case a__law_of_another => k_is)
      (case l__law_of_another => k_is)
      (case c__law_of_another => k_is)
      (case k__law_of_another => k_is)
      (case a__law_refused => k_is)
      (case l__law_refused => k_is)
      (case c__law_refused => k_is)
      (case k__law_refused => k_is)
      (case a_law => k_is)
      (case l_law => k_is)
      (case c_law => k_is)
      (case k_law => k_is)
      (case w_ValueError => k_is)
      (case w_abs => k_is)
      (case w_bool => k_is)
      (case w_enumerate => k_is)
      (case w_int => k_is)
      (case w_isinstance => k_is)
      (case w_len => k_is)
      (case w_list => k_is)
      (case w_range => k_is)
      (case w_tuple => k_is)
      (case w_zip => k_is)
