import PyProof.Rows.All
import Wide.All
import OpenK.AllK
import Wide.FinOn
import Lean
import PyProof.EqAt
import PyProof.EqKinds
import PyProof.TupleCall
import PyProof.CompFree
import PyProof.Cells
import PyProof.EnumFor
import PyProof.EnumStmt
import PyProof.EnumMake
import PyProof.ZipIter
import PyProof.SumAny
import PyProof.MinMaxWalk
import PyProof.ConsumeWalk
import PyProof.Rows.EnumRows
import PyProof.Rows.FactsT2
import PyProof.Rows.SeqGen
import KE.KTryMore
import PyProof.ExcBaseAll.ValueError
import PyProof.ExcAttrAll.ValueError
import PyProof.ListRange
import PyProof.Rows.SortShell
import PyProof.Rows.SortWalk
import PyProof.SeqI3
import KE.KSortTup
import KE.KLam
import KE.KMinBuiltin
import KE.LcSums
import KE.KRevIter
import PySem.Challenge.RW_quits_k17_whole_the_least_is_left
set_option compiler.extract_closed false
set_option bootstrap.genMatcherCode false
set_option Elab.async false
set_option linter.all false
set_option maxRecDepth 100000
namespace Internal
theorem aut0 (h : True := by first | exact .inl rfl | exact .inr rfl | assumption) : True := h
theorem aut1 (h : True := by decide) : True := h
theorem aut2 (h : True := by rfl) : True := h
theorem aut3 (h : True := by intro _; rfl) : True := h
theorem aut4 (h : True := by intros; rfl) : True := h
theorem aut5 (h : True := by exact fun _ _ _ _ _ => rfl) : True := h
open PySem PySem.Spec PyProof.Rows

noncomputable abbrev Key := Sum Int Str
noncomputable def keyIs : Key → Value → Bool
  | .inl k, v => Value.isInt k v
  | .inr x, v => Value.isStrOf x v
noncomputable def keyH (w : World) : Key → Int
  | .inl k => hashInt k
  | .inr x => hashStr w x
theorem keyIs_shape : ∀ {k : Key} {v : Value}, keyIs k v = true → (∃ i t, k = Sum.inl i ∧ v = Value.int i t) ∨ (∃ x t, k = Sum.inr x ∧ v = Value.str x t)
  | .inl i, v, h => by
    obtain ⟨t, e⟩ := Value.isInt_shape (k := i) (v := v) h
    exact .inl ⟨i, t, rfl, e⟩
  | .inr x, v, h => by
    obtain ⟨t, e⟩ := Value.isStrOf_shape (x := x) (v := v) h
    exact .inr ⟨x, t, rfl, e⟩
theorem key_ll (a b : Int) : decide ((Sum.inl a : Key) = Sum.inl b) = (a == b) := by
  by_cases e : a = b
  · subst e; simp
  · have h : ¬ (Sum.inl a : Key) = Sum.inl b := fun q => e (Sum.inl.inj q)
    rw [decide_eq_false h]
    exact (beq_eq_false_iff_ne.mpr e).symm
theorem key_rr (a b : Str) : decide ((Sum.inr a : Key) = Sum.inr b) = decide (a = b) := by
  by_cases e : a = b
  · subst e; simp
  · have h : ¬ (Sum.inr a : Key) = Sum.inr b := fun q => e (Sum.inr.inj q)
    rw [decide_eq_false h, decide_eq_false e]
theorem key_lr (a : Int) (b : Str) : decide ((Sum.inl a : Key) = Sum.inr b) = false := decide_eq_false (fun q => nomatch q)
theorem key_rl (a : Str) (b : Int) : decide ((Sum.inr a : Key) = Sum.inl b) = false := decide_eq_false (fun q => nomatch q)

noncomputable def mixKind (prog : Program) (w : World) : PySem.KeyKind prog w Key where
  is := keyIs
  hash := keyH w
  inj := fun v a b ha hb => by
    rcases keyIs_shape ha with ⟨i, t, rfl, rfl⟩ | ⟨x, t, rfl, rfl⟩
    · rcases keyIs_shape hb with ⟨j, u, rfl, e⟩ | ⟨y, u, rfl, e⟩
      · injection e with e1 _; rw [e1]
      · exact nomatch e
    · rcases keyIs_shape hb with ⟨j, u, rfl, e⟩ | ⟨y, u, rfl, e⟩
      · exact nomatch e
      · injection e with e1 _; rw [e1]
  byValue := fun k v h => by
    rcases keyIs_shape h with ⟨i, t, rfl, rfl⟩ | ⟨x, t, rfl, rfl⟩ <;> rfl
  pyHash := fun hv h => by
    rcases keyIs_shape hv with ⟨i, t, rfl, rfl⟩ | ⟨x, t, rfl, rfl⟩
    · exact wpAny_pyHash_int h
    · exact wpAny_pyHash_str h
  eqBool := fun hu hv h => by
    rcases keyIs_shape hu with ⟨i, t, rfl, rfl⟩ | ⟨x, t, rfl, rfl⟩
    · rcases keyIs_shape hv with ⟨j, u, rfl, rfl⟩ | ⟨y, u, rfl, rfl⟩
      · rw [key_ll] at h; exact wpAny_eqBool_int h
      · rw [key_lr] at h; exact SeqAt.EqAt.int_str i t y u _ _ _ _ h
    · rcases keyIs_shape hv with ⟨j, u, rfl, rfl⟩ | ⟨y, u, rfl, rfl⟩
      · rw [key_rl] at h; exact SeqAt.EqAt.str_int x t j u _ _ _ _ h
      · rw [key_rr] at h; exact wpAny_eqBool_str h
  «strs» := fun k x t v h => by
    rcases keyIs_shape h with ⟨i, u, rfl, e⟩ | ⟨y, u, rfl, e⟩
    · exact nomatch e
    · injection e with e1 _
      subst e1
      cases v <;> rfl

end Internal

namespace Internal
open PySem PySem.Spec PyProof.Rows

inductive V where
  | non | bl (b : Bool) | int (i : Int) | str (x : Str) | byt (b : Array UInt8) | flt (b : UInt64) | ref (a : Addr) | ty (n : String)
  deriving DecidableEq

noncomputable def RelV : V → Value → Prop
  | .non, u => u = Value.none
  | .bl b, u => u = Value.bool b
  | .int i, u => ∃ t, u = Value.int i t
  | .str x, u => ∃ t, u = Value.str x t
  | .byt b, u => ∃ t, u = Value.bytes b t
  | .flt b, u => ∃ t, u = Value.float b t
  | .ref a, u => u = Value.ref a
  | .ty n, u => u = Value.type n

noncomputable abbrev Vals : List V → List Value → Prop := Paired RelV
theorem Vals.length {xs : List V} {us : List Value} (r : Vals xs us) : xs.length = us.length := Paired.length r
theorem Vals.get : ∀ {xs : List V} {us : List Value} {i : Nat} {x : V}, Vals xs us → xs[i]? = some x → ∃ u, us[i]? = some u ∧ RelV x u
  | _, _, _, _, .nil, e => by simp at e
  | _, _, 0, _, .cons r _, e => by simp at e; subst e; exact ⟨_, rfl, r⟩
  | _, _, i + 1, x, .cons _ t, e => by
    obtain ⟨u, h1, h2⟩ := Vals.get (i := i) (x := x) t (by simpa using e)
    exact ⟨u, by simpa using h1, h2⟩
theorem Vals.set {x : V} {u : Value} (r : RelV x u) : ∀ {xs : List V} {us : List Value} (i : Nat), Vals xs us → Vals (xs.set i x) (us.set i u)
  | _, _, _, .nil => .nil
  | _, _, 0, .cons _ t => .cons r t
  | _, _, i + 1, .cons q t => .cons q (Vals.set r i t)
theorem Vals.append : ∀ {xs ys : List V} {us ws : List Value}, Vals xs us → Vals ys ws → Vals (xs ++ ys) (us ++ ws)
  | _, _, _, _, .nil, s => s
  | _, _, _, _, .cons r t, s => .cons r (Vals.append t s)
theorem Vals.take : ∀ {xs : List V} {us : List Value} (n : Nat), Vals xs us → Vals (xs.take n) (us.take n)
  | _, _, 0, _ => .nil
  | _, _, _ + 1, .nil => .nil
  | _, _, n + 1, .cons r t => .cons r (Vals.take n t)
theorem Vals.drop : ∀ {xs : List V} {us : List Value} (n : Nat), Vals xs us → Vals (xs.drop n) (us.drop n)
  | _, _, 0, r => r
  | _, _, _ + 1, .nil => .nil
  | _, _, n + 1, .cons _ t => Vals.drop n t
noncomputable def RelO : Option V → Option Value → Prop
  | some v, some u => RelV v u
  | none, none => True
  | _, _ => False
noncomputable def KV {κ : Type} : List (κ × V) → List (κ × Value) → Prop := Paired fun (p : κ × V) (q : κ × Value) => p.1 = q.1 ∧ RelV p.2 q.2

noncomputable def kV : Key → V
  | .inl i => .int i
  | .inr x => .str x

inductive HO where
  /-- a list -/
  | lst (xs : List V)
  /-- a tuple (never changes) -/
  | tup (xs : List V)
  /-- a dict whose keys are ints and texts; one whose keys are tuples of ints and texts (the empty one is both) -/
  | dK (kvs : List (Key × V)) | dT (kvs : List (List Key × V))
  /-- a set of ints: its members, its size -/
  | set (S : Int → Bool) (n : Nat)
  /-- an instance of the class at C, its dict at dx, its attributes -/
  | ins (C dx : Addr) (fs : List (Str × V))
  /-- the dict of the instance at x -/
  | own (x : Addr)
  /-- the dict of an exception -/
  | xd (fs : List (Str × V))
  /-- a bound method, f of x -/
  | met (f x : Addr)
  /-- a range object lo, lo + 1, .. below hi -/
  | rng (lo hi : Int)
  /-- a thing that is known to the object (the script; a dict while a loop walks it): read, never written while it is so -/
  | frz (o : Obj) (u : HO)
  /-- a code object's table -/
  | tbl (ps : Array Value)
  /-- any other thing, by what is true of its one object (a def of one's own: SetO a S n := HO.ext fun h => ..) -/
  | ext (φ : Heap → Prop)

noncomputable abbrev Hp := Addr → Option HO
noncomputable def upd (H : Hp) (a : Addr) (o : HO) : Hp := fun b => if b = a then some o else H b
theorem upd_same {H : Hp} {a : Addr} {o : HO} : upd H a o a = some o := by unfold upd; rw [if_pos rfl]
theorem upd_ne {H : Hp} {a b : Addr} {o : HO} (h : b ≠ a) : upd H a o b = H b := by unfold upd; rw [if_neg h]
theorem ne_of {H : Hp} {a b : Addr} {o u : HO} (h : H a = some o) (h' : H b = some u) (d : o ≠ u) : a ≠ b := by
  intro e; subst e; rw [h] at h'; exact d (Option.some.inj h')
theorem ne_of_none {H : Hp} {a b : Addr} {o : HO} (h : H a = some o) (h' : H b = none) : a ≠ b := by
  intro e; subst e; rw [h] at h'; cases h'

section
variable (P : Program) (w : World)
noncomputable def ObjOk (H : Hp) (h : Heap) (a : Addr) : HO → Prop
  | .lst xs => xs.length ≤ sizeLine ∧ ∃ (its : List Value) (n : Nat), Vals xs its ∧ h.get? a = some { cls := .type "list", data := .seq its.toArray n }
  | .tup xs => xs.length ≤ sizeLine ∧ ∃ its : List Value, Vals xs its ∧ IsTup h a its.toArray
  | .dK kvs => kvs.length ≤ sizeLine ∧ (a == sysModules) = false ∧ ∃ vs, KV kvs vs ∧ h.DictOf (mixKind P w) a vs
  | .dT kvs => kvs.length ≤ sizeLine ∧ (a == sysModules) = false ∧ ∃ xs : List (List Key × Addr × Value),
      Paired (fun (p : List Key × V) (q : List Key × Addr × Value) => p.1 = q.1 ∧ H q.2.1 = some (.tup (p.1.map kV)) ∧ RelV p.2 q.2.2) kvs xs ∧
      ∃ o es ep, h.get? a = some o ∧ o.ExactDict ∧ o.data = .dict es ep ∧ es.toList = xs.map (entryOfKey (tupleKind (mixKind P w))) ∧ (xs.map (·.1)).Nodup
  | .set S n => h.SetOf (intKind P w) a S n
  | .ins C dx fs => H dx = some (.own a) ∧ fs.length ≤ 1000 ∧ dx ≠ a ∧ h.get? a = some (PySem.W.instObj C dx) ∧
      ∃ mA, h.Ns1 dx mA ∧ (∀ f, RelO (fs.lookup f) (mA f)) ∧ PySem.Within mA (fs.map (·.1))
  | .own _ => ∃ o, h.get? a = some o
  | .xd fs => ∃ mA, h.Ns1 a mA ∧ ∀ f, RelO (fs.lookup f) (mA f)
  | .rng lo hi => ∃ t u v, h.get? a = some { cls := .type "range", data := .fields #[.int lo t, .int hi u, .int 1 v] }
  | .frz o u => h.get? a = some o ∧ ObjOk H h a u
  | .tbl ps => h.get? a = some { cls := .none, data := .fields ps }
  | .met f x => h.get? a = some (PySem.W.methodObj (.ref f) (.ref x))
  | .ext φ => φ h ∧ (∃ o, h.get? a = some o) ∧ ∀ h1 h2 : Heap, φ h1 → (∀ o, h1.get? a = some o → h2.get? a = some o) → φ h2
noncomputable def HOk (H : Hp) (h : Heap) : Prop := ∀ a o, H a = some o → ObjOk P w H h a o
end

section
variable {P : Program} {w : World} {H H' : Hp} {h h' : Heap} {a : Addr} {o : HO}
theorem ObjOk.lt (x : ObjOk P w H h a o) : a < h.objs.size := by
  cases o with
  | lst xs => obtain ⟨_, _, _, _, e⟩ := x; exact Heap.lt_size e
  | tup xs => obtain ⟨_, _, _, p⟩ := x; exact p.lt
  | dK kvs => obtain ⟨_, _, _, _, o, _, _, e, _⟩ := x; exact Heap.lt_size e
  | dT kvs => obtain ⟨_, _, _, _, o, _, _, e, _⟩ := x; exact Heap.lt_size e
  | set S n => obtain ⟨o, _, _, _, e, _⟩ := x; exact Heap.lt_size e
  | ins C dx fs => obtain ⟨_, _, _, e, _⟩ := x; exact Heap.lt_size e
  | own y => obtain ⟨_, e⟩ := x; exact Heap.lt_size e
  | xd fs => obtain ⟨_, ⟨_, _, _, e, _⟩, _⟩ := x; exact Heap.lt_size e
  | rng lo hi => obtain ⟨_, _, _, e⟩ := x; exact Heap.lt_size e
  | frz ob u => obtain ⟨e, _⟩ := x; exact Heap.lt_size e
  | tbl ps => exact Heap.lt_size (show h.get? a = some _ from x)
  | met f y => exact Heap.lt_size (show h.get? a = some _ from x)
  | ext φ => obtain ⟨_, ⟨_, e⟩, _⟩ := x; exact Heap.lt_size e
theorem Paired.mapP {α β : Type} {F G : α → β → Prop} : ∀ {l₁ : List α} {l₂ : List β}, Paired F l₁ l₂ → (∀ a b, F a b → G a b) → Paired G l₁ l₂
  | _, _, .nil, _ => .nil
  | _, _, .cons r t, f => .cons (f _ _ r) (Paired.mapP t f)
theorem ObjOk.stay (x : ObjOk P w H h a o) (k : ∀ b u, (b = a ∨ H b = some (.own a)) → h.get? b = some u → h'.get? b = some u)
    (ho : ∀ b, H b = some (.own a) → H' b = some (.own a)) (ht : ∀ b xs, H b = some (.tup xs) → H' b = some (.tup xs)) : ObjOk P w H' h' a o := by
  induction o with
  | lst xs => obtain ⟨z, its, n, r, e⟩ := x; exact ⟨z, its, n, r, k _ _ (.inl rfl) e⟩
  | tup xs => obtain ⟨z, its, r, ob, e, c⟩ := x; exact ⟨z, its, r, ob, k _ _ (.inl rfl) e, c⟩
  | dK kvs => obtain ⟨z, y, vs, r, ob, es, ep, e, c⟩ := x; exact ⟨z, y, vs, r, ob, es, ep, k _ _ (.inl rfl) e, c⟩
  | dT kvs =>
    obtain ⟨z, y, xs, r, ob, es, ep, e, c⟩ := x
    exact ⟨z, y, xs, Paired.mapP r fun p q z => ⟨z.1, ht _ _ z.2.1, z.2.2⟩, ob, es, ep, k _ _ (.inl rfl) e, c⟩
  | set S n => obtain ⟨ob, es, ep, t, e, c⟩ := x; exact ⟨ob, es, ep, t, k _ _ (.inl rfl) e, c⟩
  | ins C dx fs =>
    obtain ⟨d, z, ne, e, mA, ⟨od, es, ep, e2, c⟩, r⟩ := x
    exact ⟨ho _ d, z, ne, k _ _ (.inl rfl) e, mA, ⟨od, es, ep, k _ _ (.inr d) e2, c⟩, r⟩
  | own y => obtain ⟨ob, e⟩ := x; exact ⟨ob, k _ _ (.inl rfl) e⟩
  | xd fs => obtain ⟨mA, ⟨od, es, ep, e, c⟩, r⟩ := x; exact ⟨mA, ⟨od, es, ep, k _ _ (.inl rfl) e, c⟩, r⟩
  | rng lo hi => obtain ⟨t, u, v, e⟩ := x; exact ⟨t, u, v, k _ _ (.inl rfl) e⟩
  | frz ob u ih => obtain ⟨e, q⟩ := x; exact ⟨k _ _ (.inl rfl) e, ih q⟩
  | tbl ps =>
    have e : h.get? a = some { cls := .none, data := .fields ps } := x
    show h'.get? a = some { cls := .none, data := .fields ps }
    exact k a _ (.inl rfl) e
  | met f y =>
    have e : h.get? a = some (PySem.W.methodObj (.ref f) (.ref y)) := x
    show h'.get? a = some (PySem.W.methodObj (.ref f) (.ref y))
    exact k a _ (.inl rfl) e
  | ext φ => obtain ⟨p, ⟨o, e⟩, st⟩ := x; exact ⟨st _ _ p fun o q => k _ _ (.inl rfl) q, ⟨o, k _ _ (.inl rfl) e⟩, st⟩
theorem HOk.lt (x : HOk P w H h) (e : H a = some o) : a < h.objs.size := (x a o e).lt
theorem HOk.fresh (x : HOk P w H h) (e : h.objs.size ≤ a) : H a = none := by
  cases q : H a with
  | none => rfl
  | some u => exact absurd (Nat.lt_of_lt_of_le (x.lt q) e) (Nat.lt_irrefl _)
theorem HOk.kept (x : HOk P w H h) (k : ∀ b u, h.get? b = some u → h'.get? b = some u) : HOk P w H h' := fun a o e =>
  (x a o e).stay (fun b u _ q => k b u q) (fun _ q => q) fun _ _ q => q
theorem HOk.laid (x : HOk P w H h) (k : ∀ b u, h.get? b = some u → h'.get? b = some u) (hp : h.objs.size ≤ a) (new : ObjOk P w (upd H a o) h' a o) : HOk P w (upd H a o) h' := fun b u e => by
  have hn := x.fresh hp
  by_cases hb : b = a
  · subst hb; rw [upd_same] at e; cases e; exact new
  · rw [upd_ne hb] at e
    exact (x b u e).stay (fun c v _ q => k c v q) (fun c q => by rw [upd_ne (ne_of_none q hn)]; exact q) fun c xs q => by rw [upd_ne (ne_of_none q hn)]; exact q
end

noncomputable def Rd (H : Hp) (a : Addr) (u : HO) : Prop := H a = some u ∨ ∃ o, H a = some (.frz o u)
theorem Rd.ok {P : Program} {w : World} {H : Hp} {h : Heap} {a : Addr} {u : HO} (r : Rd H a u) (x : HOk P w H h) : ObjOk P w H h a u := by
  rcases r with r | ⟨o, r⟩
  · exact x a u r
  · obtain ⟨_, q⟩ := x a _ r
    exact q
noncomputable def Mut : Option HO → Prop
  | some (.lst _) => True
  | some (.dK _) => True
  | some (.dT _) => True
  | some (.set _ _) => True
  | some (.ins _ _ _) => True
  | some (.ext _) => True
  | _ => False
section
variable {P : Program} {w : World} {H : Hp} {h h' : Heap} {x e : Addr} {o' : HO}
theorem HOk.write (ok : HOk P w H h) (mu : Mut (H x)) (he : e = x ∨ H e = some (.own x)) (k : ∀ b u, b ≠ e → h.get? b = some u → h'.get? b = some u) (heo : ∃ u, h'.get? e = some u)
    (new : ObjOk P w (upd H x o') h' x o') : HOk P w (upd H x o') h' := fun b u q => by
  have nown : ∀ c y, H c = some (.own y) → c ≠ x := fun c y r z => by subst z; rw [r] at mu; exact mu
  have ntup : ∀ c xs, H c = some (.tup xs) → c ≠ x := fun c xs r z => by subst z; rw [r] at mu; exact mu
  by_cases hb : b = x
  · subst hb; rw [upd_same] at q; cases q; exact new
  · rw [upd_ne hb] at q
    by_cases hbe : b = e
    · have q' : H b = some (.own x) := by
        rcases he with z | z
        · exact absurd (hbe.trans z) hb
        · rw [hbe]; exact z
      rw [q] at q'; cases q'
      obtain ⟨v, hv⟩ := heo
      exact ⟨v, by rw [hbe]; exact hv⟩
    · refine (ok b u q).stay (fun c v hc r => k c v ?_ r) (fun c r => by rw [upd_ne (nown c b r)]; exact r) fun c xs r => by rw [upd_ne (ntup c xs r)]; exact r
      rcases hc with rfl | hc
      · exact hbe
      · rintro rfl
        rcases he with z | z
        · exact nown c b hc z
        · rw [hc] at z; cases z; exact hb rfl
end

set_option genInjectivity false in
set_option genSizeOf false in
structure Un (fs ex : List Addr) (H H' : Hp) (h h' : Heap) : Prop where
  keep : ∀ b o, h.get? b = some o → H b = none → b ∉ fs → b ∉ ex → h'.get? b = some o
  slot : ∀ b o, h.get? b = some o → H b = none → b ∈ fs → b ∉ ex → ∃ sl, h'.get? b = some { o with slots := sl }
  free : ∀ b o, h.get? b = some o → H b = none → b ∉ ex → H' b = none
  there : ∀ b o, h.get? b = some o → b ∉ ex → ∃ o', h'.get? b = some o'
  tups : ∀ b xs, H b = some (.tup xs) → H' b = some (.tup xs)
  frzs : ∀ b o u, H b = some (.frz o u) → H' b = some (.frz o u)
  tbls : ∀ b ps, H b = some (.tbl ps) → ∃ more, H' b = some (.tbl (ps ++ more))
section
variable {fs fs' ex ex' : List Addr} {H H1 H2 : Hp} {h h1 h2 h' : Heap} {a x e : Addr} {o : HO}
theorem Un.any (u : Un fs ex H H1 h h1) {b : Addr} {ob : Obj} (q : h.get? b = some ob) (n : H b = none) (hx : b ∉ ex) : ∃ sl, h1.get? b = some { ob with slots := sl } := by
  by_cases hb : b ∈ fs
  · exact u.slot b ob q n hb hx
  · exact ⟨ob.slots, u.keep b ob q n hb hx⟩
theorem Un.kept (k : ∀ b u, h.get? b = some u → h'.get? b = some u) : Un fs ex H H h h' :=
  ⟨fun b ob q _ _ _ => k b ob q, fun b ob q _ _ _ => ⟨ob.slots, k b ob q⟩, fun _ _ _ n _ => n, fun b ob q _ => ⟨ob, k b ob q⟩, fun _ _ q => q, fun _ _ _ q => q, fun _ ps q => ⟨#[], by rw [q]; simp⟩⟩
theorem Un.refl : Un fs ex H H h h := Un.kept fun _ _ q => q
theorem Un.laid (k : ∀ b u, h.get? b = some u → h'.get? b = some u) (hp : h.objs.size ≤ a) (hn : H a = none) : Un fs ex H (upd H a o) h h' where
  keep := fun b u q _ _ _ => k b u q
  slot := fun b u q _ _ _ => ⟨u.slots, k b u q⟩
  free := fun b u q n _ => by rw [upd_ne (Nat.ne_of_lt (Nat.lt_of_lt_of_le (Heap.lt_size q) hp))]; exact n
  there := fun b u q _ => ⟨u, k b u q⟩
  tups := fun b xs q => by rw [upd_ne (ne_of_none q hn)]; exact q
  frzs := fun b u xs q => by rw [upd_ne (ne_of_none q hn)]; exact q
  tbls := fun b ps q => ⟨#[], by rw [upd_ne (ne_of_none q hn), q]; simp⟩
theorem Un.write (mu : Mut (H x)) (he : e = x ∨ H e = some (.own x)) (k : ∀ b u, b ≠ e → h.get? b = some u → h'.get? b = some u) (heo : ∃ u, h'.get? e = some u) : Un fs ex H (upd H x o) h h' := by
  have hx : ∀ b, H b = none → b ≠ x := fun b n z => by subst z; rw [n] at mu; exact mu
  have hb : ∀ b, H b = none → b ≠ e := fun b n z => by
    subst z
    rcases he with r | r
    · exact hx b n r
    · rw [n] at r; cases r
  have hm : ∀ b u, H b = some u → ¬ Mut (some u) → b ≠ x := fun b u q nm z => by subst z; rw [q] at mu; exact nm mu
  refine ⟨fun b u q n _ _ => k b u (hb b n) q, fun b u q n _ _ => ⟨u.slots, k b u (hb b n) q⟩, fun b u q n _ => by rw [upd_ne (hx b n)]; exact n, fun b u q _ => ?_,
    fun b xs q => by rw [upd_ne (hm b _ q fun z => z)]; exact q, fun b u xs q => by rw [upd_ne (hm b _ q fun z => z)]; exact q, fun b ps q => ⟨#[], by rw [upd_ne (hm b _ q fun z => z), q]; simp⟩⟩
  by_cases hbe : b = e
  · subst hbe; exact heo
  · exact ⟨u, k b u hbe q⟩
end

noncomputable def trk (h : Heap) (H : Hp) : List Addr := (List.range h.objs.size).filter fun a => (H a).isSome
noncomputable def hidT (h : Heap) (H : Hp) : Heap := PySem.W.hideAll h (trk h H)
theorem hidT_size (h : Heap) (H : Hp) : (hidT h H).objs.size = h.objs.size := PySem.W.hideAll_size _ _
theorem hidT_get {h : Heap} {H : Hp} {b : Addr} {o : Obj} (e : h.get? b = some o) (n : H b = none) : (hidT h H).get? b = some o :=
  PySem.W.hideAll_get _ e fun hm => by
    have q : (H b).isSome = true := (List.mem_filter.mp hm).2
    rw [n] at q; simp at q
theorem of_hidT {h : Heap} {H : Hp} {b : Addr} {o : Obj} (e : (hidT h H).get? b = some o) : h.get? b = some o ∧ H b = none := by
  have e' : h.get? b = some o := PySem.W.of_hideAll (trk h H) e
  refine ⟨e', ?_⟩
  cases q : H b with
  | none => rfl
  | some x =>
    have hm : b ∈ trk h H := List.mem_filter.mpr ⟨List.mem_range.mpr (Heap.lt_size e'), by simp [q]⟩
    have z : (hidT h H).get? b = none := PySem.W.hideAll_none (trk h H) hm
    rw [z] at e; cases e

noncomputable def allNews (g h : Heap) (L : Addr) : List (Addr × Obj) := (List.range h.objs.size).filterMap fun a => if a = L ∨ (g.get? a).isSome = true then none else (h.get? a).map fun o => (a, o)
noncomputable def rest (g h : Heap) (L d : Addr) : List (Addr × Obj) := (allNews g h L).filter fun p => decide (p.1 ≠ d)
end Internal

namespace Internal
open PySem PySem.Spec PyProof.Rows

set_option genInjectivity false in
set_option genSizeOf false in
structure Mod (K : PySem.W.Frag) (mg : Str → Option Value) (base : Heap) : Prop where
  kin : K.In base
  glob : base.Ns mainGlobals mg
  blt : ∃ mb, base.Ns builtinsNs mb ∧ ∀ x : Str, x ≠ "__name__" → mb x = bootBuiltins x
  nolimit : base.NoLimit

set_option genSizeOf false in
structure Cx where
  prog : Program
  w : World
  K : PySem.W.Frag
  mg : Str → Option Value
  base : Heap
  A : Around
  N : List Str
  s₀ : Shared
  H₀ : Hp
  env : Env
  outer : List Env
  stack : List Env
  ex : List Addr
  fn : Str → Bool
  calm : Bool
  pn : List (Addr × Obj)
  xe : Value → Shared → Prop
noncomputable def frs (l : List Env) : List Addr := l.filterMap (·.frame)
noncomputable abbrev Cx.fs (X : Cx) : List Addr := frs X.outer

noncomputable def Vis (sc : Scope) (x : Str) : Prop := sc.names.lookup x = some .local ∨ sc.names.lookup x = some .cell ∨ sc.names.lookup x = some .free
noncomputable def Loc (sc : Scope) (x : Str) : Prop := sc.names.lookup x = some .local ∨ sc.names.lookup x = some .cell
noncomputable def Look (env : Env) (h : Heap) (m : Str → Option Value) (x : Str) (u : Value) : Prop :=
  (env.kindOf x = some .local ∧ m x = some u) ∨ ((env.kindOf x = some .cell ∨ env.kindOf x = some .free) ∧ ∃ c, env.cells.lookup x = some c ∧ h.IsCell c (some u))

set_option genSizeOf false in
structure Cx.Ok (X : Cx) : Prop where
  mod : Mod X.K X.mg X.base
  kind : X.env.scope.kind = .function
  glob : X.env.globals = mainGlobals
  blt : X.env.builtins = builtinsNs
  above : X.s₀.heap.objs.size ≤ X.env.locals
  inj : ∀ x y c, X.env.cells.lookup x = some c → X.env.cells.lookup y = some c → x = y
  has : ∀ x, (X.env.kindOf x = some .cell ∨ X.env.kindOf x = some .free) → ∃ c, X.env.cells.lookup x = some c
  cab : ∀ x c, X.fn x = true → X.env.cells.lookup x = some c → X.s₀.heap.objs.size ≤ c
  hd : X.calm = true → X.A.handled = none
  frames : X.A.frames = some X.stack
  stk : X.stack = X.outer ∨ (X.stack = X.env :: X.outer ∧ X.env.frame = some X.env.locals)
  exf : ∀ b ∈ X.ex, b ≠ X.env.locals ∧ ∀ x c, X.env.cells.lookup x = some c → c ≠ b
  bs : ∀ b o, X.base.get? b = some o → X.s₀.heap.get? b = some o ∧ X.H₀ b = none
  bsz : X.base.objs.size ≤ X.s₀.heap.objs.size
  noex : ∀ b o, X.base.get? b = some o → b ∉ X.ex
  exfs : ∀ b ∈ X.ex, b ∉ X.fs
  funs : X.s₀.heap.FunFrames X.base X.outer
  frf : ∀ b ∈ X.fs, X.H₀ b = none

set_option genInjectivity false in
set_option genSizeOf false in
structure Inv (X : Cx) (pins : List (Addr × Obj)) (σ : List (Option V)) (H : Hp) (s : Shared) : Prop where
  ok : X.Ok
  os : s.os = X.s₀.os
  bare : AllBare s.gens
  base : Un X.fs X.ex X.H₀ H X.s₀.heap s.heap
  loc : ∃ m, s.heap.Ns X.env.locals m ∧ ∀ (i : Nat) (x : Str) (v : V), X.N[i]? = some x → σ[i]? = some (some v) → Vis X.env.scope x → ∃ u, RelV v u ∧ Look X.env s.heap m x u
  cell : ∀ x c, X.env.cells.lookup x = some c → ∃ v, s.heap.IsCell c v
  free : H X.env.locals = none
  freeC : ∀ x c, X.env.cells.lookup x = some c → H c = none
  pin : ∀ p ∈ X.pn ++ pins, s.heap.get? p.1 = some p.2 ∧ H p.1 = none ∧ p.1 ≠ X.env.locals ∧ p.1 ∉ X.fs ∧ ∀ v, p.2.data ≠ .cell v
  hok : HOk X.prog X.w H s.heap
  len : σ.length = X.N.length

section
variable {X : Cx} {pins : List (Addr × Obj)} {σ : List (Option V)} {H H' : Hp} {s : Shared} {h' : Heap}

theorem Cx.Ok.nofr (ok : X.Ok) {b : Addr} {o : Obj} (e : X.base.get? b = some o) : b ∉ X.fs := fun hb => by
  have := (ok.funs.mem hb).1
  rw [e] at this; cases this
theorem Inv.bs (I : Inv X pins σ H s) : ∀ b o, X.base.get? b = some o → s.heap.get? b = some o ∧ H b = none := fun b o e =>
  ⟨I.base.keep b o (I.ok.bs b o e).1 (I.ok.bs b o e).2 (I.ok.nofr e) (I.ok.noex b o e), I.base.free b o (I.ok.bs b o e).1 (I.ok.bs b o e).2 (I.ok.noex b o e)⟩
theorem Inv.bk (I : Inv X pins σ H s) : ∀ b o, X.base.get? b = some o → s.heap.get? b = some o := fun b o e => (I.bs b o e).1
theorem Inv.mod (I : Inv X pins σ H s) : Mod X.K X.mg X.base := I.ok.mod
theorem Inv.kIn (I : Inv X pins σ H s) : X.K.In s.heap := I.ok.mod.kin.keeps I.bk
theorem Inv.lt (I : Inv X pins σ H s) : X.env.locals < s.heap.objs.size := let ⟨_, hn, _⟩ := I.loc; hn.lt
theorem Inv.sz (I : Inv X pins σ H s) : X.s₀.heap.objs.size ≤ s.heap.objs.size := Nat.le_trans I.ok.above (Nat.le_of_lt I.lt)
theorem Inv.nofs (I : Inv X pins σ H s) {a : Addr} (h : s.heap.objs.size ≤ a) : a ∉ X.fs := fun hb => by
  obtain ⟨_, o, ho, _⟩ := I.ok.funs.mem hb
  exact absurd (Nat.lt_of_lt_of_le (Heap.lt_size ho) (Nat.le_trans I.sz h)) (Nat.lt_irrefl _)
theorem Inv.cne (I : Inv X pins σ H s) : ∀ x c, X.env.cells.lookup x = some c → c ≠ X.env.locals := fun x c e z => by
  obtain ⟨v, o, ho, hd⟩ := I.cell x c e
  obtain ⟨m, ⟨o', es, ep, ho', hd', _⟩, _⟩ := I.loc
  rw [z, ho'] at ho; cases ho; rw [hd'] at hd; cases hd
theorem Inv.funs (I : Inv X pins σ H s) : s.heap.FunFrames X.base X.outer := by
  have all : ∀ (l : List Env), (∀ b ∈ frs l, b ∈ X.fs) → X.s₀.heap.FunFrames X.base l → s.heap.FunFrames X.base l := by
    intro l
    induction l with
    | nil => intro _ _; trivial
    | cons env r ih =>
      intro hs hl
      obtain ⟨hk, ⟨L, o, hf, hn, ho, hd⟩, hr⟩ := hl
      have hL : L ∈ X.fs := hs L (by unfold frs; rw [List.filterMap_cons, hf]; exact List.mem_cons_self)
      obtain ⟨sl, e⟩ := I.base.slot L o ho (I.ok.frf L hL) hL fun z => I.ok.exfs L z hL
      exact ⟨hk, ⟨L, _, hf, hn, e, hd⟩, ih (fun b hb => hs b (by unfold frs; rw [List.filterMap_cons, hf]; exact List.mem_cons_of_mem _ hb)) hr⟩
  exact all X.outer (fun _ hb => hb) I.ok.funs

theorem Inv.stack (I : Inv X pins σ H s) : s.heap.FunFrames X.base X.stack := by
  rcases I.ok.stk with e | ⟨e, hf⟩
  · rw [e]; exact I.funs
  · rw [e]
    obtain ⟨m, hn, _⟩ := I.loc
    refine .cons (by rw [I.ok.kind]; decide) hf hn ?_ I.funs
    exact Heap.get?_none_of_le (Nat.le_trans I.ok.bsz I.ok.above)
theorem Inv.stkSub (I : Inv X pins σ H s) : ∀ b ∈ frs X.stack, b ∈ X.env.locals :: X.fs := fun b hb => by
  rcases I.ok.stk with e | ⟨e, hf⟩
  · rw [e] at hb; exact List.mem_cons_of_mem _ hb
  · rw [e] at hb
    unfold frs at hb
    rw [List.filterMap_cons, hf] at hb
    exact hb
theorem Inv.stkFree (I : Inv X pins σ H s) : ∀ b ∈ frs X.stack, H b = none := fun b hb => by
  rcases List.mem_cons.mp (I.stkSub b hb) with e | hb
  · rw [e]; exact I.free
  · obtain ⟨_, o, ho, _⟩ := I.ok.funs.mem hb
    exact I.base.free b o ho (I.ok.frf b hb) fun z => I.ok.exfs b z hb

theorem Inv.step {g' : Array GenState} {t' : Nat} {d' : Drawn} {ch : List Addr} (I : Inv X pins σ H s)
    (hch : ∀ b ∈ ch, (b ∈ X.ex ∨ X.s₀.heap.objs.size ≤ b) ∧ b ≠ X.env.locals ∧ (∀ x c, X.env.cells.lookup x = some c → c ≠ b) ∧ ∀ p ∈ X.pn ++ pins, p.1 ≠ b)
    (keep : ∀ b o, b ≠ X.env.locals → b ∉ X.fs → b ∉ ch → s.heap.get? b = some o → H b = none → h'.get? b = some o)
    (slot : ∀ b o, b ≠ X.env.locals → b ∈ X.fs → b ∉ ch → s.heap.get? b = some o → H b = none → ∃ sl, h'.get? b = some { o with slots := sl }) (free : ∀ b o, b ∉ ch → s.heap.get? b = some o → H b = none → H' b = none)
    (there : ∀ b o, b ∉ ch → s.heap.get? b = some o → ∃ o', h'.get? b = some o')
    (tups : ∀ b xs, H b = some (.tup xs) → H' b = some (.tup xs)) (frzs : ∀ b o u, H b = some (.frz o u) → H' b = some (.frz o u)) (tbls : ∀ b ps, H b = some (.tbl ps) → ∃ more, H' b = some (.tbl (ps ++ more)))
    (ns : ∀ m, s.heap.Ns X.env.locals m → h'.Ns X.env.locals m) (hok : HOk X.prog X.w H' h') (hg : AllBare g') :
    Inv X pins σ H' { s with heap := h', gens := g', drawn := d', toks := t' } := by
  have neL : ∀ b o, X.s₀.heap.get? b = some o → b ≠ X.env.locals := fun b o e => Nat.ne_of_lt (Nat.lt_of_lt_of_le (Heap.lt_size e) I.ok.above)
  have neC : ∀ b o, X.s₀.heap.get? b = some o → b ∉ X.ex → b ∉ ch := fun b o e hx hb => by
    rcases (hch b hb).1 with z | z
    · exact hx z
    · exact absurd (Nat.lt_of_lt_of_le (Heap.lt_size e) z) (Nat.lt_irrefl _)
  have cellK : ∀ x c, X.env.cells.lookup x = some c → ∀ v, s.heap.IsCell c v → h'.IsCell c v := fun x c e v ⟨o, ho, hd⟩ => by
    have nch : c ∉ ch := fun z => (hch c z).2.2.1 x c e rfl
    by_cases hc : c ∈ X.fs
    · obtain ⟨sl, q⟩ := slot c o (I.cne x c e) hc nch ho (I.freeC x c e)
      exact ⟨_, q, hd⟩
    · exact ⟨o, keep c o (I.cne x c e) hc nch ho (I.freeC x c e), hd⟩
  refine ⟨I.ok, I.os, hg, ⟨fun b o e n hb hx => ?_, fun b o e n hb hx => ?_, fun b o e n hx => ?_, fun b o e hx => ?_, fun b xs e => tups b xs (I.base.tups b xs e), fun b o xs e => frzs b o xs (I.base.frzs b o xs e), fun b ps e => ?_⟩, ?_, fun x c e => ?_, ?_, fun x c e => ?_, fun p hp => ?_, hok, I.len⟩
  · exact keep b o (neL b o e) hb (neC b o e hx) (I.base.keep b o e n hb hx) (I.base.free b o e n hx)
  · obtain ⟨sl, e1⟩ := I.base.slot b o e n hb hx
    obtain ⟨sl', e2⟩ := slot b _ (neL b o e) hb (neC b o e hx) e1 (I.base.free b o e n hx)
    exact ⟨sl', e2⟩
  · obtain ⟨o', e1⟩ := I.base.there b o e hx
    exact free b o' (neC b o e hx) e1 (I.base.free b o e n hx)
  · obtain ⟨o', e1⟩ := I.base.there b o e hx
    exact there b o' (neC b o e hx) e1
  · obtain ⟨m1, e1⟩ := I.base.tbls b ps e
    obtain ⟨m2, e2⟩ := tbls b _ e1
    exact ⟨m1 ++ m2, by rw [e2, Array.append_assoc]⟩
  · obtain ⟨m, hn, hl⟩ := I.loc
    refine ⟨m, ns m hn, fun i x v e1 e2 e3 => ?_⟩
    obtain ⟨u, r, l⟩ := hl i x v e1 e2 e3
    refine ⟨u, r, ?_⟩
    rcases l with l | ⟨k, c, e, z⟩
    · exact .inl l
    · exact .inr ⟨k, c, e, cellK x c e _ z⟩
  · obtain ⟨v, z⟩ := I.cell x c e
    exact ⟨v, cellK x c e v z⟩
  · obtain ⟨m, ⟨o, _, _, ho, _⟩, _⟩ := I.loc
    exact free _ o (fun z => (hch _ z).2.1 rfl) ho I.free
  · obtain ⟨v, o, ho, hd⟩ := I.cell x c e
    exact free c o (fun z => (hch c z).2.2.1 x c e rfl) ho (I.freeC x c e)
  · obtain ⟨e, n, ne, nf, d⟩ := I.pin p hp
    have nch : p.1 ∉ ch := fun z => (hch p.1 z).2.2.2 p hp rfl
    exact ⟨keep p.1 p.2 ne nf nch e n, free p.1 p.2 nch e n, ne, nf, d⟩
theorem Inv.un {t' : Nat} (I : Inv X pins σ H s) (u : Un X.fs [] H H' s.heap h') (hok : HOk X.prog X.w H' h') : Inv X pins σ H' { s with heap := h', toks := t' } := by
  obtain ⟨m, ⟨o, es, ep, ho, r⟩, _⟩ := id I.loc
  obtain ⟨sl, hL⟩ := u.any ho I.free (by simp)
  exact I.step (g' := s.gens) (d' := s.drawn) (ch := []) (fun _ z => nomatch z) (fun b o _ hb _ e n => u.keep b o e n hb (by simp)) (fun b o _ hb _ e n => u.slot b o e n hb (by simp)) (fun b o _ e n => u.free b o e n (by simp)) (fun b o _ e => u.there b o e (by simp)) u.tups u.frzs u.tbls (fun m' hm => by
    obtain ⟨o', es', ep', ho', r'⟩ := hm
    rw [ho] at ho'; cases ho'
    exact ⟨_, es', ep', hL, r'⟩) hok I.bare
theorem Inv.call {g' : Array GenState} {t' : Nat} {d' : Drawn} {ch : List Addr} (I : Inv X pins σ H s) (u : Un (frs X.stack) ch H H' s.heap h') (hok : HOk X.prog X.w H' h') (hg : AllBare g')
    (hch : ∀ b ∈ ch, (b ∈ X.ex ∨ X.s₀.heap.objs.size ≤ b) ∧ b ≠ X.env.locals ∧ (∀ x c, X.env.cells.lookup x = some c → c ≠ b) ∧ ∀ p ∈ X.pn ++ pins, p.1 ≠ b) :
    Inv X pins σ H' { s with heap := h', gens := g', drawn := d', toks := t' } := by
  obtain ⟨m, ⟨o, es, ep, ho, r⟩, _⟩ := id I.loc
  obtain ⟨sl, hL⟩ := u.any ho I.free fun z => (hch _ z).2.1 rfl
  exact I.step (ch := ch) hch (fun b o hL hb hc e n => u.keep b o e n (fun z => (List.mem_cons.mp (I.stkSub b z)).elim hL hb) hc) (fun b o _ _ hc e n => u.any e n hc) (fun b o hc e n => u.free b o e n hc) (fun b o hc e => u.there b o e hc) u.tups u.frzs u.tbls (fun m' hm => by
    obtain ⟨o', es', ep', ho', r'⟩ := hm
    rw [ho] at ho'; cases ho'
    exact ⟨_, es', ep', hL, r'⟩) hok hg
theorem Inv.turned {t' : Nat} {it : Addr} (I : Inv X pins σ H s) (k : ∀ b o, b ≠ it → s.heap.get? b = some o → h'.get? b = some o) (hn : H it = none) (hL : it ≠ X.env.locals)
    (h1 : it ∈ X.ex ∨ X.s₀.heap.objs.size ≤ it) (h2 : ∀ x c, X.env.cells.lookup x = some c → c ≠ it) (h3 : ∀ p ∈ X.pn ++ pins, p.1 ≠ it) : Inv X pins σ H { s with heap := h', toks := t' } := by
  have nit : ∀ b u, H b = some u → b ≠ it := fun b u e z => by rw [z, hn] at e; cases e
  refine I.step (g' := s.gens) (d' := s.drawn) (ch := [it]) (fun b hb => ?_) (fun b o _ _ hc e _ => k b o (fun z => hc (by simp [z])) e) (fun b o _ _ hc e _ => ⟨o.slots, k b o (fun z => hc (by simp [z])) e⟩) (fun _ _ _ _ n => n)
    (fun b o hc e => ⟨o, k b o (fun z => hc (by simp [z])) e⟩) (fun _ _ e => e) (fun _ _ _ e => e) (fun b ps e => ⟨#[], by rw [e]; simp⟩) (fun m hm => ?_) (fun b u e => ?_) I.bare
  · have e : b = it := by simpa using hb
    subst e
    exact ⟨h1, hL, h2, h3⟩
  · obtain ⟨o, es, ep, ho, r⟩ := hm
    exact ⟨o, es, ep, k _ o (Ne.symm hL) ho, r⟩
  · refine (I.hok b u e).stay (fun c v hc q => k c v ?_ q) (fun _ q => q) fun _ _ q => q
    rcases hc with z | z
    · rw [z]; exact nit b u e
    · exact nit c _ z
theorem Inv.tok (I : Inv X pins σ H s) (t : Nat) : Inv X pins σ H { s with toks := t } := I.un (h' := s.heap) (t' := t) Un.refl I.hok
theorem Inv.kept {t' : Nat} (I : Inv X pins σ H s) (k : ∀ b u, s.heap.get? b = some u → h'.get? b = some u) : Inv X pins σ H { s with heap := h', toks := t' } := I.un (Un.kept k) (I.hok.kept k)
theorem Inv.laid {a : Addr} {o : HO} {t' : Nat} (I : Inv X pins σ H s) (k : ∀ b u, s.heap.get? b = some u → h'.get? b = some u) (hp : s.heap.objs.size ≤ a) (new : ObjOk X.prog X.w (upd H a o) h' a o) :
    Inv X pins σ (upd H a o) { s with heap := h', toks := t' } := I.un (Un.laid k hp (I.hok.fresh hp)) (I.hok.laid k hp new)
theorem Inv.write {x e : Addr} {o : HO} {t' : Nat} (I : Inv X pins σ H s) (mu : Mut (H x)) (he : e = x ∨ H e = some (.own x)) (k : ∀ b u, b ≠ e → s.heap.get? b = some u → h'.get? b = some u) (heo : ∃ u, h'.get? e = some u)
    (new : ObjOk X.prog X.w (upd H x o) h' x o) : Inv X pins σ (upd H x o) { s with heap := h', toks := t' } := I.un (Un.write mu he k heo) (I.hok.write mu he k heo new)
theorem Inv.pins_of {pins' : List (Addr × Obj)} (I : Inv X pins σ H s) (h : ∀ p ∈ pins', s.heap.get? p.1 = some p.2 ∧ H p.1 = none ∧ p.1 ≠ X.env.locals ∧ p.1 ∉ X.fs ∧ ∀ v, p.2.data ≠ .cell v) : Inv X pins' σ H s :=
  ⟨I.ok, I.os, I.bare, I.base, I.loc, I.cell, I.free, I.freeC, fun p hp => (List.mem_append.mp hp).elim (fun z => I.pin p (List.mem_append_left _ z)) (h p), I.hok, I.len⟩

theorem nodup_ix {N : List Str} (hN : N.Nodup) {i j : Nat} {x : Str} (a : N[i]? = some x) (b : N[j]? = some x) : i = j := by
  obtain ⟨h1, e1⟩ := List.getElem?_eq_some_iff.mp a
  obtain ⟨h2, e2⟩ := List.getElem?_eq_some_iff.mp b
  exact (List.getElem_inj hN).mp (e1.trans e2.symm)

theorem store_ok2 {M : Model} {A : Around} {E : Value → Shared → Prop} {i : Nat} {x : Str} {v : V} {u : Value} {Q : Unit → Shared → Prop} (I : Inv X pins σ H s) (hN : X.N.Nodup) (hi : X.N[i]? = some x) (hx : Loc X.env.scope x) (r : RelV v u)
    (h : ∀ s', Inv X pins (σ.set i (some v)) H s' → (∃ a, Heap.SameBut a s.heap s'.heap ∧ (a = X.env.locals ∨ X.env.cells.lookup x = some a)) → Q () s') (hf : autoParam (X.fn x = true ∨ X.env.scope.names.lookup x = some .local) Internal.aut0._auto_1) : wpAny M A (storeName X.env x u) Q E s := by
  obtain ⟨m, hn, hl⟩ := id I.loc
  have hcls : (X.env.scope.kind == .class || (X.env.scope.kind == .module && X.env.locals != X.env.globals)) = false := by rw [I.ok.kind]; rfl
  have hiσ : i < σ.length := by rw [I.len]; exact (List.getElem?_eq_some_iff.mp hi).1
  have cne := I.cne
  have tracked : ∀ {a : Addr} {h' : Heap}, (∃ o, s.heap.get? a = some o ∧ H a = none) → Heap.SameBut a s.heap h' → HOk X.prog X.w H h' := fun {a h'} ha hs b ob e => by
    obtain ⟨_, _, hfree⟩ := ha
    refine (I.hok b ob e).stay (fun c w' hc q => (hs.2 c ?_).trans q) (fun _ q => q) fun _ _ q => q
    rintro rfl
    rcases hc with rfl | hc
    · rw [hfree] at e; cases e
    · rw [hfree] at hc; cases hc
  rcases hx with hk | hk
  · refine wpAny_storeName_local hk hn (fun h' hn' hs => ?_) hcls
    obtain ⟨oL, _, _, hoL, _⟩ := id hn
    refine h _ ⟨I.ok, I.os, I.bare, ⟨fun b o e n hb hx => ?_, fun b o e n hb hx => ?_, I.base.free, fun b o e hx => ?_, I.base.tups, I.base.frzs, I.base.tbls⟩, ⟨_, hn', fun j y v' e1 e2 e3 => ?_⟩, fun y c e => ?_, I.free, I.freeC, fun p hp => ?_, tracked ⟨oL, hoL, I.free⟩ hs, by simpa using I.len⟩ ⟨_, hs, .inl rfl⟩
    · exact (hs.2 b (Nat.ne_of_lt (Nat.lt_of_lt_of_le (Heap.lt_size e) I.ok.above))).trans (I.base.keep b o e n hb hx)
    · obtain ⟨sl, e1⟩ := I.base.slot b o e n hb hx
      exact ⟨sl, (hs.2 b (Nat.ne_of_lt (Nat.lt_of_lt_of_le (Heap.lt_size e) I.ok.above))).trans e1⟩
    · obtain ⟨o', e1⟩ := I.base.there b o e hx
      exact ⟨o', (hs.2 b (Nat.ne_of_lt (Nat.lt_of_lt_of_le (Heap.lt_size e) I.ok.above))).trans e1⟩
    · by_cases hj : j = i
      · subst hj
        rw [hi] at e1; cases e1
        rw [List.getElem?_set_self hiσ] at e2
        cases e2
        exact ⟨u, r, .inl ⟨hk, by simp⟩⟩
      · rw [List.getElem?_set_ne (Ne.symm hj)] at e2
        obtain ⟨u', r', q⟩ := hl j y v' e1 e2 e3
        refine ⟨u', r', ?_⟩
        rcases q with ⟨k, e⟩ | ⟨k, c, e, z⟩
        · refine .inl ⟨k, ?_⟩
          have : y ≠ x := fun e => hj (nodup_ix hN e1 (e ▸ hi))
          simp [this, e]
        · exact .inr ⟨k, c, e, z.sameBut hs (cne y c e)⟩
    · obtain ⟨w', z⟩ := I.cell y c e
      exact ⟨w', z.sameBut hs (cne y c e)⟩
    · obtain ⟨e, n, ne, nf, d⟩ := I.pin p hp
      exact ⟨(hs.2 p.1 ne).trans e, n, ne, nf, d⟩
  · have hfn : X.fn x = true := by
      rcases hf with z | z
      · exact z
      · rw [z] at hk; cases hk
    obtain ⟨c, hc⟩ := I.ok.has x (.inl hk)
    obtain ⟨w', z⟩ := I.cell x c hc
    refine wpAny_storeName_cell I.ok.kind hk hc z (fun h' hc' hs => ?_)
    obtain ⟨oc, hoc, hocd⟩ := id z
    refine h { s with heap := h' } ⟨I.ok, I.os, I.bare, ⟨fun b o e n hb hx => ?_, fun b o e n hb hx => ?_, I.base.free, fun b o e hx => ?_, I.base.tups, I.base.frzs, I.base.tbls⟩, ⟨m, hn.sameBut hs (Ne.symm (cne x c hc)), fun j y v' e1 e2 e3 => ?_⟩, fun y c' e => ?_, I.free, I.freeC, fun p hp => ?_, tracked ⟨oc, hoc, I.freeC x c hc⟩ hs, by simpa using I.len⟩ ⟨c, hs, .inr hc⟩
    · exact (hs.2 b (Nat.ne_of_lt (Nat.lt_of_lt_of_le (Heap.lt_size e) (I.ok.cab x c hfn hc)))).trans (I.base.keep b o e n hb hx)
    · obtain ⟨sl, e1⟩ := I.base.slot b o e n hb hx
      exact ⟨sl, (hs.2 b (Nat.ne_of_lt (Nat.lt_of_lt_of_le (Heap.lt_size e) (I.ok.cab x c hfn hc)))).trans e1⟩
    · obtain ⟨o', e1⟩ := I.base.there b o e hx
      exact ⟨o', (hs.2 b (Nat.ne_of_lt (Nat.lt_of_lt_of_le (Heap.lt_size e) (I.ok.cab x c hfn hc)))).trans e1⟩
    · by_cases hj : j = i
      · subst hj
        rw [hi] at e1; cases e1
        rw [List.getElem?_set_self hiσ] at e2
        cases e2
        exact ⟨u, r, .inr ⟨.inl hk, c, hc, hc'⟩⟩
      · rw [List.getElem?_set_ne (Ne.symm hj)] at e2
        obtain ⟨u', r', q⟩ := hl j y v' e1 e2 e3
        refine ⟨u', r', ?_⟩
        rcases q with q | ⟨k, c', e, z'⟩
        · exact .inl q
        · refine .inr ⟨k, c', e, z'.sameBut hs ?_⟩
          rintro rfl
          exact hj (nodup_ix hN e1 (I.ok.inj _ _ _ e hc ▸ hi))
    · by_cases hcc : c' = c
      · subst hcc; exact ⟨_, hc'⟩
      · obtain ⟨w2, z2⟩ := I.cell y c' e
        exact ⟨w2, z2.sameBut hs hcc⟩
    · obtain ⟨e, n, ne, nf, d⟩ := I.pin p hp
      refine ⟨(hs.2 p.1 ?_).trans e, n, ne, nf, d⟩
      intro q
      rw [q, hoc] at e
      have q' : oc = p.2 := Option.some.inj e
      exact d w' (by rw [← q']; exact hocd)
theorem store_ok {M : Model} {A : Around} {E : Value → Shared → Prop} {i : Nat} {x : Str} {v : V} {u : Value} {Q : Unit → Shared → Prop} (I : Inv X pins σ H s) (hN : X.N.Nodup) (hi : X.N[i]? = some x) (hx : Loc X.env.scope x) (r : RelV v u)
    (h : ∀ s', Inv X pins (σ.set i (some v)) H s' → Q () s') (hf : autoParam (X.fn x = true ∨ X.env.scope.names.lookup x = some .local) Internal.aut0._auto_1) : wpAny M A (storeName X.env x u) Q E s :=
  store_ok2 I hN hi hx r (fun s' I' _ => h s' I') hf
end

noncomputable abbrev XK := Value → Option Addr → Hp → Prop
noncomputable abbrev St := List (Option V)
noncomputable abbrev VK := V → Hp → Prop
noncomputable abbrev TE := St → Hp → VK → Prop
noncomputable abbrev TT := St → Hp → (Bool → Hp → Prop) → Prop
noncomputable abbrev TA := St → Hp → (List V → Hp → Prop) → Prop
set_option genInjectivity false in
set_option genSizeOf false in
structure Ends where
  nx : St → Hp → Prop
  rt : VK
  bk : St → Hp → Prop := fun _ _ => False
  ct : St → Hp → Prop := fun _ _ => False
noncomputable abbrev TS := Ends → St → Hp → Prop

noncomputable def EP (X : Cx) (pins : List (Addr × Obj)) (σ : St) (Q : VK) (u : Value) (s' : Shared) : Prop := ∃ v H', Inv X pins σ H' s' ∧ RelV v u ∧ Q v H'
noncomputable def TP (X : Cx) (pins : List (Addr × Obj)) (σ : St) (Q : Bool → Hp → Prop) (b : Bool) (s' : Shared) : Prop := ∃ H', Inv X pins σ H' s' ∧ Q b H'
noncomputable def AP (X : Cx) (pins : List (Addr × Obj)) (σ : St) (Q : List V → Hp → Prop) (us : List Value) (s' : Shared) : Prop := ∃ vs H', Inv X pins σ H' s' ∧ Vals vs us ∧ Q vs H'
noncomputable def SP (X : Cx) (pins : List (Addr × Obj)) (D : Ends) (f : Flow) (s' : Shared) : Prop :=
  match f with
  | .next => ∃ σ' H', Inv X pins σ' H' s' ∧ D.nx σ' H'
  | .brk => ∃ σ' H', Inv X pins σ' H' s' ∧ D.bk σ' H'
  | .cont => ∃ σ' H', Inv X pins σ' H' s' ∧ D.ct σ' H'
  | .ret u => ∃ v σ' H', Inv X pins σ' H' s' ∧ RelV v u ∧ D.rt v H'

noncomputable def PE (X : Cx) (e : Expr) (t : TE) : Prop :=
  ∀ (pins : List (Addr × Obj)) (s : Shared) (σ : St) (H : Hp) (Q : VK), Inv X pins σ H s → t σ H Q → wpAny (model X.prog X.w) X.A (eval e X.env) (EP X pins σ Q) X.xe s
noncomputable def PT (X : Cx) (e : Expr) (t : TT) : Prop :=
  ∀ (pins : List (Addr × Obj)) (s : Shared) (σ : St) (H : Hp) (Q : Bool → Hp → Prop), Inv X pins σ H s → t σ H Q → wpAny (model X.prog X.w) X.A (isTrue e X.env (eval e X.env)) (TP X pins σ Q) X.xe s
noncomputable def PW (X : Cx) (e : Expr) (t : TT) : Prop :=
  ∀ (whole : Sem Value) (pins : List (Addr × Obj)) (s : Shared) (σ : St) (H : Hp) (Q : Bool → Hp → Prop), Inv X pins σ H s → t σ H Q → wpAny (model X.prog X.w) X.A (isTrue e X.env whole) (TP X pins σ Q) X.xe s
theorem PW.pt {X : Cx} {e : Expr} {t : TT} (h : PW X e t) : PT X e t := h _
noncomputable def PA (X : Cx) (es : List Expr) (t : TA) : Prop :=
  ∀ (pos : Pos) (pins : List (Addr × Obj)) (s : Shared) (σ : St) (H : Hp) (Q : List V → Hp → Prop), Inv X pins σ H s → t σ H Q → wpAny (model X.prog X.w) X.A (spliced (backTo pos (starEach es X.env))) (AP X pins σ Q) X.xe s
noncomputable def PS (X : Cx) (st : Stmt) (t : TS) : Prop :=
  ∀ (pins : List (Addr × Obj)) (s : Shared) (σ : St) (H : Hp) (D : Ends), Inv X pins σ H s → t D σ H → wpAny (model X.prog X.w) X.A (exec st X.env) (SP X pins D) X.xe s
noncomputable def PSs (X : Cx) (st : List Stmt) (t : TS) : Prop :=
  ∀ (pins : List (Addr × Obj)) (s : Shared) (σ : St) (H : Hp) (D : Ends), Inv X pins σ H s → t D σ H → wpAny (model X.prog X.w) X.A (execs st X.env) (SP X pins D) X.xe s
theorem thn {α : Type} {t : Sem α} {Q Q' : α → Shared → Prop} {M : Model} {A : Around} {E : Value → Shared → Prop} {s : Shared} (h : wpAny M A t Q E s) (hQ : ∀ a s, Q a s → Q' a s) : wpAny M A t Q' E s := wpAny_mono h hQ fun _ _ x => x
end Internal

namespace Internal
open PySem PySem.Spec PyProof.Rows
section
variable {X : Cx}

noncomputable def tVar (i : Nat) : TE := fun σ H Q => ∃ v, σ[i]? = some (some v) ∧ Q v H
noncomputable abbrev tC (v : V) : TE := fun _ H Q => Q v H
theorem pe_var {i : Nat} {x : Str} {pos : Pos} (hN : X.N[i]? = some x) (hv : Vis X.env.scope x) (hd : autoParam ((x == ("__debug__" : Str)) = false) Internal.aut1._auto_1) (hcd : autoParam ((x == ("__classdict__" : Str)) = false) Internal.aut1._auto_1) : PE X (.Name x pos) (tVar i) := by
  intro pins s σ H Q I h
  obtain ⟨v, e, h⟩ := h
  obtain ⟨m, hn, hl⟩ := I.loc
  obtain ⟨u, r, l⟩ := hl i x v hN e hv
  have fin : EP X pins σ Q u s := ⟨v, H, I, r, h⟩
  rcases l with ⟨hk, hm⟩ | ⟨hk, c, hc, hcell⟩
  · exact wpAny_Name (wpAny_loadName_local I.ok.kind hk hn hm fin) hd
  · rcases hk with hk | hk
    · exact wpAny_Name (wpAny_loadName_cell I.ok.kind hk hc hcell fin) hd
    · exact wpAny_Name (wpAny_loadName_free I.ok.kind hk hc hcell fin hcd) hd
theorem pe_int {i j pos} : PE X (.Constant (.int i) j pos) (tC (.int i)) := fun _ _ _ H _ I h => wpAny_Constant_int ⟨.int i, H, I.tok _, ⟨_, rfl⟩, h⟩
theorem pe_bl {b j pos} : PE X (.Constant (.bool b) j pos) (tC (.bl b)) := fun _ _ _ H _ I h => Constant_bool ⟨.bl b, H, I, rfl, h⟩
theorem pe_non {j pos} : PE X (.Constant .none j pos) (tC .non) := fun _ _ _ H _ I h => Constant_none ⟨.non, H, I, rfl, h⟩
noncomputable def Gl (X : Cx) (x : Str) : Prop := X.env.kindOf x = some .globalImplicit
theorem ld_glob {E : Value → Shared → Prop} {pins : List (Addr × Obj)} {s : Shared} {σ : St} {H : Hp} {x : Str} {u : Value} {pos : Pos} {Q : Value → Shared → Prop} (I : Inv X pins σ H s) (hg : Gl X x) (hm : X.mg x = some u) (h : Q u s)
    (hd : autoParam ((x == ("__debug__" : Str)) = false) Internal.aut1._auto_1) : wpAny (model X.prog X.w) X.A (eval (.Name x pos) X.env) Q E s :=
  Calls.Name_function_global I.ok.kind hg (Calls.loadGlobal_global (by rw [I.ok.glob]; exact I.mod.glob.keeps I.bk) hm h) hd
theorem ld_blt {E : Value → Shared → Prop} {pins : List (Addr × Obj)} {s : Shared} {σ : St} {H : Hp} {x : Str} {u : Value} {pos : Pos} {Q : Value → Shared → Prop} (I : Inv X pins σ H s) (hg : Gl X x) (hm : X.mg x = none) (hv : bootBuiltins x = some u) (h : Q u s)
    (hn : autoParam (x ≠ "__name__") Internal.aut1._auto_1) (hd : autoParam ((x == ("__debug__" : Str)) = false) Internal.aut1._auto_1) : wpAny (model X.prog X.w) X.A (eval (.Name x pos) X.env) Q E s := by
  obtain ⟨mb, h1, h2⟩ := I.mod.blt
  exact Calls.Name_function_global I.ok.kind hg (Calls.loadGlobal_builtin (by rw [I.ok.glob]; exact I.mod.glob.keeps I.bk) hm (by rw [I.ok.blt]; exact h1.keeps I.bk) ((h2 x hn).trans hv) h) hd
theorem pe_bltn {x : Str} {v : V} {u : Value} {pos : Pos} (hg : Gl X x) (hm : X.mg x = none) (hv : bootBuiltins x = some u) (r : RelV v u) (hn : autoParam (x ≠ "__name__") Internal.aut1._auto_1) (hd : autoParam ((x == ("__debug__" : Str)) = false) Internal.aut1._auto_1) : PE X (.Name x pos) (tC v) :=
  fun _ _ _ H _ I h => ld_blt I hg hm hv ⟨v, H, I, r, h⟩ hn hd

noncomputable def t2I (ta tb : TE) (k : Int → Int → Hp → Prop) : St → Hp → Prop := fun σ H => ta σ H fun x H1 => tb σ H1 fun y H2 => ∃ i j, x = .int i ∧ y = .int j ∧ k i j H2
variable {a b : Expr} {ta tb : TE} {pos : Pos}
noncomputable def tCmp (p : Int → Int → Bool) (ta tb : TE) : TE := fun σ H Q => t2I ta tb (fun i j H2 => Q (.bl (p i j)) H2) σ H
noncomputable abbrev tLt : TE → TE → TE := tCmp fun i j => decide (i < j)
noncomputable abbrev tLe : TE → TE → TE := tCmp fun i j => decide (i ≤ j)
noncomputable abbrev tGt : TE → TE → TE := tCmp fun i j => decide (j < i)
noncomputable abbrev tGe : TE → TE → TE := tCmp fun i j => decide (j ≤ i)
noncomputable abbrev tEqI : TE → TE → TE := tCmp fun i j => decide (i = j)
noncomputable abbrev tNeI : TE → TE → TE := tCmp fun i j => !decide (i = j)
variable {tA tB' : TT} {rest : List Expr}
noncomputable abbrev tAnd (t u : TT) : TT := fun σ H Q => t σ H fun c H1 => if c = true then u σ H1 Q else Q false H1
noncomputable abbrev tOr (t u : TT) : TT := fun σ H Q => t σ H fun c H1 => if c = true then Q true H1 else u σ H1 Q
noncomputable abbrev tNot (t : TT) : TT := fun σ H Q => t σ H fun c H1 => Q (!c) H1
theorem pw_and1 (ha : PT X a tA) : PW X (.BoolOp .And [a] pos) tA := by
  intro wh pins s σ H Q I h
  refine isTrue_and (thn (ha pins s σ H Q I h) fun c s1 e => ?_)
  cases c with
  | true => exact isTrue_and_nil e
  | false => exact e
theorem pw_or1 (ha : PT X a tA) : PW X (.BoolOp .Or [a] pos) tA := by
  intro wh pins s σ H Q I h
  refine isTrue_or (thn (ha pins s σ H Q I h) fun c s1 e => ?_)
  cases c with
  | false => exact isTrue_or_nil e
  | true => exact e
theorem pw_and (ha : PT X a tA) (hb : PW X (.BoolOp .And (b :: rest) pos) tB') : PW X (.BoolOp .And (a :: b :: rest) pos) (tAnd tA tB') := by
  intro wh pins s σ H Q I h
  refine isTrue_and (thn (ha pins s σ H _ I h) fun c s1 ⟨H1, I1, q1⟩ => ?_)
  cases c with
  | true => exact hb wh pins s1 σ H1 Q I1 q1
  | false => exact ⟨H1, I1, q1⟩
theorem pw_or (ha : PT X a tA) (hb : PW X (.BoolOp .Or (b :: rest) pos) tB') : PW X (.BoolOp .Or (a :: b :: rest) pos) (tOr tA tB') := by
  intro wh pins s σ H Q I h
  refine isTrue_or (thn (ha pins s σ H _ I h) fun c s1 ⟨H1, I1, q1⟩ => ?_)
  cases c with
  | true => exact ⟨H1, I1, q1⟩
  | false => exact hb wh pins s1 σ H1 Q I1 q1
theorem pt_not (ha : PT X a tA) : PT X (.UnaryOp .Not a pos) (tNot tA) := by
  intro pins s σ H Q I h
  exact isTrue_not (ha pins s σ H (fun c H1 => Q (!c) H1) I h)
noncomputable def tAndV (ta tb : TE) : TE := fun σ H Q => ta σ H fun x H1 => ∃ c, x = .bl c ∧ if c = true then tb σ H1 Q else Q (.bl false) H1
theorem pe_one {op} {t : TE} (h : PE X a t) : PE X (.BoolOp op [a] pos) t := fun pins s σ H Q I hw => BoolOp_one (h pins s σ H Q I hw)
theorem pe_and (ha : PE X a ta) (hb : PE X (.BoolOp .And (b :: rest) pos) tb) : PE X (.BoolOp .And (a :: b :: rest) pos) (tAndV ta tb) := by
  intro pins s σ H Q I h
  refine BoolOp_and (thn (ha pins s σ H _ I h) fun v s1 zz => ?_)
  obtain ⟨x, H1, I1, r1, q1⟩ := zz
  obtain ⟨c, rfl, q1⟩ := q1
  cases r1
  refine wpAny_truthy_bool ?_
  cases c with
  | true => exact hb pins s1 σ H1 Q I1 q1
  | false => exact ⟨.bl false, H1, I1, rfl, q1⟩
noncomputable abbrev tIf (t : TT) (ta tb : TE) : TE := fun σ H Q => t σ H fun c H1 => if c = true then ta σ H1 Q else tb σ H1 Q
theorem pe_ifExp {c : Expr} (hc : PT X c tA) (ha : PE X a ta) (hb : PE X b tb) : PE X (.IfExp c a b pos) (tIf tA ta tb) := by
  intro pins s σ H Q I h
  refine wpAny_IfExp (thn (hc pins s σ H _ I h) fun d s1 ⟨H1, I1, q1⟩ => ?_)
  cases d with
  | true => exact ha pins s1 σ H1 Q I1 q1
  | false => exact hb pins s1 σ H1 Q I1 q1
end
end Internal

namespace Internal
open PySem PySem.Spec PyProof.Rows

noncomputable def SqL (K : PySem.W.Frag) (H : Hp) (a : Addr) (xs : List V) : Prop :=
  Rd H a (.lst xs) ∨
    ∃ (o : Obj) (its : Array Value) (n : Nat), K.lookup a = some o ∧ o.cls = .type "list" ∧ o.dict = none ∧ o.data = .seq its n ∧ its.size ≤ sizeLine ∧ Vals xs its.toList
noncomputable def SqT (K : PySem.W.Frag) (H : Hp) (a : Addr) (xs : List V) : Prop :=
  Rd H a (.tup xs) ∨
    ∃ (o : Obj) (its : Array Value) (n : Nat), K.lookup a = some o ∧ o.cls = .type "tuple" ∧ o.data = .seq its n ∧ its.size ≤ sizeLine ∧ Vals xs its.toList
noncomputable def absV : Value → Option V
  | .none => some .non
  | .bool b => some (.bl b)
  | .int i _ => some (.int i)
  | .str x _ => some (.str x)
  | .bytes b _ => some (.byt b)
  | .float b _ => some (.flt b)
  | .ref a => some (.ref a)
  | .type n => some (.ty n)
  | _ => none
theorem RelV.abs {x : V} {u : Value} (r : RelV x u) : absV u = some x := by
  cases x with
  | non => cases r; rfl
  | bl _ => cases r; rfl
  | int _ => obtain ⟨t, rfl⟩ := r; rfl
  | str _ => obtain ⟨t, rfl⟩ := r; rfl
  | byt _ => obtain ⟨t, rfl⟩ := r; rfl
  | flt _ => obtain ⟨t, rfl⟩ := r; rfl
  | ref _ => cases r; rfl
  | ty _ => cases r; rfl
theorem RelV.inj {x y : V} {u : Value} (r : RelV x u) (q : RelV y u) : x = y := Option.some.inj (r.abs.symm.trans q.abs)
theorem Vals.inj : ∀ {xs ys : List V} {us : List Value}, Vals xs us → Vals ys us → xs = ys
  | _, _, _, .nil, .nil => rfl
  | _, _, _, .cons r t, .cons r' t' => by rw [r.inj r', Vals.inj t t']
section
variable {X : Cx} {pins : List (Addr × Obj)} {σ : St} {H : Hp} {s : Shared} {a : Addr} {xs ys : List V}
theorem SqL.of {K : PySem.W.Frag} (h : H a = some (.lst xs)) : SqL K H a xs := .inl (.inl h)
theorem SqT.of {K : PySem.W.Frag} (h : H a = some (.tup xs)) : SqT K H a xs := .inl (.inl h)
theorem Inv.list (I : Inv X pins σ H s) (h : SqL X.K H a xs) : ∃ its : List Value, Vals xs its ∧ PlainL s.heap a its.toArray ∧ xs.length ≤ sizeLine := by
  rcases h with h | ⟨o, its, n, hk, hc, hd, hs, hz, r⟩
  · obtain ⟨z, its, n, r, e⟩ := h.ok I.hok
    exact ⟨its, r, ⟨_, n, e, rfl, rfl, rfl⟩, z⟩
  · refine ⟨its.toList, r, ⟨o, n, I.kIn a o hk, hc, hd, by simpa using hs⟩, ?_⟩
    have e := r.length
    simp only [Array.length_toList] at e
    omega
theorem Inv.tuple (I : Inv X pins σ H s) (h : SqT X.K H a xs) : ∃ its : List Value, Vals xs its ∧ IsTup s.heap a its.toArray ∧ xs.length ≤ sizeLine := by
  rcases h with h | ⟨o, its, n, hk, hc, hs, hz, r⟩
  · obtain ⟨z, its, r, p⟩ := h.ok I.hok
    exact ⟨its, r, p, z⟩
  · refine ⟨its.toList, r, ⟨o, I.kIn a o hk, hc, n, by simpa using hs⟩, ?_⟩
    have e := r.length
    simp only [Array.length_toList] at e
    omega
theorem Inv.list_inj (I : Inv X pins σ H s) (h : SqL X.K H a xs) (h' : SqL X.K H a ys) : xs = ys := by
  obtain ⟨its, r, ⟨o, n, e, _, _, d⟩, _⟩ := I.list h
  obtain ⟨its', r', ⟨o', n', e', _, _, d'⟩, _⟩ := I.list h'
  rw [e] at e'; cases e'
  rw [d] at d'
  injection d' with d1 _
  have : its = its' := by simpa using congrArg Array.toList d1
  subst this
  exact r.inj r'
end

noncomputable abbrev Cx.wish (X : Cx) (E : Value → Shared → Prop) : Cx := { X with xe := E }
noncomputable abbrev Cx.nox (X : Cx) : Cx := X.wish fun _ _ => False
theorem Cx.Ok.wish {X : Cx} (ok : X.Ok) (E : Value → Shared → Prop) : (X.wish E).Ok :=
  ⟨ok.mod, ok.kind, ok.glob, ok.blt, ok.above, ok.inj, ok.has, ok.cab, ok.hd, ok.frames, ok.stk, ok.exf, ok.bs, ok.bsz, ok.noex, ok.exfs, ok.funs, ok.frf⟩
theorem Cx.Ok.unwish {X : Cx} {E : Value → Shared → Prop} (ok : (X.wish E).Ok) : X.Ok :=
  ⟨ok.mod, ok.kind, ok.glob, ok.blt, ok.above, ok.inj, ok.has, ok.cab, ok.hd, ok.frames, ok.stk, ok.exf, ok.bs, ok.bsz, ok.noex, ok.exfs, ok.funs, ok.frf⟩
section
variable {X : Cx} {pins : List (Addr × Obj)} {σ : St} {H : Hp} {s : Shared} {E : Value → Shared → Prop}
theorem Inv.wish (I : Inv X pins σ H s) (E : Value → Shared → Prop) : Inv (X.wish E) pins σ H s := ⟨I.ok.wish E, I.os, I.bare, I.base, I.loc, I.cell, I.free, I.freeC, I.pin, I.hok, I.len⟩
theorem Inv.unwish (I : Inv (X.wish E) pins σ H s) : Inv X pins σ H s := ⟨I.ok.unwish, I.os, I.bare, I.base, I.loc, I.cell, I.free, I.freeC, I.pin, I.hok, I.len⟩
theorem SP.unwish {D : Ends} {f : Flow} {s' : Shared} (h : SP (X.wish E) pins D f s') : SP X pins D f s' := by
  cases f with
  | next => obtain ⟨σ', H', I, q⟩ := h; exact ⟨σ', H', I.unwish, q⟩
  | brk => obtain ⟨σ', H', I, q⟩ := h; exact ⟨σ', H', I.unwish, q⟩
  | cont => obtain ⟨σ', H', I, q⟩ := h; exact ⟨σ', H', I.unwish, q⟩
  | ret u => obtain ⟨v, σ', H', I, r, q⟩ := h; exact ⟨v, σ', H', I.unwish, r, q⟩
theorem PSs.nox {st : List Stmt} {t : TS} (h : PSs X.nox st t) : PSs X st t := fun pins s σ H D I hw =>
  wpAny_mono (h pins s σ H D (I.wish _) hw) (fun _ _ q => q.unwish) fun _ _ z => False.elim z
end

section
variable {X : Cx} {st : Stmt} {rest : List Stmt} {t u : TS} {e : Expr} {te : TE} {pos : Pos}
noncomputable abbrev tNext : TS := fun D σ H => D.nx σ H
noncomputable abbrev tSeq (t u : TS) : TS := fun D σ H => t { D with nx := u D } σ H
theorem pss_nil : PSs X [] tNext := fun _ _ σ H _ I h => wpAny_execs_nil ⟨σ, H, I, h⟩
theorem pss_cons (h1 : PS X st t) (h2 : PSs X rest u) : PSs X (st :: rest) (tSeq t u) := by
  intro pins s σ H D I h
  refine wpAny_execs_cons (thn (h1 pins s σ H { D with nx := u D } I h) fun f s1 q => ?_)
  cases f with
  | next =>
    obtain ⟨σ', H', I', q⟩ := q
    exact h2 pins s1 σ' H' D I' q
  | ret v => exact q
  | brk => exact q
  | cont => exact q
theorem pss_one (h1 : PS X st t) : PSs X [st] t := by
  intro pins s σ H D I h
  refine wpAny_execs_cons (thn (h1 pins s σ H D I h) fun f s1 q => ?_)
  cases f with
  | next => exact wpAny_execs_nil q
  | ret v => exact q
  | brk => exact q
  | cont => exact q
noncomputable abbrev tBreak : TS := fun D σ H => D.bk σ H
noncomputable abbrev tCont : TS := fun D σ H => D.ct σ H
theorem Inv.quiet {pins : List (Addr × Obj)} {σ : St} {H : Hp} {s : Shared} (I : Inv X pins σ H s) : interactive X.env = false := by simp [interactive, I.ok.kind]
noncomputable abbrev tDrop (te : TE) : TS := fun D σ H => te σ H fun _ H1 => D.nx σ H1
theorem ps_expr (he : PE X e te) (hs : autoParam (swapsWith e none pos.line X.env = pure false) Internal.aut2._auto_1) : PS X (.Expr e pos) (tDrop te) := by
  intro pins s σ H D I h
  exact wpAny_Expr_any (thn (he pins s σ H _ I h) fun v s1 ⟨x, H1, I1, r1, q1⟩ => ⟨σ, H1, I1, q1⟩) I.quiet hs
noncomputable abbrev tRet (te : TE) : TS := fun D σ H => te σ H D.rt
theorem ps_ret (he : PE X e te) : PS X (.Return (some e) pos) (tRet te) := by
  intro pins s σ H D I h
  exact wpAny_Return_some (thn (he pins s σ H _ I h) fun v s1 ⟨x, H1, I1, r1, q1⟩ => ⟨x, σ, H1, I1, r1, q1⟩)
noncomputable abbrev tRetN : TS := fun D _ H => D.rt .non H
noncomputable abbrev tIfS (c : TT) (t u : TS) : TS := fun D σ H => c σ H fun b H1 => if b = true then t D σ H1 else u D σ H1
theorem ps_if {c : Expr} {a b : List Stmt} {tc : TT} (hc : PT X c tc) (ha : PSs X a t) (hb : PSs X b u) : PS X (.If c a b pos) (tIfS tc t u) := by
  intro pins s σ H D I h
  refine wpAny_If (thn (hc pins s σ H _ I h) fun d s1 ⟨H1, I1, q1⟩ => ?_)
  cases d with
  | true => exact ha pins s1 σ H1 D I1 q1
  | false => exact hb pins s1 σ H1 D I1 q1
end

noncomputable abbrev TG := V → St → Hp → (St → Hp → Prop) → Prop
noncomputable abbrev TGs := List V → St → Hp → (St → Hp → Prop) → Prop
noncomputable def PG (X : Cx) (target : Expr) (t : TG) : Prop :=
  ∀ (pins : List (Addr × Obj)) (s : Shared) (σ : St) (H : Hp) (v : V) (u : Value) (Q : St → Hp → Prop), Inv X pins σ H s → RelV v u → t v σ H Q →
    wpAny (model X.prog X.w) X.A (assign target X.env u) (fun _ s' => ∃ σ' H', Inv X pins σ' H' s' ∧ Q σ' H') X.xe s
noncomputable def PGs (X : Cx) (ts : List Expr) (t : TGs) : Prop :=
  ∀ (pins : List (Addr × Obj)) (s : Shared) (σ : St) (H : Hp) (vs : List V) (us : List Value) (Q : St → Hp → Prop), Inv X pins σ H s → Vals vs us → t vs σ H Q →
    wpAny (model X.prog X.w) X.A (assignInOrder ((assignEach ts X.env).map (·.2)) us) (fun _ s' => ∃ σ' H', Inv X pins σ' H' s' ∧ Q σ' H') X.xe s
noncomputable abbrev TSet := V → V → V → Hp → (Hp → Prop) → Prop
noncomputable def PSet (X : Cx) (t : TSet) : Prop :=
  ∀ (pins : List (Addr × Obj)) (s : Shared) (σ : St) (H : Hp) (o i v : V) (ov iv u : Value) (Q : Hp → Prop), Inv X pins σ H s → RelV o ov → RelV i iv → RelV v u → t o i v H Q →
    wpAny (model X.prog X.w) X.A (setItem ov iv u) (fun _ s' => ∃ H', Inv X pins σ H' s' ∧ Q H') X.xe s
noncomputable abbrev TIp := V → V → Hp → VK → Prop
noncomputable def PIp (X : Cx) (op : Operator) (t : TIp) : Prop :=
  ∀ (pins : List (Addr × Obj)) (s : Shared) (σ : St) (H : Hp) (x y : V) (v u : Value) (Q : VK), Inv X pins σ H s → RelV x v → RelV y u → t x y H Q →
    wpAny (model X.prog X.w) X.A (inplaceOp op v u) (EP X pins σ Q) X.xe s
section
variable {X : Cx} {pos : Pos}
noncomputable abbrev gName (i : Nat) : TG := fun v σ H Q => Q (σ.set i (some v)) H
theorem pg_name {i : Nat} {x : Str} (hN : X.N.Nodup) (hi : X.N[i]? = some x) (hx : Loc X.env.scope x) (hf : autoParam (X.fn x = true ∨ X.env.scope.names.lookup x = some .local) Internal.aut0._auto_1) : PG X (.Name x pos) (gName i) := by
  intro pins s σ H v u Q I r h
  exact wpAny_assign_Name (store_ok I hN hi hx r (fun s' I' => ⟨_, H, I', h⟩) hf)
noncomputable def gNil : TGs := fun vs σ H Q => vs = [] ∧ Q σ H
noncomputable def gCons (t : TG) (u : TGs) : TGs := fun vs σ H Q => ∃ v r, vs = v :: r ∧ t v σ H fun σ' H' => u r σ' H' Q
theorem pgs_nil : PGs X [] gNil := by
  intro pins s σ H vs us Q I r h
  obtain ⟨e, h⟩ := h
  subst e
  cases r
  exact assignInOrder_nil ⟨σ, H, I, h⟩
theorem pgs_cons {e : Expr} {es : List Expr} {t : TG} {u : TGs} (h1 : PG X e t) (h2 : PGs X es u)
    (hs : autoParam ((assignEach (e :: es) X.env).map (·.2) = assign e X.env :: (assignEach es X.env).map (·.2)) Internal.aut2._auto_1) : PGs X (e :: es) (gCons t u) := by
  intro pins s σ H vs us Q I r h
  obtain ⟨v, vr, e1, h⟩ := h
  subst e1
  cases r with
  | cons r rr =>
    rw [hs]
    refine assignInOrder_cons (thn (h1 pins s σ H _ _ _ I r h) fun _ s1 zz => ?_)
    obtain ⟨σ1, H1, I1, q1⟩ := zz
    exact h2 pins s1 σ1 H1 _ _ Q I1 rr q1
noncomputable def gTup (K : PySem.W.Frag) (n : Nat) (t : TGs) : TG := fun v σ H Q => ∃ a xs, v = .ref a ∧ SqT K H a xs ∧ xs.length = n ∧ t xs σ H Q
theorem pg_tup {es : List Expr} {k : Nat} {t : TGs} {n : Nat} (hc : X.calm = true) (h : PGs X es t)
    (hn : autoParam ((assignEach es X.env).length = n) Internal.aut2._auto_1) (hst : autoParam ((assignEach es X.env).findIdx? (·.1) = none) Internal.aut2._auto_1) : PG X (.Tuple es k pos) (gTup X.K n t) := by
  intro pins s σ H v u Q I r hw
  obtain ⟨a, xs, e1, hq, hl, hw⟩ := hw
  subst e1
  cases r
  obtain ⟨its, rv, ht, hz⟩ := I.tuple hq
  refine assign_Tuple_tuple (I.ok.hd hc) ht (by simp [hn, ← hl, rv.length]) hst fun h' hx => ?_
  have I1 : Inv X pins σ H { s with heap := h' } := I.kept (t' := s.toks) fun b o e => hx b o (Nat.ne_of_lt (Heap.lt_size e)) e
  exact h pins _ σ H xs _ Q I1 (by simpa using rv) hw
noncomputable abbrev gSub (to ti : TE) (t : TSet) : TG := fun v σ H Q => to σ H fun o H1 => ti σ H1 fun i H2 => t o i v H2 fun H3 => Q σ H3
theorem pg_sub {o i : Expr} {to ti : TE} {t : TSet} (ho : PE X o to) (hi : PE X i ti) (hs : PSet X t)
    (ha : autoParam (∀ v, assign (.Subscript o i pos) X.env v = (do
      let ov ← holding [v] (eval o X.env)
      let iv ← holding [v, ov] (eval i X.env)
      standAt pos
      holding [v, ov, iv] (setItem ov iv v)
      release [v, ov, iv] [])) Internal.aut3._auto_1) : PG X (.Subscript o i pos) (gSub to ti t) := by
  intro pins s σ H v u Q I r h
  rw [ha]
  refine wpAny_bind (wpAny_holding (thn (ho pins s σ H _ I h) fun ov s1 zz => ?_))
  obtain ⟨x, H1, I1, r1, q1⟩ := zz
  refine wpAny_bind (wpAny_holding (thn (hi pins s1 σ H1 _ I1 q1) fun iv s2 zz => ?_))
  obtain ⟨y, H2, I2, r2, q2⟩ := zz
  refine wpAny_bind (wpAny_standAt (wpAny_bind (wpAny_holding (thn (hs pins s2 σ H2 x y v ov iv u _ I2 r1 r2 r q2) fun _ s3 ⟨H3, I3, q3⟩ => ?_))))
  exact wpAny_release ⟨σ, H3, I3, q3⟩
noncomputable abbrev tAsg (te : TE) (g : TG) : TS := fun D σ H => te σ H fun x H1 => g x σ H1 D.nx
theorem ps_asg {tg e : Expr} {te : TE} {g : TG} (he : PE X e te) (hg : PG X tg g) (hs : autoParam (swapsWithSole [tg] e pos.line X.env = pure false) Internal.aut2._auto_1) (hw : autoParam (swappedStores [tg] e X.env = pure none) Internal.aut2._auto_1)
    (h1 : autoParam ((assignEach [tg] X.env).map (·.2) = [assign tg X.env]) Internal.aut2._auto_1) : PS X (.Assign [tg] e pos) (tAsg te g) := by
  intro pins s σ H D I h
  refine wpAny_Assign_stores (thn (he pins s σ H _ I h) fun v s1 zz => ?_) hs hw
  obtain ⟨x, H1, I1, r1, q1⟩ := zz
  rw [h1]
  exact thn (hg pins s1 σ H1 x v _ I1 r1 q1) fun _ s2 q => q
theorem ps_set {i : Nat} {x : Str} {e : Expr} {te : TE} {pos' : Pos} (hN : X.N.Nodup) (hi : X.N[i]? = some x) (hx : Loc X.env.scope x) (he : PE X e te) (hs : autoParam (swapsWith e (some (.Name x pos')) pos.line X.env = pure false) Internal.aut2._auto_1) (hf : autoParam (X.fn x = true ∨ X.env.scope.names.lookup x = some .local) Internal.aut0._auto_1) :
    PS X (.Assign [.Name x pos'] e pos) (tAsg te (gName i)) := by
  intro pins s σ H D I h
  refine wpAny_Assign_Name (thn (he pins s σ H _ I h) fun v s1 zz => ?_) hs
  obtain ⟨y, H1, I1, r1, q1⟩ := zz
  exact store_ok I1 hN hi hx r1 (fun s2 I2 => ⟨_, H1, I2, q1⟩) hf
noncomputable def tAugS (to ti te : TE) (tget : V → V → Hp → VK → Prop) (tip : TIp) (tset : TSet) : TS := fun D σ H => to σ H fun o H1 => ti σ H1 fun i H2 => tget o i H2 fun x H3 => te σ H3 fun y H4 => tip x y H4 fun z H5 => tset o i z H5 fun H6 => D.nx σ H6
noncomputable def PGet (X : Cx) (t : V → V → Hp → VK → Prop) : Prop :=
  ∀ (pins : List (Addr × Obj)) (s : Shared) (σ : St) (H : Hp) (o i : V) (ov iv : Value) (Q : VK), Inv X pins σ H s → RelV o ov → RelV i iv → t o i H Q →
    wpAny (model X.prog X.w) X.A (getItem ov iv) (EP X pins σ Q) X.xe s
theorem ps_augS {o i e : Expr} {to ti te : TE} {tget : V → V → Hp → VK → Prop} {tip : TIp} {tset : TSet} {op : Operator} {tpos : Pos} (ho : PE X o to) (hi : PE X i ti) (hg : PGet X tget) (he : PE X e te) (hp : PIp X op tip) (hs : PSet X tset)
    (ha : autoParam (∀ ov iv new, augStore i ov iv new = (do holding [new, ov, iv] (setItem ov iv new); release [new, ov, iv] []; pure .next)) Internal.aut4._auto_1) : PS X (.AugAssign (.Subscript o i tpos) op e pos) (tAugS to ti te tget tip tset) := by
  intro pins s σ H D I h
  refine wpAny_AugAssign_SubscriptAny (thn (ho pins s σ H _ I h) fun ov s1 zz => ?_) ha
  obtain ⟨x1, H1, I1, r1, q1⟩ := zz
  refine thn (hi pins s1 σ H1 _ I1 q1) fun iv s2 zz => ?_
  obtain ⟨x2, H2, I2, r2, q2⟩ := zz
  refine thn (hg pins s2 σ H2 x1 x2 ov iv _ I2 r1 r2 q2) fun old s3 zz => ?_
  obtain ⟨x3, H3, I3, r3, q3⟩ := zz
  refine thn (he pins s3 σ H3 _ I3 q3) fun v s4 zz => ?_
  obtain ⟨x4, H4, I4, r4, q4⟩ := zz
  refine thn (hp pins s4 σ H4 x3 x4 old v _ I4 r3 r4 q4) fun new s5 zz => ?_
  obtain ⟨x5, H5, I5, r5, q5⟩ := zz
  exact thn (hs pins s5 σ H5 x1 x2 x5 ov iv new _ I5 r1 r2 r5 q5) fun _ s6 ⟨H6, I6, q6⟩ => ⟨σ, H6, I6, q6⟩
noncomputable def ipI (f : Int → Int → Int) : TIp := fun x y H Q => ∃ i j, x = .int i ∧ y = .int j ∧ Q (.int (f i j)) H
theorem ip_add : PIp X .Add (ipI fun i j => i + j) := by
  intro pins s σ H x y v u Q I r1 r2 h
  obtain ⟨i, j, e1, e2, q⟩ := h
  subst e1; subst e2
  obtain ⟨t, rfl⟩ := r1
  obtain ⟨t', rfl⟩ := r2
  exact iadd_int ⟨.int _, H, I.tok _, ⟨_, rfl⟩, q⟩
theorem ip_sub : PIp X .Sub (ipI fun i j => i - j) := by
  intro pins s σ H x y v u Q I r1 r2 h
  obtain ⟨i, j, e1, e2, q⟩ := h
  subst e1; subst e2
  obtain ⟨t, rfl⟩ := r1
  obtain ⟨t', rfl⟩ := r2
  exact isub_int ⟨.int _, H, I.tok _, ⟨_, rfl⟩, q⟩
end

section
variable {X : Cx} {pos : Pos}
noncomputable def tWhile (c : TT) (tb : TS) : TS := fun D σ H => ∃ W : Nat → St → Hp → Prop, (∃ m, W m σ H) ∧ ∀ m σ H, W m σ H →
  c σ H fun b H1 => if b = true then ∃ N : St → Hp → Prop, (∀ σ' H', N σ' H' → ∃ m', m' < m ∧ W m' σ' H') ∧ tb { D with nx := N, ct := N, bk := D.nx } σ H1 else D.nx σ H1
theorem ps_while {c : Expr} {body : List Stmt} {tc : TT} {tb : TS} (hp : PassesOwn (model X.prog X.w) X.A X.env X.xe) (hc : PT X c tc) (hb : PSs X body tb) : PS X (.While c body [] pos) (tWhile tc tb) := by
  intro pins s σ H D I h
  obtain ⟨W, ⟨m0, w0⟩, turn⟩ := h
  refine wpAny_While (codeAny_whileLoop (fun n s' => ∃ σ' H', Inv X pins σ' H' s' ∧ W n σ' H') ?_ m0 ⟨σ, H, I, w0⟩)
  rintro n s1 ⟨σ1, H1, I1, w1⟩
  refine wpAny_passesOwn hp (thn (hc pins s1 σ1 H1 _ I1 (turn n σ1 H1 w1)) fun b s2 ⟨H2, I2, q2⟩ => ?_)
  cases b with
  | true =>
    obtain ⟨N, hN, q2⟩ := q2
    rw [if_pos rfl]
    refine wpAny_passesOwn hp (thn (hb pins s2 σ1 H2 _ I2 q2) fun f s3 q3 => ?_)
    cases f with
    | next =>
      obtain ⟨σ3, H3, I3, n3⟩ := q3
      obtain ⟨m', hm, w3⟩ := hN σ3 H3 n3
      exact ⟨m', hm, σ3, H3, I3, w3⟩
    | cont =>
      obtain ⟨σ3, H3, I3, n3⟩ := q3
      obtain ⟨m', hm, w3⟩ := hN σ3 H3 n3
      exact ⟨m', hm, σ3, H3, I3, w3⟩
    | brk => exact q3
    | ret v => exact q3
  | false =>
    rw [if_neg Bool.false_ne_true]
    exact wpAny_execs_nil ⟨σ1, H2, I2, q2⟩
end

set_option genInjectivity false in
set_option genSizeOf false in
structure It where
  go : Nat → Hp → Prop
  yld : Nat → Hp → V → Hp → Prop
  stop : Nat → Hp → Prop
noncomputable def FpOk (X : Cx) (pins : List (Addr × Obj)) (H : Hp) (b : Addr) : Prop :=
  H b = none ∧ b ≠ X.env.locals ∧ b ∉ X.fs ∧ (b ∈ X.ex ∨ X.s₀.heap.objs.size ≤ b) ∧ (∀ x c, X.env.cells.lookup x = some c → c ≠ b) ∧ ∀ p ∈ X.pn ++ pins, p.1 ≠ b
theorem Inv.fpOk {X : Cx} {pins : List (Addr × Obj)} {σ : St} {H H' : Hp} {s : Shared} {b : Addr} (I : Inv X pins σ H s) (hb : s.heap.objs.size ≤ b) (hn : H' b = none) : FpOk X pins H' b := by
  refine ⟨hn, Nat.ne_of_gt (Nat.lt_of_lt_of_le I.lt hb), I.nofs hb, .inr (Nat.le_trans I.sz hb), fun x c e z => ?_, fun p hp z => ?_⟩
  · obtain ⟨v, q⟩ := I.cell x c e
    exact absurd (Nat.lt_of_lt_of_le q.lt (by rw [z]; exact hb)) (Nat.lt_irrefl _)
  · exact absurd (Nat.lt_of_lt_of_le (Heap.lt_size (I.pin p hp).1) (by rw [z]; exact hb)) (Nat.lt_irrefl _)
set_option genInjectivity false in
set_option genSizeOf false in
structure Turn (P : Program) (w : World) (K : PySem.W.Frag) (tg : Expr) (J : It) (fp : List Addr) (it : Addr) (tn : Nat → Heap → Prop) : Prop where
  mem : it ∈ fp
  obj : ∀ i h, tn i h → ∀ b ∈ fp, ∃ o, h.get? b = some o ∧ ∀ v, o.data ≠ .cell v
  keep : ∀ i h h', tn i h → (∀ b ∈ fp, ∀ o, h.get? b = some o → h'.get? b = some o) → tn i h'
  item : ∀ (X : Cx), X.prog = P → X.w = w → X.K = K → X.calm = true → ∀ (i : Nat) (pins : List (Addr × Obj)) (s : Shared) (σ : St) (H : Hp) (E : Value → Shared → Prop), Inv X pins σ H s → (∀ b ∈ fp, FpOk X pins H b) → tn i s.heap → J.go i H →
    wpAny (model P w) X.A (pyNext (.ref it)) (fun r s1 => ∃ u, r = some u ∧
      wpAny (model P w) X.A (letOwnedTupleGo tg (.ref it) u) (fun _ s2 => ∃ x H', Inv X pins σ H' s2 ∧ RelV x u ∧ J.yld i H x H' ∧ tn (i + 1) s2.heap ∧ ∀ b ∈ fp, H' b = none) E s1) E s
  done : ∀ (X : Cx), X.prog = P → X.w = w → X.K = K → X.calm = true → ∀ (i : Nat) (pins : List (Addr × Obj)) (s : Shared) (σ : St) (H : Hp) (E : Value → Shared → Prop), Inv X pins σ H s → (∀ b ∈ fp, FpOk X pins H b) → tn i s.heap → J.stop i H →
    wpAny (model P w) X.A (pyNext (.ref it)) (fun r s1 => r = none ∧ Inv X pins σ H s1) E s
  self : ∀ (A : Around) (i : Nat) (s : Shared) (Q : Value → Shared → Prop) (E : Value → Shared → Prop), tn i s.heap → Q (.ref it) s → wpAny (model P w) A (pyIter (.ref it)) Q E s
noncomputable abbrev TI := St → Hp → (It → Hp → Prop) → Prop
noncomputable def PIE (X : Cx) (pins : List (Addr × Obj)) (σ : St) (tg : Expr) (R : It → Hp → Prop) (itv : Value) (s2 : Shared) : Prop :=
  ∃ (it : Addr) (fp : List Addr) (tn : Nat → Heap → Prop) (J : It) (H' : Hp), itv = .ref it ∧ Inv X pins σ H' s2 ∧ Turn X.prog X.w X.K tg J fp it tn ∧ tn 0 s2.heap ∧ (∀ b ∈ fp, FpOk X pins H' b) ∧ R J H'
noncomputable def PI (X : Cx) (tg iter : Expr) (wi : TI) : Prop :=
  ∀ (pins : List (Addr × Obj)) (s : Shared) (σ : St) (H : Hp) (R : It → Hp → Prop), Inv X pins σ H s → wi σ H R →
    wpAny (model X.prog X.w) X.A (eval iter X.env) (fun v s1 => wpAny (model X.prog X.w) X.A (pyIter v) (PIE X pins σ tg R) X.xe s1) X.xe s

theorem go_of {M : Model} {A : Around} {E : Value → Shared → Prop} {s : Shared} {tg : Expr} {it : Addr} {u : Value} {o : Obj} {n : String} {vs : Array Value} {Q : Unit → Shared → Prop} (ho : s.heap.get? it = some o) (hc : o.cls = .type n) (hd : o.data = .fields vs)
    (hn : ["enumerate", "zip", "dict_itemiterator", "dict_reverseitemiterator", "odict_iterator", "itertools.zip_longest", "itertools.pairwise"].contains n = false) (hQ : Q () s) : wpAny M A (letOwnedTupleGo tg (.ref it) u) Q E s := by
  unfold letOwnedTupleGo
  cases tg <;> first
    | exact wpAny_pure hQ
    | (cases u <;> first
        | exact wpAny_pure hQ
        | (refine wpAny_bind (wpAny_load ho ?_)
           rw [hc, hd]
           show wpAny M A (if (["enumerate", "zip", "dict_itemiterator", "dict_reverseitemiterator", "odict_iterator", "itertools.zip_longest", "itertools.pairwise"].contains n && vs[0]? == some (rawInt _)) = true then _ else _) Q E s
           rw [if_neg (by intro h; rw [hn, Bool.false_and] at h; cases h)]
           exact wpAny_pure hQ))

noncomputable def Itl (K : PySem.W.Frag) (a : Addr) : It :=
  ⟨fun i H => ∃ xs x, SqL K H a xs ∧ xs[i]? = some x, fun i H x H' => H' = H ∧ ∀ xs, SqL K H a xs → xs[i]? = some x, fun i H => ∃ xs, SqL K H a xs ∧ xs.length ≤ i⟩
noncomputable def Itr (lo : Int) (n : Nat) : It := ⟨fun i _ => i < n, fun i H x H' => H' = H ∧ x = .int (lo + i), fun i _ => n ≤ i⟩
theorem turn_list {P : Program} {w : World} {K : PySem.W.Frag} {tg : Expr} (a it : Addr) : Turn P w K tg (Itl K a) [it] it (fun i h => h.IsListIter it a i) where
  mem := by simp
  obj := fun i h st b hb => by
    have e : b = it := by simpa using hb
    subst e
    obtain ⟨o, e, c, d⟩ := st
    exact ⟨o, e, fun v z => by rw [d] at z; cases z⟩
  keep := fun i h h' st k => st.at fun o e => k it (by simp) o e
  item := by
    intro X hP hw hK hc i pins s σ H E I hf st hg
    subst hP hw hK
    obtain ⟨xs, x, hq, hx⟩ := hg
    obtain ⟨its, rv, p, hz⟩ := I.list hq
    obtain ⟨u, hu, ru⟩ := rv.get hx
    obtain ⟨f0, f1, f2, f3, f4, f5⟩ := hf it (by simp)
    refine wpAny_pyNext_list_item st p.isList (x := u) (by simpa using hu) fun h' st' sb => ?_
    have I1 : Inv X pins σ H { s with heap := h' } := I.turned (t' := s.toks) (fun b o hb e => (sb.2 b hb).trans e) f0 f1 f3 f4 f5
    obtain ⟨o, e, c, d⟩ := id st'
    exact ⟨u, rfl, go_of (s := { s with heap := h' }) e c d (by decide) ⟨x, H, I1, ru, ⟨rfl, fun ys hy => by rw [I.list_inj hy hq]; exact hx⟩, st', fun b hb => (hf b hb).1⟩⟩
  done := by
    intro X hP hw hK hc i pins s σ H E I hf st hg
    subst hP hw hK
    obtain ⟨xs, hq, hx⟩ := hg
    obtain ⟨its, rv, p, hz⟩ := I.list hq
    obtain ⟨f0, f1, f2, f3, f4, f5⟩ := hf it (by simp)
    have hl := rv.length
    exact wpAny_pyNext_list_end (I.ok.hd hc) st p.isList (by simp; omega) fun h' eb => ⟨rfl, I.turned (t' := s.toks) (fun b o hb e => eb b o hb e) f0 f1 f3 f4 f5⟩
  self := fun _ _ _ _ _ st h => wpAny_pyIter_listiter st h
theorem turn_range {P : Program} {w : World} {K : PySem.W.Frag} {tg : Expr} (it : Addr) (lo : Int) (n : Nat) : Turn P w K tg (Itr lo n) [it] it (fun i h => IsRangeIter h it (lo + (i : Nat) * 1) ((n : Int) - (i : Nat)) 1) where
  mem := by simp
  obj := fun i h st b hb => by
    have e : b = it := by simpa using hb
    subst e
    exact ⟨_, st, fun v z => by
      have z' : Data.fields _ = Data.cell v := z
      cases z'⟩
  keep := fun i h h' st k => k it (by simp) _ st
  item := by
    intro X hP hw hK hc i pins s σ H E I hf st hg
    subst hP hw hK
    obtain ⟨f0, f1, f2, f3, f4, f5⟩ := hf it (by simp)
    have W := Walks.range (prog := X.prog) (w := X.w) (I.ok.hd hc) it lo 1 n
    refine W.item i s _ _ hg st fun v h' tk hv st' kk => ?_
    obtain ⟨t, rfl⟩ := hv
    have I1 : Inv X pins σ H { s with heap := h', toks := tk } := I.turned (fun b o hb e => kk b o (by simpa using hb) e) f0 f1 f3 f4 f5
    refine ⟨_, rfl, go_of (s := { s with heap := h', toks := tk }) (n := "range_iterator") st' rfl rfl (by decide) ⟨.int (lo + i), H, I1, ⟨t, ?_⟩, ⟨rfl, rfl⟩, st', fun b hb => (hf b hb).1⟩⟩
    rw [Int.mul_one]
  done := by
    intro X hP hw hK hc i pins s σ H E I hf st hg
    subst hP hw hK
    obtain ⟨f0, f1, f2, f3, f4, f5⟩ := hf it (by simp)
    exact wpAny_pyNext_range_end (I.ok.hd hc) st (by have : n ≤ i := hg; omega) fun h' eb => ⟨rfl, I.turned (t' := s.toks) (fun b o hb e => eb b o hb e) f0 f1 f3 f4 f5⟩
  self := fun _ _ _ _ _ st h => wpAny_pyIter_rangeiter st h
end Internal

namespace Internal
open PySem PySem.Spec PyProof.Rows
section
variable {X : Cx} {tg : Expr}
noncomputable def iList (K : PySem.W.Frag) (tl : TE) : TI := fun σ H R => tl σ H fun x H1 => ∃ a, x = .ref a ∧ (∃ xs, SqL K H1 a xs) ∧ R (Itl K a) H1
theorem pi_list {l : Expr} {tl : TE} (hl : PE X l tl) : PI X tg l (iList X.K tl) := by
  intro pins s σ H R I h
  refine thn (hl pins s σ H _ I h) fun v s1 zz => ?_
  obtain ⟨x, H1, I1, r1, q1⟩ := zz
  obtain ⟨a, e, ⟨xs, hq⟩, q⟩ := q1
  subst e
  cases r1
  obtain ⟨its, rv, p, hz⟩ := I1.list hq
  refine wpAny_pyIter_list p.isList ?_
  refine ⟨s1.heap.objs.size, [s1.heap.objs.size], _, _, H1, rfl, I1.kept (t' := s1.toks) fun b o e => Heap.get?_push_of_some _ e, turn_list a _, ⟨_, Heap.get?_push_size _ rfl, rfl, rfl⟩, fun b hb => ?_, q⟩
  have e : b = s1.heap.objs.size := by simpa using hb
  subst e
  exact I1.fpOk (Nat.le_refl _) (I1.hok.fresh (Nat.le_refl _))
theorem range_it {pins : List (Addr × Obj)} {σ : St} {H : Hp} {s : Shared} {R : It → Hp → Prop} {E : Value → Shared → Prop} {lo hi : Int} {t u v : Tok} {tk : Nat} (I : Inv X pins σ H s) (h1 : -(2 ^ 62) ≤ lo) (h2 : lo < 2 ^ 62) (h3 : -(2 ^ 62) ≤ hi) (h4 : hi < 2 ^ 62)
    (q : R (Itr lo (hi - lo).toNat) H) : wpAny (model X.prog X.w) X.A (pyIter (.ref s.heap.objs.size)) (PIE X pins σ tg R) E { s with heap := s.heap.push { cls := .type "range", data := .fields #[.int lo t, .int hi u, .int 1 v] }, toks := tk } := by
  refine wpAny_pyIter_range (IsRange.new ..) (small_one h1 h2 h3 h4) ?_
  have I1 : Inv X pins σ H { s with heap := s.heap.push { cls := .type "range", data := .fields #[.int lo t, .int hi u, .int 1 v] }, toks := tk } := I.kept fun b o e => Heap.get?_push_of_some _ e
  refine ⟨(s.heap.push { cls := .type "range", data := .fields #[.int lo t, .int hi u, .int 1 v] }).objs.size, [(s.heap.push { cls := .type "range", data := .fields #[.int lo t, .int hi u, .int 1 v] }).objs.size], _, _, H, rfl,
    I1.kept (t' := tk) fun b o e => Heap.get?_push_of_some _ e, turn_range _ lo (hi - lo).toNat, ?_, fun b hb => ?_, q⟩
  · have e1 : lo + ((0 : Nat) : Int) * 1 = lo := by simp
    have e2 : (((hi - lo).toNat : Nat) : Int) - ((0 : Nat) : Int) = Builtin.Range.rangeSize lo hi 1 := by rw [rangeSize_one]; split <;> omega
    show IsRangeIter _ _ (lo + ((0 : Nat) : Int) * 1) ((((hi - lo).toNat : Nat) : Int) - ((0 : Nat) : Int)) 1
    rw [e1, e2]
    exact Heap.get?_push_size _ rfl
  · have e : b = (s.heap.push { cls := .type "range", data := .fields #[.int lo t, .int hi u, .int 1 v] }).objs.size := by simpa using hb
    subst e
    exact I1.fpOk (Nat.le_refl _) (I1.hok.fresh (Nat.le_refl _))
noncomputable def iRng1 (ta : TA) : TI := fun σ H R => ta σ H fun vs H1 => ∃ j : Int, vs = [.int j] ∧ -(2 ^ 62) ≤ j ∧ j < 2 ^ 62 ∧ R (Itr 0 j.toNat) H1
theorem pi_range1 {a : Expr} {ta : TA} {p pos : Pos} (hg : Gl X "range") (hm : X.mg "range" = none) (ha : PA X [a] ta) (hs : autoParam (starEach [a] X.env = [(false, eval a X.env)]) Internal.aut2._auto_1) : PI X tg (.Call (.Name "range" p) [a] [] pos) (iRng1 ta) := by
  intro pins s σ H R I h
  refine Call_ (ld_blt I hg hm boot_range (PyProof.Rows.callWith_type1 (thn (ha pos pins s σ H _ I h) fun us s1 ⟨vs, H1, I1, r1, q1⟩ => ?_) hs rfl))
  obtain ⟨j, e, q1, q2, q⟩ := q1
  subst e
  cases r1 with
  | cons r rr =>
    cases rr
    obtain ⟨t, rfl⟩ := r
    exact call_range_1 (range_it I1 (by omega) (by omega) q1 q2 (by simpa using q))
noncomputable def tFor (wi : TI) (g : TG) (tb : TS) : TS := fun D σ H => wi σ H fun J H1 => ∃ W : Nat → Nat → St → Hp → Prop, (∃ m, W 0 m σ H1) ∧ ∀ i m σ H, W i m σ H →
  (J.stop i H ∧ D.nx σ H) ∨ (J.go i H ∧ ∃ N : St → Hp → Prop, (∀ σ' H', N σ' H' → ∃ m', m' < m ∧ W (i + 1) m' σ' H') ∧ ∀ x H', J.yld i H x H' → g x σ H' fun σ2 H2 => tb { D with nx := N, ct := N, bk := D.nx } σ2 H2)
noncomputable def pinsAt (fp : List Addr) (h : Heap) : List (Addr × Obj) := fp.filterMap fun b => (h.get? b).map fun o => (b, o)
theorem mem_pinsAt {fp : List Addr} {h : Heap} {b : Addr} {o : Obj} (hb : b ∈ fp) (e : h.get? b = some o) : (b, o) ∈ pinsAt fp h := List.mem_filterMap.mpr ⟨b, hb, by rw [e]; rfl⟩
theorem of_pinsAt {fp : List Addr} {h : Heap} {p : Addr × Obj} (hp : p ∈ pinsAt fp h) : p.1 ∈ fp ∧ h.get? p.1 = some p.2 := by
  obtain ⟨b, hb, e⟩ := List.mem_filterMap.mp hp
  cases q : h.get? b with
  | none => rw [q] at e; cases e
  | some o =>
    rw [q] at e
    have e' : (b, o) = p := Option.some.inj e
    subst e'
    exact ⟨hb, q⟩
theorem Inv.pinned {pins : List (Addr × Obj)} {σ : St} {H : Hp} {s : Shared} {fp : List Addr} (I : Inv X pins σ H s) (hf : ∀ b ∈ fp, FpOk X pins H b) (ho : ∀ b ∈ fp, ∃ o, s.heap.get? b = some o ∧ ∀ v, o.data ≠ .cell v) : Inv X (pins ++ pinsAt fp s.heap) σ H s :=
  I.pins_of fun p hp => (List.mem_append.mp hp).elim (fun z => I.pin p (List.mem_append_right _ z)) fun z => by
    obtain ⟨hb, e⟩ := of_pinsAt z
    obtain ⟨f0, f1, f2, _⟩ := hf p.1 hb
    obtain ⟨o, e', d⟩ := ho p.1 hb
    rw [e] at e'; cases e'
    exact ⟨e, f0, f1, f2, d⟩
theorem Inv.unpinned {pins pl : List (Addr × Obj)} {σ : St} {H : Hp} {s : Shared} (I : Inv X (pins ++ pl) σ H s) : Inv X pins σ H s := I.pins_of fun p hp => I.pin p (List.mem_append_right _ (List.mem_append_left _ hp))
theorem ps_for {iter : Expr} {body : List Stmt} {wi : TI} {g : TG} {tb : TS} {pos : Pos} (hp : PassesOwn (model X.prog X.w) X.A X.env X.xe) (hc : X.calm = true) (hi : PI X tg iter wi) (hg : PG X tg g) (hb : PSs X body tb)
    (hs : autoParam (∀ x, foldedSetIterable iter X.env x = pure x) Internal.aut3._auto_1) : PS X (.For tg iter body [] pos) (tFor wi g tb) := by
  intro pins s σ H D I h
  refine wpAny_For (thn (hi pins s σ H _ I h) fun v s1 h1 => thn h1 fun itv s2 h2 => ?_) hs
  obtain ⟨it, fp, tn, J, H2, e, I2, T, st2, f2, W, ⟨m0, w0⟩, turn⟩ := h2
  subst e
  -- what stays true of the iterator's objects through the loop
  have stat : ∀ {H' : Hp}, (∀ b ∈ fp, H' b = none) → ∀ b ∈ fp, FpOk X pins H' b := fun hn b hb => ⟨hn b hb, (f2 b hb).2⟩
  refine codeAny_forLoop_any (fun n s' => ∃ i σ' H', Inv X pins σ' H' s' ∧ tn i s'.heap ∧ (∀ b ∈ fp, H' b = none) ∧ W i n σ' H') ?_ m0 ⟨0, σ, H2, I2, st2, fun b hb => (f2 b hb).1, w0⟩
  rintro n s3 ⟨i, σ3, H3, I3, st3, fr3, w3⟩
  rcases turn i n σ3 H3 w3 with ⟨stop, qn⟩ | ⟨go, N, hN, step⟩
  · refine wpAny_passesOwn hp (thn (T.done X rfl rfl rfl hc i pins s3 σ3 H3 X.xe I3 (stat fr3) st3 stop) fun r s4 ⟨hr, I4⟩ => ?_)
    subst hr
    exact wpAny_execs_nil ⟨σ3, H3, I4, qn⟩
  · refine wpAny_passesOwn hp (thn (T.item X rfl rfl rfl hc i pins s3 σ3 H3 X.xe I3 (stat fr3) st3 go) fun r s4 ⟨u, hr, h4⟩ => ?_)
    subst hr
    refine wpAny_passesOwn hp (thn h4 fun _ s5 zz => ?_)
    obtain ⟨x, H5, I5, r5, y5, st5, fr5⟩ := zz
    have I5' := I5.pinned (stat fr5) (T.obj _ _ st5)
    refine wpAny_passesOwn hp (thn (hg _ s5 σ3 H5 x u _ I5' r5 (step x H5 y5)) fun _ s6 zz => ?_)
    obtain ⟨σ6, H6, I6, q6⟩ := zz
    refine wpAny_passesOwn hp (thn (hb _ s6 σ6 H6 _ I6 q6) fun f s7 q7 => ?_)
    have again : ∀ {σ7 : St} {H7 : Hp}, Inv X (pins ++ pinsAt fp s5.heap) σ7 H7 s7 → N σ7 H7 → ∃ m, m < n ∧ ∃ i σ' H', Inv X pins σ' H' s7 ∧ tn i s7.heap ∧ (∀ b ∈ fp, H' b = none) ∧ W i m σ' H' := fun {σ7 H7} I7 n7 => by
      obtain ⟨m', hm, w7⟩ := hN σ7 H7 n7
      refine ⟨m', hm, i + 1, σ7, H7, I7.unpinned, T.keep _ _ _ st5 fun b hb o e => (I7.pin (b, o) (List.mem_append_right _ (List.mem_append_right _ (mem_pinsAt hb e)))).1, fun b hb => ?_, w7⟩
      obtain ⟨o, e, d⟩ := T.obj _ _ st5 b hb
      exact (I7.pin (b, o) (List.mem_append_right _ (List.mem_append_right _ (mem_pinsAt hb e)))).2.1
    cases f with
    | next => obtain ⟨σ7, H7, I7, n7⟩ := q7; exact again I7 n7
    | cont => obtain ⟨σ7, H7, I7, n7⟩ := q7; exact again I7 n7
    | brk => obtain ⟨σ7, H7, I7, q7⟩ := q7; exact ⟨σ7, H7, I7.unpinned, q7⟩
    | ret v => obtain ⟨x7, σ7, H7, I7, r7, q7⟩ := q7; exact ⟨x7, σ7, H7, I7.unpinned, r7, q7⟩
end

theorem for_list {K : PySem.W.Frag} {a : Addr} {xs : List V} {g : TG} {tb : TS} {D : Ends} {σ : St} {H : Hp} (Pv : Nat → St → Hp → Prop) (h0 : Pv 0 σ H) (hl : ∀ i σ H, i ≤ xs.length → Pv i σ H → SqL K H a xs)
    (hs : ∀ i x σ H, xs[i]? = some x → Pv i σ H → g x σ H fun σ2 H2 => tb { D with nx := Pv (i + 1), ct := Pv (i + 1), bk := D.nx } σ2 H2) (hd : ∀ σ H, Pv xs.length σ H → D.nx σ H) :
    ∃ W : Nat → Nat → St → Hp → Prop, (∃ m, W 0 m σ H) ∧ ∀ i m σ H, W i m σ H →
      ((Itl K a).stop i H ∧ D.nx σ H) ∨ ((Itl K a).go i H ∧ ∃ N : St → Hp → Prop, (∀ σ' H', N σ' H' → ∃ m', m' < m ∧ W (i + 1) m' σ' H') ∧ ∀ x H', (Itl K a).yld i H x H' → g x σ H' fun σ2 H2 => tb { D with nx := N, ct := N, bk := D.nx } σ2 H2) := by
  refine ⟨fun i m σ H => m = xs.length - i ∧ i ≤ xs.length ∧ Pv i σ H, ⟨xs.length, by simp, Nat.zero_le _, h0⟩, ?_⟩
  rintro i m σ H ⟨rfl, hi, p⟩
  have q := hl i σ H hi p
  by_cases hlt : i < xs.length
  · refine .inr ⟨⟨xs, xs[i], q, by simp [hlt]⟩, Pv (i + 1), fun σ' H' p' => ⟨xs.length - (i + 1), by omega, rfl, hlt, p'⟩, fun x H' y => ?_⟩
    obtain ⟨e, y⟩ := y
    subst e
    exact hs i x σ _ (y xs q) p
  · have e : i = xs.length := by omega
    subst e
    exact .inl ⟨⟨xs, q, Nat.le_refl _⟩, hd σ H p⟩
theorem for_range {lo : Int} {n : Nat} {g : TG} {tb : TS} {D : Ends} {σ : St} {H : Hp} (Pv : Nat → St → Hp → Prop) (h0 : Pv 0 σ H)
    (hs : ∀ i σ H, i < n → Pv i σ H → g (.int (lo + i)) σ H fun σ2 H2 => tb { D with nx := Pv (i + 1), ct := Pv (i + 1), bk := D.nx } σ2 H2) (hd : ∀ σ H, Pv n σ H → D.nx σ H) :
    ∃ W : Nat → Nat → St → Hp → Prop, (∃ m, W 0 m σ H) ∧ ∀ i m σ H, W i m σ H →
      ((Itr lo n).stop i H ∧ D.nx σ H) ∨ ((Itr lo n).go i H ∧ ∃ N : St → Hp → Prop, (∀ σ' H', N σ' H' → ∃ m', m' < m ∧ W (i + 1) m' σ' H') ∧ ∀ x H', (Itr lo n).yld i H x H' → g x σ H' fun σ2 H2 => tb { D with nx := N, ct := N, bk := D.nx } σ2 H2) := by
  refine ⟨fun i m σ H => m = n - i ∧ i ≤ n ∧ Pv i σ H, ⟨n, by simp, Nat.zero_le _, h0⟩, ?_⟩
  rintro i m σ H ⟨rfl, hi, p⟩
  by_cases hlt : i < n
  · refine .inr ⟨hlt, Pv (i + 1), fun σ' H' p' => ⟨n - (i + 1), by omega, rfl, hlt, p'⟩, fun x H' y => ?_⟩
    obtain ⟨e, y⟩ := y
    subst e y
    exact hs i σ _ hlt p
  · have e : i = n := by omega
    subst e
    exact .inl ⟨Nat.le_refl _, hd σ H p⟩
end Internal

namespace Internal
open PySem PySem.Spec PyProof.Rows

noncomputable abbrev R2 := V → V → Hp → VK → Prop
noncomputable def OpR (X : Cx) (f : Value → Value → Sem Value) (r : R2) : Prop :=
  ∀ (pins : List (Addr × Obj)) (s : Shared) (σ : St) (H : Hp) (x y : V) (v u : Value) (Q : VK), Inv X pins σ H s → RelV x v → RelV y u → r x y H Q →
    wpAny (model X.prog X.w) X.A (f v u) (EP X pins σ Q) X.xe s
noncomputable def UnR (X : Cx) (f : Value → Sem Value) (r : V → Hp → VK → Prop) : Prop :=
  ∀ (pins : List (Addr × Obj)) (s : Shared) (σ : St) (H : Hp) (x : V) (v : Value) (Q : VK), Inv X pins σ H s → RelV x v → r x H Q →
    wpAny (model X.prog X.w) X.A (f v) (EP X pins σ Q) X.xe s
noncomputable def CallR (X : Cx) (f : Value) (r : List V → Hp → VK → Prop) : Prop :=
  ∀ (pins : List (Addr × Obj)) (s : Shared) (σ : St) (H : Hp) (xs : List V) (us : List Value) (Q : VK), Inv X pins σ H s → Vals xs us → r xs H Q →
    wpAny (model X.prog X.w) X.A (call f us) (EP X pins σ Q) X.xe s
noncomputable def TruR (X : Cx) (r : V → Hp → (Bool → Hp → Prop) → Prop) : Prop :=
  ∀ (pins : List (Addr × Obj)) (s : Shared) (σ : St) (H : Hp) (x : V) (v : Value) (Q : Bool → Hp → Prop), Inv X pins σ H s → RelV x v → r x H Q →
    wpAny (model X.prog X.w) X.A (truthy v) (TP X pins σ Q) X.xe s

noncomputable abbrev tOp (r : R2) (ta tb : TE) : TE := fun σ H Q => ta σ H fun x H1 => tb σ H1 fun y H2 => r x y H2 Q
noncomputable abbrev tUn (r : V → Hp → VK → Prop) (ta : TE) : TE := fun σ H Q => ta σ H fun x H1 => r x H1 Q
noncomputable def rI (C : Int → Int → Prop) (g : Int → Int → V) : R2 := fun x y H Q => ∃ i j, x = .int i ∧ y = .int j ∧ C i j ∧ Q (g i j) H
noncomputable def rI0 (g : Int → Int → V) : R2 := fun x y H Q => ∃ i j, x = .int i ∧ y = .int j ∧ Q (g i j) H
noncomputable def rU (g : Int → V) : V → Hp → VK → Prop := fun x H Q => ∃ i, x = .int i ∧ Q (g i) H

section
variable {X : Cx} {a b c : Expr} {ta tb tc : TE} {pos : Pos}

theorem binT (ha : PE X a ta) (hb : PE X b tb) {pins : List (Addr × Obj)} {s : Shared} {σ : St} {H : Hp} {R : V → V → Hp → Prop} (I : Inv X pins σ H s)
    (h : ta σ H fun x H1 => tb σ H1 fun y H2 => R x y H2) {Q : Value → Shared → Prop} {f : Value → Value → Sem Value}
    (hf : ∀ v u s2 x y H2, Inv X pins σ H2 s2 → RelV x v → RelV y u → R x y H2 → wpAny (model X.prog X.w) X.A (f v u) Q X.xe s2) :
    wpAny (model X.prog X.w) X.A (eval a X.env) (fun v s₁ => wpAny (model X.prog X.w) X.A (eval b X.env) (fun u s₂ => wpAny (model X.prog X.w) X.A (f v u) Q X.xe s₂) X.xe s₁) X.xe s := by
  refine thn (ha pins s σ H _ I h) fun v s1 zz => ?_
  obtain ⟨x, H1, I1, r1, q1⟩ := zz
  refine thn (hb pins s1 σ H1 _ I1 q1) fun u s2 zz => ?_
  obtain ⟨y, H2, I2, r2, q2⟩ := zz
  exact hf v u s2 x y H2 I2 r1 r2 q2

theorem pe_op {op : Operator} {r : R2} (ho : OpR X (binaryOp op) r) (ha : PE X a ta) (hb : PE X b tb) : PE X (.BinOp a op b pos) (tOp r ta tb) := by
  intro pins s σ H Q I h
  exact wpAny_BinOp (binT ha hb I h fun v u s2 x y H2 I2 rx ry q => ho pins s2 σ H2 x y v u Q I2 rx ry q)
theorem pe_un {op : UnaryOp} {r : V → Hp → VK → Prop} (ho : UnR X (unaryOp op) r) (ha : PE X a ta) : PE X (.UnaryOp op a pos) (tUn r ta) := by
  intro pins s σ H Q I h
  exact UnaryOp_ (thn (ha pins s σ H _ I h) fun v s1 ⟨x, H1, I1, r1, q1⟩ => ho pins s1 σ H1 x v Q I1 r1 q1)
theorem opI {f : Value → Value → Sem Value} {C : Int → Int → Prop} {g : Int → Int → Int}
    (rule : ∀ (i j : Int) (t u : Tok) (s : Shared) (Q : Value → Shared → Prop) (E : Value → Shared → Prop), C i j → Q (.int (g i j) s.toks) { s with toks := s.toks + 1 } → wpAny (model X.prog X.w) X.A (f (.int i t) (.int j u)) Q E s) :
    OpR X f (rI C fun i j => .int (g i j)) := by
  intro pins s σ H x y v u Q I rx ry h
  obtain ⟨i, j, rfl, rfl, hc, q⟩ := h
  obtain ⟨t, rfl⟩ := rx
  obtain ⟨t', rfl⟩ := ry
  exact rule i j t t' s _ _ hc ⟨.int (g i j), H, I.tok _, ⟨_, rfl⟩, q⟩
theorem opI0 {f : Value → Value → Sem Value} {g : Int → Int → Int}
    (rule : ∀ (i j : Int) (t u : Tok) (s : Shared) (Q : Value → Shared → Prop) (E : Value → Shared → Prop), Q (.int (g i j) s.toks) { s with toks := s.toks + 1 } → wpAny (model X.prog X.w) X.A (f (.int i t) (.int j u)) Q E s) :
    OpR X f (rI0 fun i j => .int (g i j)) := by
  intro pins s σ H x y v u Q I rx ry h
  obtain ⟨i, j, rfl, rfl, q⟩ := h
  obtain ⟨t, rfl⟩ := rx
  obtain ⟨t', rfl⟩ := ry
  exact rule i j t t' s _ _ ⟨.int (g i j), H, I.tok _, ⟨_, rfl⟩, q⟩
theorem opB0 {f : Value → Value → Sem Value} {g : Int → Int → Bool}
    (rule : ∀ (i j : Int) (t u : Tok) (s : Shared) (Q : Value → Shared → Prop) (E : Value → Shared → Prop), Q (.bool (g i j)) s → wpAny (model X.prog X.w) X.A (f (.int i t) (.int j u)) Q E s) :
    OpR X f (rI0 fun i j => .bl (g i j)) := by
  intro pins s σ H x y v u Q I rx ry h
  obtain ⟨i, j, rfl, rfl, q⟩ := h
  obtain ⟨t, rfl⟩ := rx
  obtain ⟨t', rfl⟩ := ry
  exact rule i j t t' s _ _ ⟨.bl (g i j), H, I, rfl, q⟩

noncomputable def CPow (i j : Int) : Prop := 0 ≤ j ∧ j ≤ 1000000 ∧ i.natAbs < 2 ^ 64
theorem op_add : OpR X (binaryOp .Add) (rI0 fun i j => .int (i + j)) := opI0 fun _ _ _ _ _ _ _ q => add_int q
theorem op_sub : OpR X (binaryOp .Sub) (rI0 fun i j => .int (i - j)) := opI0 fun _ _ _ _ _ _ _ q => sub_int q
theorem op_modN : OpR X (binaryOp .Mod) (rI (fun _ j => j ≠ 0) fun i j => .int (i.fmod j)) := opI fun _ _ _ _ _ _ _ hc q => mod_int' hc q
theorem op_pow : OpR X (binaryOp .Pow) (rI CPow fun i j => .int (i ^ j.toNat)) := opI fun _ _ _ _ _ _ _ hc q => pow_int_small hc.1 hc.2.1 hc.2.2 q
theorem unI {f : Value → Sem Value} {g : Int → Int}
    (rule : ∀ (i : Int) (t : Tok) (s : Shared) (Q : Value → Shared → Prop) (E : Value → Shared → Prop), Q (.int (g i) s.toks) { s with toks := s.toks + 1 } → wpAny (model X.prog X.w) X.A (f (.int i t)) Q E s) :
    UnR X f (rU fun i => .int (g i)) := by
  intro pins s σ H x v Q I rx h
  obtain ⟨i, rfl, q⟩ := h
  obtain ⟨t, rfl⟩ := rx
  exact rule i t s _ _ ⟨.int (g i), H, I.tok _, ⟨_, rfl⟩, q⟩
theorem un_neg : UnR X (unaryOp .USub) (rU fun i => .int (-i)) := unI fun _ _ _ _ _ q => neg_int q
end

noncomputable def scal : V → V → Bool
  | .non, .non => true | .non, .int _ => true | .int _, .non => true | .non, .bl _ => true | .bl _, .non => true | .non, .str _ => true | .str _, .non => true
  | .int _, .int _ => true | .bl _, .bl _ => true | .str _, .str _ => true | .byt _, .byt _ => true
  | .int _, .str _ => true | .str _, .int _ => true | .bl _, .str _ => true | .str _, .bl _ => true
  | _, _ => false
noncomputable def rEq : R2 := fun x y H Q => scal x y = true ∧ Q (.bl (decide (x = y))) H
noncomputable def rNe : R2 := fun x y H Q => scal x y = true ∧ Q (.bl (!decide (x = y))) H

theorem dec_int {i j : Int} : decide (V.int i = V.int j) = (i == j) := by
  rw [Bool.eq_iff_iff]
  simp
theorem dec_bl {i j : Bool} : decide (V.bl i = V.bl j) = (i == j) := by
  rw [Bool.eq_iff_iff]
  simp
theorem dec_str {i j : Str} : decide (V.str i = V.str j) = (i == j) := by
  rw [Bool.eq_iff_iff]
  simp
theorem dec_byt {i j : Array UInt8} : decide (V.byt i = V.byt j) = (i.toList == j.toList) := by
  rw [Bool.eq_iff_iff]
  cases i
  cases j
  simp

section
variable {X : Cx} {a b c : Expr} {ta tb tc : TE} {pos : Pos}
theorem fin_bl {pins : List (Addr × Obj)} {σ : St} {H : Hp} {s : Shared} {Q : VK} {k k' : Bool} (I : Inv X pins σ H s) (q : Q (.bl k) H) (e : k = k') : EP X pins σ Q (.bool k') s := by
  subst e
  exact ⟨.bl k, H, I, rfl, q⟩
theorem op_eq : OpR X (compareOp .Eq) rEq := by
  intro pins s σ H x y v u Q I rx ry h
  obtain ⟨hs, q⟩ := h
  cases x with
  | non =>
    cases rx
    cases y with
    | non => cases ry; exact PySem.EqNone.eq_none_none (fin_bl I q (by simp))
    | bl j => cases ry; exact PySem.EqNone.eq_none_bool (fin_bl I q (by simp))
    | int j => obtain ⟨t', rfl⟩ := ry; exact PySem.EqNone.eq_none_int (fin_bl I q (by simp))
    | str j => obtain ⟨t', rfl⟩ := ry; exact PySem.EqNone.eq_none_str (fin_bl I q (by simp))
    | _ => exact absurd (show false = true from hs) Bool.false_ne_true
  | bl i =>
    cases rx
    cases y with
    | non => cases ry; exact PySem.EqNone.eq_bool_none (fin_bl I q (by simp))
    | bl j => cases ry; exact eq_bool (fin_bl I q dec_bl)
    | str j => obtain ⟨t', rfl⟩ := ry; exact PySem.EqMixed.eq_bool_str (fin_bl I q (by simp))
    | _ => exact absurd (show false = true from hs) Bool.false_ne_true
  | int i =>
    obtain ⟨t, rfl⟩ := rx
    cases y with
    | non => cases ry; exact PySem.EqNone.eq_int_none (fin_bl I q (by simp))
    | int j => obtain ⟨t', rfl⟩ := ry; exact eq_int (fin_bl I q dec_int)
    | str j => obtain ⟨t', rfl⟩ := ry; exact PySem.EqMixed.eq_int_str (fin_bl I q (by simp))
    | _ => exact absurd (show false = true from hs) Bool.false_ne_true
  | str i =>
    obtain ⟨t, rfl⟩ := rx
    cases y with
    | non => cases ry; exact PySem.EqNone.eq_str_none (fin_bl I q (by simp))
    | bl j => cases ry; exact PySem.EqMixed.eq_str_bool (fin_bl I q (by simp))
    | int j => obtain ⟨t', rfl⟩ := ry; exact PySem.EqMixed.eq_str_int (fin_bl I q (by simp))
    | str j => obtain ⟨t', rfl⟩ := ry; exact eq_str (fin_bl I q dec_str)
    | _ => exact absurd (show false = true from hs) Bool.false_ne_true
  | byt i =>
    obtain ⟨t, rfl⟩ := rx
    cases y with
    | byt j => obtain ⟨t', rfl⟩ := ry; exact PySem.W.eq_bytes (fin_bl I q dec_byt)
    | _ => exact absurd (show false = true from hs) Bool.false_ne_true
  | _ => cases y <;> exact absurd (show false = true from hs) Bool.false_ne_true
theorem op_ne : OpR X (compareOp .NotEq) rNe := by
  intro pins s σ H x y v u Q I rx ry h
  obtain ⟨hs, q⟩ := h
  cases x with
  | non =>
    cases rx
    cases y with
    | non => cases ry; exact PySem.EqNone.ne_none_none (fin_bl I q (by simp))
    | bl j => cases ry; exact PySem.EqNone.ne_none_bool (fin_bl I q (by simp))
    | int j => obtain ⟨t', rfl⟩ := ry; exact PySem.EqNone.ne_none_int (fin_bl I q (by simp))
    | str j => obtain ⟨t', rfl⟩ := ry; exact PySem.EqNone.ne_none_str (fin_bl I q (by simp))
    | _ => exact absurd (show false = true from hs) Bool.false_ne_true
  | bl i =>
    cases rx
    cases y with
    | non => cases ry; exact PySem.EqNone.ne_bool_none (fin_bl I q (by simp))
    | bl j => cases ry; exact ne_bool (fin_bl I q (congrArg not dec_bl))
    | str j => obtain ⟨t', rfl⟩ := ry; exact PySem.EqMixed.ne_bool_str (fin_bl I q (by simp))
    | _ => exact absurd (show false = true from hs) Bool.false_ne_true
  | int i =>
    obtain ⟨t, rfl⟩ := rx
    cases y with
    | non => cases ry; exact PySem.EqNone.ne_int_none (fin_bl I q (by simp))
    | int j => obtain ⟨t', rfl⟩ := ry; exact ne_int (fin_bl I q (congrArg not dec_int))
    | str j => obtain ⟨t', rfl⟩ := ry; exact PySem.EqMixed.ne_int_str (fin_bl I q (by simp))
    | _ => exact absurd (show false = true from hs) Bool.false_ne_true
  | str i =>
    obtain ⟨t, rfl⟩ := rx
    cases y with
    | non => cases ry; exact PySem.EqNone.ne_str_none (fin_bl I q (by simp))
    | bl j => cases ry; exact PySem.EqMixed.ne_str_bool (fin_bl I q (by simp))
    | int j => obtain ⟨t', rfl⟩ := ry; exact PySem.EqMixed.ne_str_int (fin_bl I q (by simp))
    | str j => obtain ⟨t', rfl⟩ := ry; exact ne_str (fin_bl I q (congrArg not dec_str))
    | _ => exact absurd (show false = true from hs) Bool.false_ne_true
  | byt i =>
    obtain ⟨t, rfl⟩ := rx
    cases y with
    | byt j => obtain ⟨t', rfl⟩ := ry; exact PySem.W.ne_bytes (fin_bl I q (congrArg not dec_byt))
    | _ => exact absurd (show false = true from hs) Bool.false_ne_true
  | _ => cases y <;> exact absurd (show false = true from hs) Bool.false_ne_true

theorem op_lt : OpR X (compareOp .Lt) (rI0 fun i j => .bl (decide (i < j))) := opB0 fun _ _ _ _ _ _ _ q => lt_int q
theorem op_gt : OpR X (compareOp .Gt) (rI0 fun i j => .bl (decide (j < i))) := opB0 fun _ _ _ _ _ _ _ q => gt_int q
theorem op_isN : OpR X (compareOp .Is) (fun x y H Q => y = .non ∧ Q (.bl (decide (x = .non))) H) := by
  intro pins s σ H x y v u Q I rx ry h
  obtain ⟨rfl, q⟩ := h
  cases ry
  refine is_none_gen (fin_bl I q ?_)
  cases x <;> first
    | (cases rx; rfl)
    | (obtain ⟨t, rfl⟩ := rx; rfl)
theorem op_notN : OpR X (compareOp .IsNot) (fun x y H Q => y = .non ∧ Q (.bl (!decide (x = .non))) H) := by
  intro pins s σ H x y v u Q I rx ry h
  obtain ⟨rfl, q⟩ := h
  cases ry
  refine isnot_none_gen (fin_bl I q ?_)
  cases x <;> first
    | (cases rx; rfl)
    | (obtain ⟨t, rfl⟩ := rx; rfl)

theorem OpR.or {f : Value → Value → Sem Value} {r r' : R2} (h : OpR X f r) (h' : OpR X f r') : OpR X f (fun x y H Q => r x y H Q ∨ r' x y H Q) := by
  intro pins s σ H x y v u Q I rx ry q
  rcases q with q | q
  · exact h pins s σ H x y v u Q I rx ry q
  · exact h' pins s σ H x y v u Q I rx ry q

theorem nomark (b : Expr) {op : CmpOp} (h : autoParam (op ≠ .In) Internal.aut1._auto_1) (h2 : autoParam (op ≠ .NotIn) Internal.aut1._auto_1) : behindInMarks op b = false := by
  have e1 : (op == CmpOp.In) = false := by cases op <;> first | rfl | exact absurd rfl h
  have e2 : (op == CmpOp.NotIn) = false := by cases op <;> first | rfl | exact absurd rfl h2
  cases b <;> simp [behindInMarks, e1, e2]
theorem pe_cmpR {op : CmpOp} {r : R2} (ho : OpR X (compareOp op) r) (ha : PE X a ta) (hb : PE X b tb) (hm : behindInMarks op b = false) : PE X (.Compare a [op] [b] pos) (tOp r ta tb) := by
  intro pins s σ H Q I h
  exact wpAny_Compare1 (binT ha hb I h fun v u s2 x y H2 I2 rx ry q => ho pins s2 σ H2 x y v u Q I2 rx ry q) hm
noncomputable abbrev tTest (t : TE) : TT := fun σ H Q => t σ H fun x H' => ∃ k, x = .bl k ∧ Q k H'
theorem pt_cmpR {op : CmpOp} {r : R2} (ho : OpR X (compareOp op) r) (ha : PE X a ta) (hb : PE X b tb) (hm : behindInMarks op b = false) : PT X (.Compare a [op] [b] pos) (tTest (tOp r ta tb)) := by
  intro pins s σ H Q I h
  refine wpAny_isTrue_Compare1 (thn (ha pins s σ H _ I h) fun v s1 ⟨x, H1, I1, r1, q1⟩ => thn (hb pins s1 σ H1 _ I1 q1) fun u s2 ⟨y, H2, I2, r2, q2⟩ =>
    thn (ho pins s2 σ H2 x y v u _ I2 r1 r2 q2) fun c s3 ⟨z, H3, I3, r3, k, e, q3⟩ => ?_) hm
  subst e
  cases r3
  exact wpAny_truthy_bool ⟨H3, I3, q3⟩
noncomputable def TruV (K : PySem.W.Frag) (x : V) (H : Hp) (k : Bool) : Prop :=
  match x with
  | .non => k = false
  | .bl b => k = b
  | .int i => k = (i != 0)
  | .str y => y.length ≤ sizeLine ∧ k = ((y.length : Int) != 0)
  | .byt y => y.size ≤ sizeLine ∧ k = ((y.size : Int) != 0)
  | .ref p => (∃ xs, SqL K H p xs ∧ k = !xs.isEmpty) ∨ (∃ xs, SqT K H p xs ∧ k = !xs.isEmpty) ∨ ∃ kvs, H p = some (.dK kvs) ∧ k = !kvs.isEmpty
  | _ => False
theorem isEmpty_kv {κ : Type} {kvs : List (κ × V)} {vs : List (κ × Value)} (r : KV kvs vs) : (!vs.isEmpty) = !kvs.isEmpty := by
  cases r <;> rfl
theorem isEmpty_of {xs : List V} {its : List Value} (r : Vals xs its) : (!its.toArray.isEmpty) = !xs.isEmpty := by
  cases r <;> simp
theorem line63 : (sizeLine : Nat) < 2 ^ 63 := by rw [sizeLine_eq]; decide
theorem tru_ok : TruR X (fun x H Q => ∃ k, TruV X.K x H k ∧ Q k H) := by
  intro pins s σ H x v Q I rx h
  obtain ⟨k, e, q⟩ := h
  have hl := line63
  have hs : sizeLine = 16777216 := sizeLine_eq
  cases x with
  | non =>
    cases rx
    have e' : k = false := e
    subst e'
    exact truthy_none ⟨H, I, q⟩
  | bl b =>
    cases rx
    have e' : k = b := e
    subst e'
    exact wpAny_truthy_bool ⟨H, I, q⟩
  | int i =>
    obtain ⟨t, rfl⟩ := rx
    have e' : k = (i != 0) := e
    subst e'
    exact PySem.P.truthy_int ⟨H, I, q⟩
  | str y =>
    obtain ⟨t, rfl⟩ := rx
    obtain ⟨hy, e'⟩ : y.length ≤ sizeLine ∧ k = ((y.length : Int) != 0) := e
    subst e'
    exact PySem.P.truthy_str (by omega) ⟨H, I.tok _, q⟩
  | byt y =>
    obtain ⟨t, rfl⟩ := rx
    obtain ⟨hy, e'⟩ : y.size ≤ sizeLine ∧ k = ((y.size : Int) != 0) := e
    subst e'
    exact PySem.W.truthy_bytes (by omega) ⟨H, I.tok _, q⟩
  | ref p =>
    cases rx
    have e' : (∃ xs, SqL X.K H p xs ∧ k = !xs.isEmpty) ∨ (∃ xs, SqT X.K H p xs ∧ k = !xs.isEmpty) ∨ ∃ kvs, H p = some (.dK kvs) ∧ k = !kvs.isEmpty := e
    rcases e' with ⟨xs, hx, e'⟩ | ⟨xs, hx, e'⟩ | ⟨kvs, hx, e'⟩
    · subst e'
      obtain ⟨its, r, pl, hz⟩ := I.list hx
      have hlen := r.length
      exact wpAny_truthy_list pl.isList (by simp only [List.size_toArray]; omega) ⟨H, I.tok _, by rw [isEmpty_of r]; exact q⟩
    · subst e'
      obtain ⟨its, r, pl, hz⟩ := I.tuple hx
      have hlen := r.length
      exact truthy_tuple pl (by simp only [List.size_toArray]; omega) ⟨H, I.tok _, by rw [isEmpty_of r]; exact q⟩
    · subst e'
      obtain ⟨hz, hS, vs, r, m⟩ : kvs.length ≤ sizeLine ∧ (p == sysModules) = false ∧ ∃ vs, KV kvs vs ∧ s.heap.DictOf (mixKind X.prog X.w) p vs := I.hok p _ hx
      have hlen : kvs.length = vs.length := Paired.length r
      exact wpAny_truthy_dict hS m (by omega) ⟨H, I.tok _, by rw [isEmpty_kv r]; exact q⟩
  | _ => exact (show False from e).elim
theorem pt_truth (ha : PE X a ta) (he : ∀ whole, isTrue a X.env whole = (do let v ← whole; standAt a.pos; holding [v] (truthy v))) :
    PT X a (fun σ H Q => ta σ H fun x H' => ∃ k, TruV X.K x H' k ∧ Q k H') := by
  intro pins s σ H Q I h
  exact isTrue_plain (thn (ha pins s σ H _ I h) fun v s1 ⟨x, H1, I1, r1, q1⟩ => tru_ok pins s1 σ H1 x v Q I1 r1 q1) (he _)

theorem vals1 {x : V} {us : List Value} (r : Vals [x] us) : ∃ u, us = [u] ∧ RelV x u := by
  cases r with
  | cons r1 r2 => cases r2; exact ⟨_, rfl, r1⟩
theorem vals2 {x y : V} {us : List Value} (r : Vals [x, y] us) : ∃ u w', us = [u, w'] ∧ RelV x u ∧ RelV y w' := by
  cases r with
  | cons r1 r2 =>
    cases r2 with
    | cons r3 r4 => cases r4; exact ⟨_, _, rfl, r1, r3⟩
theorem call_max2 (hc : X.calm = true) : CallR X (.builtin "max") (fun xs H Q => ∃ i j, xs = [.int i, .int j] ∧ Q (.int (if j > i then j else i)) H) := by
  intro pins s σ H xs us Q I r h
  obtain ⟨i, j, rfl, q⟩ := h
  obtain ⟨u, w', rfl, ⟨t, rfl⟩, ⟨t', rfl⟩⟩ := vals2 r
  refine max_two_ints (I.ok.hd hc) fun h' tk k => ⟨_, H, I.kept k, ?_, q⟩
  by_cases hj : j > i
  · rw [if_pos hj, if_pos hj]; exact ⟨_, rfl⟩
  · rw [if_neg hj, if_neg hj]; exact ⟨_, rfl⟩
theorem call_min2 (hc : X.calm = true) : CallR X (.builtin "min") (fun xs H Q => ∃ i j, xs = [.int i, .int j] ∧ Q (.int (if j < i then j else i)) H) := by
  intro pins s σ H xs us Q I r h
  obtain ⟨i, j, rfl, q⟩ := h
  obtain ⟨u, w', rfl, ⟨t, rfl⟩, ⟨t', rfl⟩⟩ := vals2 r
  refine min_two_ints (I.ok.hd hc) fun h' tk k => ⟨_, H, I.kept k, ?_, q⟩
  by_cases hj : j < i
  · rw [if_pos hj, if_pos hj]; exact ⟨_, rfl⟩
  · rw [if_neg hj, if_neg hj]; exact ⟨_, rfl⟩
end
end Internal

namespace Internal
open PySem PySem.Spec PyProof.Rows

set_option genInjectivity false in
set_option genSizeOf false in
structure ObjM (h : Heap) (x dx C : Addr) (mA : Str → Option Value) : Prop where
  obj : h.get? x = some (PySem.W.instObj C dx)
  ns : h.Ns1 dx mA
  ne : dx ≠ x

theorem lookIn_ns {h : Heap} {dx : Addr} {mA : Str → Option Value} (n : h.Ns1 dx mA) : ∃ od, h.get? dx = some od ∧ ∀ name, PySem.W.lookIn name od = some (mA name) := by
  obtain ⟨o, es, ep, ho, hd, hk, _, hm⟩ := n
  refine ⟨o, ho, fun name => ?_⟩
  have e := hm name
  unfold nsFind findBy at e
  rw [← Array.find?_toList] at e
  unfold PySem.W.lookIn
  rw [hd]
  dsimp only
  split
  · rename_i y q
    rw [q] at e
    exact congrArg some e
  · rename_i q
    rw [q] at e
    have a : es.toList.any (·.refKey) = false := by
      rw [List.any_eq_false]
      intro y hy
      obtain ⟨z, t, hkey⟩ := hk y (Array.mem_toList_iff.mp hy)
      simp [DictEntry.refKey, hkey]
    have a' : ¬ es.toList.any (·.refKey) = true := by rw [a]; exact Bool.false_ne_true
    rw [if_neg a']
    exact congrArg some e

theorem ObjM.look {h : Heap} {x dx C : Addr} {mA : Str → Option Value} (I : ObjM h x dx C mA) : ∃ od, PySem.W.InstAt h x (PySem.W.instObj C dx) C (some od) ∧ ∀ name, PySem.W.lookIn name od = some (mA name) :=
  let ⟨od, ho, hl⟩ := lookIn_ns I.ns
  ⟨od, ⟨I.obj, rfl, rfl, ho⟩, hl⟩

section
variable {prog : Program} {w : World} {A : Around} {E : Value → Shared → Prop} {s : Shared} {K : PySem.W.Frag} {x dx C f : Addr} {mA : Str → Option Value} {name : Str} {v : Value}

end

section
variable {P : Program} {w : World} {H H' : Hp} {h h' : Heap} {a C dx : Addr} {fs fs' : List (Str × V)}
theorem ins_get (hok : HOk P w H h) (e : H a = some (.ins C dx fs)) : ∃ mA, ObjM h a dx C mA ∧ (∀ f, RelO (fs.lookup f) (mA f)) ∧ PySem.Within mA (fs.map (·.1)) ∧ fs.length ≤ 1000 ∧ H dx = some (.own a) := by
  obtain ⟨d, z, ne, ob, mA, n, r, q⟩ := (show ObjOk P w H h a (.ins C dx fs) from hok a _ e)
  exact ⟨mA, ⟨ob, n, ne⟩, r, q, z, d⟩
end

set_option genInjectivity false in
set_option genSizeOf false in
structure Cls (K : PySem.W.Frag) (C : Addr) : Prop where
  pg : PySem.W.plainGet K C Str.empty = true
  hd : PySem.W.hasDictIn K C = true
  po : PySem.W.plainOver K C = true
  sa : PySem.W.findIn K (.ref C) "__setattr__" = some (some (.builtin "object.__setattr__"))
theorem Cls.get {K : PySem.W.Frag} {C : Addr} (c : Cls K C) (f : Str) : PySem.W.plainGet K C f = true := c.pg
set_option genInjectivity false in
set_option genSizeOf false in
structure Con (K : PySem.W.Frag) (C : Addr) (f : Str) (v : V) (u : Value) : Prop where
  at_ : PySem.W.findIn K (.ref C) f = some (some u)
  rel : RelV v u
  get : PySem.W.specialIn K u "__get__" = some none
  cp : PySem.W.copiedNames.contains f = false
set_option genInjectivity false in
set_option genSizeOf false in
structure Meth (K : PySem.W.Frag) (C : Addr) (m : Str) (f : Addr) : Prop where
  at_ : PySem.W.findIn K (.ref C) m = some (some (.ref f))
  fn : PySem.W.isFn K (.ref f) = true
  kp : PySem.W.keepIn K (.ref f) = true

section
variable {X : Cx} {pins : List (Addr × Obj)} {σ : St} {H : Hp} {s : Shared} {a C dx : Addr} {fs : List (Str × V)} {f : Str} {v : V} {A : Around} {E : Value → Shared → Prop}

end

section
variable {X : Cx} {o e value : Expr} {f : Str} {pos pos' tpos : Pos} {ta tv : TE}
end

section
variable {X : Cx} {pins : List (Addr × Obj)} {σ : St} {H : Hp} {s : Shared} {A : Around} {E : Value → Shared → Prop} {Q : Value → Shared → Prop} {c : Value} {b : Bool}
inductive TyOf (K : PySem.W.Frag) (H : Hp) : V → Value → Prop where
  | non : TyOf K H .non (.type "NoneType")
  | bl (x : Bool) : TyOf K H (.bl x) (.type "bool")
  | int (i : Int) : TyOf K H (.int i) (.type "int")
  | str (x : Str) : TyOf K H (.str x) (.type "str")
  | flt (x : UInt64) : TyOf K H (.flt x) (.type "float")
  | lst {a : Addr} {xs : List V} (e : H a = some (.lst xs)) : TyOf K H (.ref a) (.type "list")
  | frz {a : Addr} {o : Obj} {xs : List V} (e : H a = some (.frz o (.lst xs))) : TyOf K H (.ref a) (.type "list")
  | tup {a : Addr} {xs : List V} (e : H a = some (.tup xs)) : TyOf K H (.ref a) (.type "tuple")
  | dK {a : Addr} {kvs : List (Key × V)} (e : H a = some (.dK kvs)) : TyOf K H (.ref a) (.type "dict")
  | dT {a : Addr} {kvs : List (List Key × V)} (e : H a = some (.dT kvs)) : TyOf K H (.ref a) (.type "dict")
  | ins {a C dx : Addr} {fs : List (Str × V)} (e : H a = some (.ins C dx fs)) (cl : Cls K C) (ha : PySem.W.findIn K (.ref C) "__class__" = some (some (.builtin "object.__class__")))
      (hn : PySem.W.specialIn K (.builtin "object.__class__") "__get__" = some (some (.builtin "getset_descriptor.__get__"))) (htk : PySem.W.takesIn K (.builtin "object.__class__") = some true)
      (hm : PySem.W.mroIn K C (.type "object") = some true) : TyOf K H (.ref a) (.ref C)
theorem isinst_ok {x : V} {u t : Value} (I : Inv X pins σ H s) (rx : RelV x u) (ty : TyOf X.K H x t) (e : PySem.W.kitOne X.K t c = some b) (h : ∀ tk, Q (.bool b) { s with toks := tk }) :
    wpAny (model X.prog X.w) A (call (.builtin "isinstance") [u, c]) Q E s := by
  cases ty with
  | non => cases (show u = Value.none from rx); exact PySem.W.kia_one PySem.W.kitx_none I.kIn True.intro e (fun z => nomatch z) h
  | bl y => cases (show u = Value.bool y from rx); exact PySem.W.kia_one PySem.W.kitx_bool I.kIn True.intro e (fun z => nomatch z) h
  | int i => obtain ⟨t, q⟩ := (show ∃ t, u = Value.int i t from rx); cases q; exact PySem.W.kia_one PySem.W.kitx_int I.kIn True.intro e (fun z => nomatch z) h
  | str y => obtain ⟨t, q⟩ := (show ∃ t, u = Value.str y t from rx); cases q; exact PySem.W.kia_one PySem.W.kitx_str I.kIn True.intro e (fun z => nomatch z) h
  | flt y => obtain ⟨t, q⟩ := (show ∃ t, u = Value.float y t from rx); cases q; exact PySem.W.kia_one PySem.W.kitx_float I.kIn True.intro e (fun z => nomatch z) h
  | @lst a xs ea =>
    cases (show u = Value.ref a from rx)
    obtain ⟨_, _, n, _, h1⟩ := (show ObjOk X.prog X.w H s.heap a (.lst xs) from I.hok a _ ea)
    exact PySem.W.kia_one PySem.W.kitx_list I.kIn ⟨_, h1, rfl⟩ e (fun z => nomatch z) h
  | @frz a ob xs ea =>
    cases (show u = Value.ref a from rx)
    obtain ⟨_, _, _, n, _, h1⟩ := (show ObjOk X.prog X.w H s.heap a (.frz ob (.lst xs)) from I.hok a _ ea)
    exact PySem.W.kia_one PySem.W.kitx_list I.kIn ⟨_, h1, rfl⟩ e (fun z => nomatch z) h
  | @tup a xs ea =>
    cases (show u = Value.ref a from rx)
    obtain ⟨_, _, _, p⟩ := (show ObjOk X.prog X.w H s.heap a (.tup xs) from I.hok a _ ea)
    obtain ⟨o, h1, h2, _⟩ := p
    exact PySem.W.kia_one PySem.W.kitx_tuple I.kIn ⟨o, h1, h2⟩ e (fun z => nomatch z) h
  | @dK a kvs ea =>
    cases (show u = Value.ref a from rx)
    obtain ⟨_, _, vs, _, p⟩ := (show ObjOk X.prog X.w H s.heap a (.dK kvs) from I.hok a _ ea)
    obtain ⟨o, es, ep, h1, h2, _⟩ := p
    exact PySem.W.kia_one PySem.W.kitx_dict I.kIn ⟨o, h1, h2.1⟩ e (fun z => nomatch z) h
  | @dT a kvs ea =>
    cases (show u = Value.ref a from rx)
    obtain ⟨_, _, xs, _, o, es, ep, h1, h2, _⟩ := (show ObjOk X.prog X.w H s.heap a (.dT kvs) from I.hok a _ ea)
    exact PySem.W.kia_one PySem.W.kitx_dict I.kIn ⟨o, h1, h2.1⟩ e (fun z => nomatch z) h
  | @ins a C dx fs ea cl ha hn htk hm =>
    cases (show u = Value.ref a from rx)
    obtain ⟨mA, O, _⟩ := ins_get I.hok ea
    obtain ⟨od, J, _⟩ := O.look
    exact PySem.W.kia_one (PySem.W.kitx_own (cl.get _) cl.hd ha hn htk hm) I.kIn J e (fun z => nomatch z) h
end
end Internal

namespace Internal
open PySem PySem.Spec PyProof.Rows

set_option genInjectivity false in
set_option genSizeOf false in
structure Room (k : Nat) (A : Around) : Prop where
  hd : A.handled = none
  dp : A.depth + 3 * k + 5 < recursionLimit
  un : A.units + 16 * k + 200 < cLine
theorem Room.mono {j k : Nat} {A : Around} (r : Room k A) (h : j ≤ k) : Room j A := ⟨r.hd, by have := r.dp; omega, by have := r.un; omega⟩
theorem Room.deeper {k : Nat} {A : Around} (r : Room (k + 1) A) (env : Env) : Room k (A.deeper env) :=
  ⟨r.hd, by have := r.dp; show A.depth + 1 + 3 * k + 5 < _; omega, by have := r.un; show A.units + 3 + 16 * k + 200 < _; omega⟩
theorem Room.depth {k : Nat} {A : Around} (r : Room k A) : A.depth < recursionLimit := by have := r.dp; omega
theorem Room.units {k : Nat} {A : Around} (r : Room k A) : A.units + 64 < cLine := by have := r.un; omega
noncomputable abbrev tNil : TA := fun _ H Q => Q [] H
noncomputable abbrev tCons (ta : TE) (tr : TA) : TA := fun σ H Q => ta σ H fun x H1 => tr σ H1 fun xs H2 => Q (x :: xs) H2
section
variable {X : Cx} {e : Expr} {es : List Expr} {te : TE} {t : TA} {pos : Pos}
theorem pa_nil : PA X [] tNil := fun _ _ _ _ H Q I h => Calls.spliced_nil ⟨[], H, I, .nil, h⟩
theorem pa_cons (ha : PE X e te) (hr : PA X es t) (hs : autoParam (starEach (e :: es) X.env = (false, eval e X.env) :: starEach es X.env) Internal.aut2._auto_1) : PA X (e :: es) (tCons te t) := by
  intro pos pins s σ H Q I h
  rw [hs]
  show wpAny _ _ (spliced ((false, eval e X.env) :: backTo pos (starEach es X.env))) _ _ s
  refine Calls.spliced_cons (thn (ha pins s σ H _ I h) fun u s1 zz => ?_)
  obtain ⟨x, H1, I1, r1, q1⟩ := zz
  exact thn (hr pos pins s1 σ H1 _ I1 q1) fun us s2 ⟨xs, H2, I2, r2, q2⟩ => ⟨x :: xs, H2, I2, .cons r1 r2, q2⟩

noncomputable def tTup (t : TA) : TE := fun σ H Q => t σ H fun xs H1 => xs.length ≤ sizeLine ∧ ∀ p, H1 p = none → Q (.ref p) (upd H1 p (.tup xs))
noncomputable def tLst (t : TA) : TE := fun σ H Q => t σ H fun xs H1 => xs.length ≤ sizeLine ∧ ∀ p, H1 p = none → Q (.ref p) (upd H1 p (.lst xs))
theorem pe_tup {x1} (h : PA X es t) : PE X (.Tuple es x1 pos) (tTup t) := by
  intro pins s σ H Q I hq
  refine wpAny_Tuple_spliced (thn (h pos pins s σ H _ I hq) fun us s1 ⟨xs, H1, I1, r, z, q⟩ => ⟨by rw [← r.length]; exact z, ?_⟩)
  have hf : H1 s1.heap.objs.size = none := I1.hok.fresh (Nat.le_refl _)
  refine ⟨.ref s1.heap.objs.size, upd H1 s1.heap.objs.size (.tup xs), I1.laid (t' := s1.toks) (fun b u e => Heap.get?_push_of_some _ e) (Nat.le_refl _) ?_, rfl, q _ hf⟩
  exact ⟨z, us, r, ⟨_, Heap.get?_push_size _ rfl, rfl, _, rfl⟩⟩
theorem pe_lst (h : PA X es t) : PE X (.List es pos) (tLst t) := by
  intro pins s σ H Q I hq
  refine wpAny_List_spliced (thn (h pos pins s σ H _ I hq) fun us s1 ⟨xs, H1, I1, r, z, q⟩ => ⟨by rw [← r.length]; exact z, ?_⟩)
  have hf : H1 s1.heap.objs.size = none := I1.hok.fresh (Nat.le_refl _)
  refine ⟨.ref s1.heap.objs.size, upd H1 s1.heap.objs.size (.lst xs), I1.laid (t' := s1.toks) (fun b u e => Heap.get?_push_of_some _ e) (Nat.le_refl _) ?_, rfl, q _ hf⟩
  exact ⟨z, us, 0, r, Heap.get?_push_size _ rfl⟩
end

noncomputable abbrev Sp := List V → Hp → VK → XK → Prop
noncomputable abbrev CXT := List Env → Hp → Shared → XK → Value → Shared → Prop

set_option genInjectivity false in
set_option genSizeOf false in
structure Env0 (P : Program) (w : World) (K : PySem.W.Frag) (mg : Str → Option Value) (base : Heap) (A : Around) (outer : List Env) (s : Shared) (H : Hp) : Prop where
  frames : A.frames = some outer
  mod : Mod K mg base
  bs : ∀ b o, base.get? b = some o → s.heap.get? b = some o ∧ H b = none
  bsz : base.objs.size ≤ s.heap.objs.size
  funs : s.heap.FunFrames base outer
  frf : ∀ b ∈ frs outer, H b = none
  hok : HOk P w H s.heap
  bare : AllBare s.gens
noncomputable def CE (outer : List Env) (P : Program) (w : World) (H : Hp) (s : Shared) (Q : VK) (u : Value) (s' : Shared) : Prop :=
  ∃ v H', s'.os = s.os ∧ AllBare s'.gens ∧ Un (frs outer) [] H H' s.heap s'.heap ∧ HOk P w H' s'.heap ∧ RelV v u ∧ Q v H'
noncomputable def CR (CX : CXT) (outer : List Env) (P : Program) (w : World) (H : Hp) (s : Shared) (Q : VK) (E : XK) (r : Result) (s' : Shared) : Prop :=
  match r with
  | .ok (.ret u) => CE outer P w H s Q u s'
  | .ok _ => False
  | .error e => CX outer H s E e s'
set_option genInjectivity false in
set_option genSizeOf false in
structure FnOk (P : Program) (w : World) (K : PySem.W.Frag) (mg : Str → Option Value) (base : Heap) (CX : CXT) (k : Nat) (f : Addr) (fd : FuncData) (ps : List Str) (sp : Sp) : Prop where
  len : ∀ vs H Q E, sp vs H Q E → vs.length = ps.length
  run : ∀ (A : Around) (outer : List Env) (s : Shared) (H : Hp) (args : Args) (us : List Value) (vs : List V) (Q : VK) (E : XK), Room k A → Env0 P w K mg base A outer s H → BindsTo s fd args (ps.zip us) → Vals vs us → sp vs H Q E →
    codeAny (model P w) A (.call (.ref f) args) (CR CX outer P w H s Q E) s
theorem Env0.in1 {P : Program} {w : World} {K : PySem.W.Frag} {mg : Str → Option Value} {base : Heap} {A : Around} {outer : List Env} {s : Shared} {H : Hp} (e : Env0 P w K mg base A outer s H) :
    Env0 P w K mg base A.in1 outer s H := ⟨e.frames, e.mod, e.bs, e.bsz, e.funs, e.frf, e.hok, e.bare⟩

section
variable {X : Cx} {pins : List (Addr × Obj)} {σ : St} {H : Hp} {s s' : Shared}
theorem Inv.env0 (I : Inv X pins σ H s) : Env0 X.prog X.w X.K X.mg X.base X.A X.stack s H :=
  ⟨I.ok.frames, I.ok.mod, I.bs, Nat.le_trans I.ok.bsz I.sz, I.stack, I.stkFree, I.hok, I.bare⟩
theorem Inv.after {Q : VK} {u : Value} (I : Inv X pins σ H s) (h : CE X.stack X.prog X.w H s Q u s') : EP X pins σ Q u s' := by
  obtain ⟨v, H', os, bare, un, hok, r, q⟩ := h
  obtain ⟨hh, g, d, t, os'⟩ := s'
  obtain rfl : os' = s.os := os
  exact ⟨v, H', I.call (h' := hh) (g' := g) (d' := d) (t' := t) (ch := []) un hok bare (fun b z => absurd z (by simp)), r, q⟩
end

noncomputable def tCall (sp : Sp) (dvs : List V) (E : XK) (t : TA) : TE := fun σ H Q => t σ H fun vs H1 => sp (vs ++ dvs) H1 Q E
noncomputable def Binds (K : PySem.W.Frag) (fd : FuncData) (ps : List Str) (ds : List Value) : Prop :=
  ∀ (s : Shared) (us : List Value), K.In s.heap → (us ++ ds).length = ps.length → BindsTo s fd ⟨us, []⟩ (ps.zip (us ++ ds))
theorem Binds.all {K : PySem.W.Frag} {fd : FuncData} {ps : List Str} (h : ∀ us : List Value, us.length = ps.length → bindArgs fd ⟨us, []⟩ = pure (ps.zip us)) : Binds K fd ps [] := fun s us _ hl => by
  rw [List.append_nil] at hl ⊢
  exact .of_eq (h us hl)

noncomputable def Passes (CX : CXT) (X : Cx) (E : XK) : Prop := ∀ (pins : List (Addr × Obj)) (σ : St) (H : Hp) (s : Shared) (e : Value) (s' : Shared), Inv X pins σ H s → CX X.stack H s E e s' → X.xe e s'

section
variable {X : Cx} {CX : CXT} {k : Nat} {f C : Addr} {fd : FuncData} {ps : List Str} {sp : Sp} {dvs : List V} {ds : List Value} {E : XK} {x m : Str} {p pos apos : Pos} {e o : Expr} {es : List Expr} {ta : TE} {t : TA}

theorem run_fn {pins : List (Addr × Obj)} {σ : St} {H : Hp} {s : Shared} {Q : VK} {us : List Value} {vs : List V} (F : FnOk X.prog X.w X.K X.mg X.base CX k f fd ps sp) (hr : Room k X.A) (hb : Binds X.K fd ps ds) (hd : Vals dvs ds) (hx : Passes CX X E)
    (I : Inv X pins σ H s) (r : Vals vs us) (h : sp (vs ++ dvs) H Q E) : wpAny (model X.prog X.w) X.A (call (.ref f) us) (EP X pins σ Q) X.xe s := by
  have r2 : Vals (vs ++ dvs) (us ++ ds) := r.append hd
  have hl : (us ++ ds).length = ps.length := by rw [← r2.length]; exact F.len _ _ _ _ h
  refine wpAny_call (codeAny_mono (F.run X.A X.stack s H ⟨us, []⟩ (us ++ ds) (vs ++ dvs) Q E hr I.env0 (hb s us I.kIn hl) r2 h) fun r s' hq => ?_)
  cases r with
  | error e => exact hx pins σ H s e s' I hq
  | ok fl =>
    cases fl with
    | ret u => exact I.after hq
    | next => exact False.elim hq
    | brk => exact False.elim hq
    | cont => exact False.elim hq

theorem pe_call (F : FnOk X.prog X.w X.K X.mg X.base CX k f fd ps sp) (hr : Room k X.A) (hg : Gl X x) (hm : X.mg x = some (.ref f)) (hk : PySem.W.keepIn X.K (.ref f) = true) (hb : Binds X.K fd ps ds) (hd : Vals dvs ds) (hx : Passes CX X E)
    (ha : PA X (e :: es) t) (hdb : autoParam ((x == ("__debug__" : Str)) = false) Internal.aut1._auto_1) (he : autoParam (starEach (e :: es) X.env = (false, eval e X.env) :: starEach es X.env) Internal.aut2._auto_1) (hpl : autoParam ((backTo pos (starEach es X.env)).any (·.1) = false) Internal.aut2._auto_1) :
    PE X (.Call (.Name x p) (e :: es) [] pos) (tCall sp dvs E t) := by
  intro pins s σ H Q I h
  refine wpAny_Call_Name_kw (ld_glob I hg hm ?_ hdb)
  refine PySem.W.callWith_K (h₀ := X.base) I.ok.mod.kin hk (thn (ha pos pins s σ H _ I h) fun us s1 ⟨vs, H1, I1, r, q⟩ => ⟨I1.kIn, ?_⟩) he hpl
  exact run_fn F hr hb hd hx I1 r q
set_option genInjectivity false in
set_option genSizeOf false in
structure Mk (K : PySem.W.Frag) (C f : Addr) : Prop where
  makes : PySem.W.makesIn K C = true
  init : PySem.W.findIn K (.ref C) "__init__" = some (some (.ref f))
  fn : PySem.W.isFn K (.ref f) = true
  kp : PySem.W.keepIn K (.ref C) = true

end

noncomputable def PK (X : Cx) (kws : List Keyword) (t : TA) : Prop :=
  ∀ (pos : Pos) (pins : List (Addr × Obj)) (s : Shared) (σ : St) (H : Hp) (Q : List V → Hp → Prop), Inv X pins σ H s → t σ H Q → wpAny (model X.prog X.w) X.A (evalAll ((backToKw pos (keywordEach kws X.env)).map (·.2))) (AP X pins σ Q) X.xe s
section
variable {X : Cx} {CX : CXT} {k : Nat} {f C : Addr} {fd : FuncData} {ps ks : List Str} {sp : Sp} {E : XK} {x m : Str} {p pos apos kpos : Pos} {e o : Expr} {es : List Expr} {kws : List Keyword} {te ta : TE} {t tk : TA} {nm : Option Str}
theorem pk_nil : PK X [] tNil := fun _ _ _ _ H Q I h => wpAny_evalAll_nil ⟨[], H, I, .nil, h⟩
theorem pk_cons (ha : PE X e te) (hr : PK X kws t) : PK X (⟨nm, e, kpos⟩ :: kws) (tCons te t) := by
  intro pos pins s σ H Q I h
  show wpAny _ _ (evalAll ((do let v ← eval e X.env; standAt pos; pure v) :: (backToKw pos (keywordEach kws X.env)).map (·.2))) _ _ s
  refine wpAny_evalAll_cons (wpAny_bind (thn (ha pins s σ H _ I h) fun u s1 ⟨x, H1, I1, r1, q1⟩ => wpAny_bind (wpAny_standAt (wpAny_pure ?_))))
  exact thn (hr pos pins s1 σ H1 _ I1 q1) fun us s2 ⟨xs, H2, I2, r2, q2⟩ => ⟨x :: xs, H2, I2, .cons r1 r2, q2⟩

set_option genInjectivity false in
set_option genSizeOf false in
structure KBinds (K : PySem.W.Frag) (fd : FuncData) (ps ks : List Str) (g : List Value → List Value → List Value) (gV : List V → List V → List V) : Prop where
  to : ∀ (s : Shared) (us ws : List Value), K.In s.heap → (g us ws).length = ps.length → BindsTo s fd ⟨us, ks.zip ws⟩ (ps.zip (g us ws))
  rel : ∀ {vs : List V} {us : List Value} {zs : List V} {ws : List Value}, Vals vs us → Vals zs ws → Vals (gV vs zs) (g us ws)
variable {g : List Value → List Value → List Value} {gV : List V → List V → List V}
end

set_option genInjectivity false in
set_option genSizeOf false in
structure FnScope (N P : List Str) (sc : Scope) : Prop where
  kind : sc.kind = .function
  co : sc.isCoroutine = false
  gen : sc.isGenerator = false
  nd : N.Nodup
  pre : N.take P.length = P
  par : ∀ x ∈ P, sc.names.lookup x = some .local ∨ sc.names.lookup x = some .cell
  nofree : ∀ y ∈ sc.names, y.2 ≠ .free

theorem bindL_out {kindOf : Str → Option NameKind} {x : Str} : ∀ {binds : List (Str × Value)} {m : Str → Option Value}, (∀ v, (x, v) ∉ binds) → bindL kindOf binds m x = m x
  | [], _, _ => rfl
  | (n, v) :: r, m, h => by
    unfold bindL
    rw [bindL_out fun w hw => h w (List.mem_cons_of_mem _ hw)]
    split
    · have : x ≠ n := by rintro rfl; exact h v List.mem_cons_self
      simp [this]
    · rfl
theorem bindC_out {kindOf : Str → Option NameKind} {x : Str} : ∀ {binds : List (Str × Value)} {m : Str → Option Value}, (∀ v, (x, v) ∉ binds) → bindC kindOf binds m x = m x
  | [], _, _ => rfl
  | (n, v) :: r, m, h => by
    unfold bindC
    rw [bindC_out fun w hw => h w (List.mem_cons_of_mem _ hw)]
    split
    · rfl
    · have : x ≠ n := by rintro rfl; exact h v List.mem_cons_self
      simp [this]
theorem bindL_get {kindOf : Str → Option NameKind} {x : Str} {v : Value} : ∀ {P : List Str} {vs : List Value} {i : Nat} {m : Str → Option Value}, P.Nodup → P[i]? = some x → vs[i]? = some v → kindOf x = some .local →
    bindL kindOf (P.zip vs) m x = some v
  | [], _, _, _, _, h, _, _ => by simp at h
  | _ :: _, [], _, _, _, _, h, _ => by simp at h
  | p :: P, w :: vs, 0, m, nd, h1, h2, hk => by
    simp at h1 h2; subst h1; subst h2
    show bindL kindOf ((p, w) :: P.zip vs) m p = _
    unfold bindL
    rw [bindL_out fun v hv => (List.nodup_cons.mp nd).1 (List.of_mem_zip hv).1, if_pos hk]
    simp
  | p :: P, w :: vs, i + 1, m, nd, h1, h2, hk => by
    show bindL kindOf ((p, w) :: P.zip vs) m x = _
    unfold bindL
    exact bindL_get (i := i) (List.nodup_cons.mp nd).2 (by simpa using h1) (by simpa using h2) hk
theorem bindC_get {kindOf : Str → Option NameKind} {x : Str} {v : Value} : ∀ {P : List Str} {vs : List Value} {i : Nat} {m : Str → Option Value}, P.Nodup → P[i]? = some x → vs[i]? = some v → kindOf x ≠ some .local →
    bindC kindOf (P.zip vs) m x = some v
  | [], _, _, _, _, h, _, _ => by simp at h
  | _ :: _, [], _, _, _, _, h, _ => by simp at h
  | p :: P, w :: vs, 0, m, nd, h1, h2, hk => by
    simp at h1 h2; subst h1; subst h2
    show bindC kindOf ((p, w) :: P.zip vs) m p = _
    unfold bindC
    rw [bindC_out fun v hv => (List.nodup_cons.mp nd).1 (List.of_mem_zip hv).1, if_neg hk]
    simp
  | p :: P, w :: vs, i + 1, m, nd, h1, h2, hk => by
    show bindC kindOf ((p, w) :: P.zip vs) m x = _
    unfold bindC
    exact bindC_get (i := i) (List.nodup_cons.mp nd).2 (by simpa using h1) (by simpa using h2) hk

noncomputable def start (N : List Str) (vs : List V) : St := vs.map some ++ List.replicate (N.length - vs.length) none

noncomputable def cxOf (CX : CXT) (P : Program) (w : World) (K : PySem.W.Frag) (mg : Str → Option Value) (base : Heap) (N : List Str) (qual : Str) (scope : Scope) (f : Addr) (cd : Value) (A : Around) (outer : List Env) (s : Shared) (H : Hp) (E : XK) : Cx where
  prog := P
  w := w
  K := K
  mg := mg
  base := base
  A := A.deeper (envOfC qual scope s.heap.objs.size f cd)
  N := N
  s₀ := s
  H₀ := H
  env := envOfC qual scope s.heap.objs.size f cd
  outer := outer
  stack := envOfC qual scope s.heap.objs.size f cd :: outer
  ex := []
  calm := true
  fn := fun _ => true
  pn := []
  xe := fun e s' => wpAny (model P w) (A.deeper (envOfC qual scope s.heap.objs.size f cd)) (leaving (envOfC qual scope s.heap.objs.size f cd) e) (fun _ s'' => CX outer H s E e s'') (fun e' s'' => CX outer H s E e' s'') s'

theorem cell_has {sc : Scope} {n : Nat} {x : Str} (h : sc.names.lookup x = some .cell) : ∃ c, (cellsFrom n sc.names []).lookup x = some c := by
  have q := PySem.W.cellsFrom_some sc.names n [] (.inl h)
  exact Option.isSome_iff_exists.mp q

theorem inv_start {CX : CXT} {P : Program} {w : World} {K : PySem.W.Frag} {mg : Str → Option Value} {base : Heap} {N ps : List Str} {qual : Str} {scope : Scope} {f : Addr} {cd : Value} {A : Around} {outer : List Env} {s s1 : Shared} {H : Hp} {E : XK} {us : List Value} {vs : List V}
    (S : FnScope N ps scope) (hd : A.handled = none) (e0 : Env0 P w K mg base A outer s H) (hl : vs.length = ps.length) (r : Vals vs us)
    (x : InCallC s s.heap.objs.size (bindL (envOfC qual scope s.heap.objs.size f cd).kindOf (ps.zip us) fun _ => none) (cellsFrom (s.heap.objs.size + 1) scope.names []) (bindC (envOfC qual scope s.heap.objs.size f cd).kindOf (ps.zip us) fun _ => none) s1) :
    Inv (cxOf CX P w K mg base N qual scope f cd A outer s H E) [] (start N vs) H s1 := by
  have hpl : ps.length ≤ N.length := by have := congrArg List.length S.pre; rw [List.length_take] at this; omega
  obtain ⟨h1, tk, rfl, hk⟩ := x.done
  have noA : ∀ b : Addr, b ∉ (cxOf CX P w K mg base N qual scope f cd A outer s H E).ex := fun b z => absurd (show b ∈ ([] : List Addr) from z) (by simp)
  refine ⟨⟨e0.mod, S.kind, rfl, rfl, Nat.le_refl _, fun y z c h1 h2 => ?_, fun y hy => ?_, fun y c _ h => ?_, fun _ => hd, Around.frames_deeper e0.frames, .inr ⟨rfl, rfl⟩, fun b z => absurd z (noA b), e0.bs, e0.bsz, fun b _ _ => noA b, fun b z => absurd z (noA b), e0.funs, e0.frf⟩,
    rfl, e0.bare, Un.kept hk, ⟨_, x.toInCall.ns, fun i y v h1 h2 h3 => ?_⟩, fun y c h => ⟨_, x.cell y c h⟩, e0.hok.fresh (Nat.le_refl _), fun y c h => ?_, fun p hp => absurd (show p ∈ ([] : List (Addr × Obj)) from hp) (by simp), e0.hok.kept hk, ?_⟩
  · exact name_of_addr x.apart (PySem.mem_of_lookup h1) (PySem.mem_of_lookup h2)
  · have hy : scope.names.lookup y = some .cell ∨ scope.names.lookup y = some .free := hy
    rcases hy with hy | hy
    · exact cell_has hy
    · exact absurd rfl (S.nofree _ (PySem.mem_of_lookup hy))
  · exact Nat.le_of_lt (x.above y c (PySem.mem_of_lookup h))
  · have hi : i < vs.length := by
      unfold start at h2
      by_cases hi : i < vs.length
      · exact hi
      · rw [List.getElem?_append_right (by simpa using hi)] at h2
        rw [List.getElem?_replicate] at h2
        split at h2 <;> cases h2
    have ha : vs[i]? = some v := by
      unfold start at h2
      rw [List.getElem?_append_left (by simpa using hi), List.getElem?_map] at h2
      cases e : vs[i]? with
      | none => rw [e] at h2; cases h2
      | some a => rw [e] at h2; cases h2; rfl
    obtain ⟨u, hu, rv⟩ := r.get ha
    have hp : ps[i]? = some y := by
      rw [← S.pre, List.getElem?_take_of_lt (by omega)]; exact h1
    have ndP : ps.Nodup := by rw [← S.pre]; exact S.nd.sublist (List.take_sublist _ _)
    refine ⟨u, rv, ?_⟩
    rcases S.par y (List.mem_of_getElem? hp) with k | k
    · exact .inl ⟨k, bindL_get ndP hp hu k⟩
    · obtain ⟨c, e⟩ := cell_has (n := s.heap.objs.size + 1) k
      refine .inr ⟨.inl k, c, e, ?_⟩
      have q := x.cell y c e
      rw [bindC_get ndP hp hu (by show scope.names.lookup y ≠ _; rw [k]; decide)] at q
      exact q
  · exact e0.hok.fresh (Nat.le_of_lt (x.above y c (PySem.mem_of_lookup h)))
  · unfold start
    show _ = N.length
    rw [List.length_append, List.length_map, List.length_replicate]
    omega

theorem fn_of {CX : CXT} {P : Program} {w : World} {K : PySem.W.Frag} {mg : Str → Option Value} {base : Heap} {k : Nat} {f : Addr} {name qual : Str} {params : Arguments} {body : List Stmt} {scope : Scope} {dV kV doc pm cdv ct oc : Value} {an od : Option Addr}
    {osl : Array (Option Value)} {N ps : List Str} {sp : Sp} (lk : K.lookup f = some ⟨oc, od, .func (PySem.W.fnOf name qual params body scope dV kV doc pm an cdv ct), osl⟩) (hcd : PySem.W.codeIn K cdv qual = true) (S : FnScope N ps scope)
    (len : ∀ vs H Q E, sp vs H Q E → vs.length = ps.length)
    (hbody : ∀ (A : Around) (outer : List Env) (s : Shared) (H : Hp) (vs : List V) (Q : VK) (E : XK), Room k (A.deeper (envOfC qual scope s.heap.objs.size f cdv)) → sp vs H Q E →
      ∃ t, PSs (cxOf CX P w K mg base N qual scope f cdv A outer s H E) body t ∧ t { nx := fun _ H' => Q .non H', rt := Q } (start N vs) H) :
    FnOk P w K mg base CX (k + 1) f (PySem.W.fnOf name qual params body scope dV kV doc pm an cdv ct) ps sp := by
  refine ⟨len, fun A outer s H args us vs Q E hr e0 hb r hsp => ?_⟩
  have hl := len _ _ _ _ hsp
  have KX : K.In s.heap := e0.mod.kin.keeps fun b o e => (e0.bs b o e).1
  have lim : s.heap.NoLimit := e0.mod.nolimit.keeps fun b o e => (e0.bs b o e).1
  have hkind : ∀ y ∈ ps.zip us, scope.names.lookup y.1 = some .local ∨ (scope.names.lookup y.1 = some .cell ∧ ((cellsFrom (s.heap.objs.size + 1) scope.names []).lookup y.1).isSome = true) := fun ⟨n, v⟩ hy => by
    rcases S.par n (List.of_mem_zip hy).1 with q | q
    · exact .inl q
    · exact .inr ⟨q, PySem.W.cellsFrom_some _ _ _ (.inl q)⟩
  refine codeAny_call_function hr.depth (KX _ _ lk) rfl S.co S.gen rfl (PySem.W.codeRec_of KX hcd) (hb _ _ _ _ ?_)
  refine wpAny_newFunctionEnv_cells S.kind hkind fun env he s1 x => ?_
  subst he
  refine ⟨lim.keeps x.toInCall.keep, codeAny_func ?_⟩
  obtain ⟨t, ht, hq⟩ := hbody A outer s H vs Q E (hr.deeper _) hsp
  have I : Inv (cxOf CX P w K mg base N qual scope f cdv A outer s H E) [] (start N vs) H s1 := inv_start S hr.hd e0 hl r x
  refine wpAny_mono (ht [] s1 (start N vs) H _ I hq) (fun fl s' hs => ?_) fun e s' hs => hs
  have fin : ∀ {σ' : St} {H' : Hp} {v : V} {u : Value}, Inv (cxOf CX P w K mg base N qual scope f cdv A outer s H E) [] σ' H' s' → RelV v u → Q v H' → CE outer P w H s Q u s' :=
    fun {σ' H' v u} J rv q => ⟨v, H', J.os, J.bare, J.base, J.hok, rv, q⟩
  cases fl with
  | ret u =>
    obtain ⟨v, σ', H', J, rv, q⟩ := hs
    exact fin J rv q
  | next =>
    obtain ⟨σ', H', J, q⟩ := hs
    exact fin (v := V.non) (u := Value.none) J rfl q
  | brk =>
    obtain ⟨_, _, _, q⟩ := hs
    exact False.elim q
  | cont =>
    obtain ⟨_, _, _, q⟩ := hs
    exact False.elim q
end Internal

namespace Internal
open PySem PySem.Spec PyProof.Rows
section
variable {X : Cx} {x : Str} {p pos : Pos} {e : Expr} {es : List Expr} {t : TA} {id T : String} {r : List V → Hp → VK → Prop}

noncomputable abbrev tCB (r : List V → Hp → VK → Prop) (t : TA) : TE := fun σ H Q => t σ H fun vs H1 => r vs H1 Q
theorem pe_callB (hc : CallR X (.builtin id) r) (hg : Gl X x) (hm : X.mg x = none) (hv : bootBuiltins x = some (.builtin id)) (ha : PA X (e :: es) t) (hn : autoParam (x ≠ "__name__") Internal.aut1._auto_1) (hdb : autoParam ((x == ("__debug__" : Str)) = false) Internal.aut1._auto_1)
    (he : autoParam (starEach (e :: es) X.env = (false, eval e X.env) :: starEach es X.env) Internal.aut2._auto_1) (hpl : autoParam ((backTo pos (starEach es X.env)).any (·.1) = false) Internal.aut2._auto_1) : PE X (.Call (.Name x p) (e :: es) [] pos) (tCB r t) := by
  intro pins s σ H Q I h
  refine wpAny_Call_Name_kw (ld_blt I hg hm hv ?_ hn hdb)
  exact PyProof.Rows.callWith_builtin1 (thn (ha pos pins s σ H _ I h) fun us s1 ⟨vs, H1, I1, r1, q1⟩ => hc pins s1 σ H1 vs us Q I1 r1 q1) he hpl
theorem pe_callTy (hc : CallR X (.type T) r) (hg : Gl X x) (hm : X.mg x = none) (hv : bootBuiltins x = some (.type T)) (ha : PA X (e :: es) t) (hn : autoParam (x ≠ "__name__") Internal.aut1._auto_1) (hdb : autoParam ((x == ("__debug__" : Str)) = false) Internal.aut1._auto_1)
    (he : autoParam (starEach (e :: es) X.env = (false, eval e X.env) :: starEach es X.env) Internal.aut2._auto_1) (hpl : autoParam ((backTo pos (starEach es X.env)).any (·.1) = false) Internal.aut2._auto_1) : PE X (.Call (.Name x p) (e :: es) [] pos) (tCB r t) := by
  intro pins s σ H Q I h
  refine wpAny_Call_Name_kw (ld_blt I hg hm hv ?_ hn hdb)
  exact PyProof.Rows.callWith_type1 (thn (ha pos pins s σ H _ I h) fun us s1 ⟨vs, H1, I1, r1, q1⟩ => hc pins s1 σ H1 vs us Q I1 r1 q1) he hpl
end
end Internal

namespace HT
open PySem PyProof.Rows

section
open PySem.SeqAt
open PySem.AutoSeq1 (wpAny_loadPart')
open PySem.MeetsSeq PySem.MeetsSeq2 PySem.MeetsSeq3

end

section
variable {prog : Program} {w : World} {A : Around} {E : Value → Shared → Prop} {s : Shared}

theorem cat_tup {t b : Addr} {vs ws : List Value} {Q : Value → Shared → Prop} (ht : IsTup s.heap t vs.toArray) (hb : IsTup s.heap b ws.toArray) (hv : vs ≠ [])
    (h1 : ws = [] → Q (.ref t) s) (h2 : ws ≠ [] → Q (.ref s.heap.objs.size) { s with heap := s.heap.push { cls := .type "tuple", data := .seq (vs ++ ws).toArray } })
    (hsz : vs.length + ws.length ≤ sizeLine) : wpAny (model prog w) A (binaryOp .Add (.ref t) (.ref b)) Q E s := by
  obtain ⟨⟨cls, dd, data, sl⟩, ho, hc, n, hd⟩ := id ht
  obtain ⟨⟨cls2, dd2, data2, sl2⟩, ho2, hc2, n2, hd2⟩ := id hb
  simp only at hc hd hc2 hd2
  subst hc hd hc2 hd2
  have e : vs.toArray ++ ws.toArray = (vs ++ ws).toArray := by simp
  by_cases hw : ws = []
  · exact concat_meets ⟨_, ho, rfl⟩ ⟨_, ho2, rfl⟩ noFill_tuple_add seq_tuple_add PySem.F.slot_tuple_add PySem.F.entry_tuple_add (PySem.F.args_tuple_add_2 _ _)
      (tuple_addW1 t b vs.toArray ws.toArray n n2 dd dd2 sl sl2 (by simpa using hv) (by simp [hw])) ⟨ho, ho2, h1 hw⟩
  · refine concat_meets ⟨_, ho, rfl⟩ ⟨_, ho2, rfl⟩ noFill_tuple_add seq_tuple_add PySem.F.slot_tuple_add PySem.F.entry_tuple_add (PySem.F.args_tuple_add_2 _ _)
      (tuple_addW2 t b vs.toArray ws.toArray n n2 dd dd2 sl sl2 (by simpa using hv) (by simpa using hw) (by rw [List.size_toArray, List.size_toArray]; exact hsz)) ⟨ho, ho2, ?_⟩
    rw [e]
    exact h2 hw

noncomputable def sIx (n d : Nat) : Option Int → Nat
  | none => d
  | some v => if v < 0 then (v + (n : Int)).toNat else min v.toNat n
theorem sIx_none (n d : Nat) : sIx n d none = d := rfl
theorem sIx_nat (n d k : Nat) : sIx n d (some (k : Int)) = min k n := by
  show (if (k : Int) < 0 then ((k : Int) + (n : Int)).toNat else min (k : Int).toNat n) = min k n
  rw [if_neg (by omega), Int.toNat_natCast]
end
end HT

namespace Internal
open PySem PySem.Spec PyProof.Rows

noncomputable abbrev TO := St → Hp → (Option Int → Hp → Prop) → Prop
noncomputable def PO (X : Cx) (e : Option Expr) (t : TO) : Prop :=
  ∀ (pins : List (Addr × Obj)) (s : Shared) (σ : St) (H : Hp) (Q : Option Int → Hp → Prop), Inv X pins σ H s → t σ H Q →
    wpAny (model X.prog X.w) X.A (evalPart e X.env) (fun u s' => ∃ o H', Inv X pins σ H' s' ∧ IsPart u o ∧ Q o H') X.xe s
noncomputable abbrev tNoPart : TO := fun _ H Q => Q none H
noncomputable def tPart (t : TE) : TO := fun σ H Q => t σ H fun x H1 => ∃ i, x = .int i ∧ Q (some i) H1

section
variable {X : Cx} {e : Expr} {te : TE} {lo hi : Option Expr} {tl th : TO} {pos p2 : Pos}

theorem po_none : PO X none tNoPart := by
  intro pins s σ H Q I h
  rw [evalPart_none]
  exact wpAny_pure ⟨none, H, I, .none, h⟩
theorem po_some (h : PE X e te) : PO X (some e) (tPart te) := by
  intro pins s σ H Q I hw
  rw [evalPart_some]
  refine thn (h pins s σ H _ I hw) fun u s1 zz => ?_
  obtain ⟨x, H1, I1, r1, q1⟩ := zz
  obtain ⟨i, rfl, q⟩ := q1
  obtain ⟨t, rfl⟩ := r1
  exact ⟨some i, H1, I1, .int i t, q⟩

noncomputable def SlR (X : Cx) (r : V → Option Int → Option Int → Hp → VK → Prop) : Prop :=
  ∀ (pins : List (Addr × Obj)) (s : Shared) (σ : St) (H : Hp) (x : V) (v vl vu : Value) (lo hi : Option Int) (sl : Addr) (Q : VK), Inv X pins σ H s → RelV x v → s.heap.IsSliceOf sl vl vu .none → IsPart vl lo → IsPart vu hi → r x lo hi H Q →
    ∃ T id, typeLookup (.type T) "__getitem__" = pure (some (.builtin id)) ∧ s.TypeIs v T ∧ wpAny (model X.prog X.w) X.A (getItem v (.ref sl)) (EP X pins σ Q) X.xe s
noncomputable abbrev tSl (r : V → Option Int → Option Int → Hp → VK → Prop) (te : TE) (tl th : TO) : TE := fun σ H Q => te σ H fun x H1 => tl σ H1 fun l H2 => th σ H2 fun u H3 => r x l u H3 Q
theorem pe_slice {r : V → Option Int → Option Int → Hp → VK → Prop} (hr : SlR X r) (he : PE X e te) (hl : PO X lo tl) (hu : PO X hi th) : PE X (.Subscript e (.Slice lo hi none p2) pos) (tSl r te tl th) := by
  intro pins s σ H Q I h
  refine Subscript_ (thn (he pins s σ H _ I h) fun v s1 zz => ?_)
  obtain ⟨x, H1, I1, r1, q1⟩ := zz
  refine wpAny_Slice (thn (hl pins s1 σ H1 _ I1 q1) fun vl s2 ⟨l, H2, I2, pl, q2⟩ => thn (hu pins s2 σ H2 _ I2 q2) fun vu s3 zz => ?_)
  obtain ⟨u, H3, I3, pu, q3⟩ := zz
  rw [evalPart_none]
  refine wpAny_pure ?_
  have I4 : Inv X pins σ H3 { s3 with heap := s3.heap.push { cls := .type "slice", data := .fields #[vl, vu, .none] } } := I3.kept (t' := s3.toks) fun b ob q => Heap.get?_push_of_some _ q
  obtain ⟨T, id, hT, ht, hg⟩ := hr pins { s3 with heap := s3.heap.push { cls := .type "slice", data := .fields #[vl, vu, .none] } } σ H3 x v vl vu l u s3.heap.objs.size Q I4 r1 (Heap.IsSliceOf.new ..) pl pu q3
  show wpAny (model X.prog X.w) X.A (subscriptTail e (.Slice lo hi none p2) v (.ref s3.heap.objs.size)) (EP X pins σ Q) X.xe { s3 with heap := s3.heap.push { cls := .type "slice", data := .fields #[vl, vu, .none] } }
  exact tail_any (ops := [.ref s3.heap.objs.size, v]) ht hT hg (by with_unfolding_all rfl)

noncomputable def cutV (xs : List V) (lo hi : Option Int) : List V := (xs.drop (HT.sIx xs.length 0 lo)).take (HT.sIx xs.length xs.length hi - HT.sIx xs.length 0 lo)
theorem cutV_length (xs : List V) (lo hi : Option Int) : (cutV xs lo hi).length ≤ xs.length := by
  unfold cutV
  rw [List.length_take, List.length_drop]
  omega
noncomputable def rCatT (K : PySem.W.Frag) : R2 := fun x y H Q => ∃ a b xs ys, x = .ref a ∧ y = .ref b ∧ SqT K H a xs ∧ SqT K H b ys ∧ xs ≠ [] ∧ xs.length + ys.length ≤ sizeLine ∧
  (ys = [] → Q (.ref a) H) ∧ (ys ≠ [] → ∀ p, H p = none → Q (.ref p) (upd H p (.tup (xs ++ ys))))
theorem Vals.nil_iff {xs : List V} {us : List Value} (r : Vals xs us) : us = [] ↔ xs = [] := by
  cases r with
  | nil => simp
  | cons _ _ => simp
theorem op_catT : OpR X (binaryOp .Add) (rCatT X.K) := by
  intro pins s σ H x y v u Q I rx ry h
  obtain ⟨a, b, xs, ys, rfl, rfl, ha, hb, hx, hz, q1, q2⟩ := h
  cases rx
  cases ry
  obtain ⟨its, r1, p1, _⟩ := I.tuple ha
  obtain ⟨its2, r2, p2, _⟩ := I.tuple hb
  refine HT.cat_tup p1 p2 (fun z => hx (r1.nil_iff.mp z)) (fun z => ⟨.ref a, H, I, rfl, q1 (r2.nil_iff.mp z)⟩) (fun z => ?_) (by rw [← r1.length, ← r2.length]; exact hz)
  refine ⟨.ref s.heap.objs.size, _, I.laid (t' := s.toks) (o := .tup (xs ++ ys)) (fun b ob q => Heap.get?_push_of_some _ q) (Nat.le_refl _) ?_, rfl, q2 (fun w => z (r2.nil_iff.mpr w)) _ (I.hok.fresh (Nat.le_refl _))⟩
  exact ⟨by rw [List.length_append]; exact hz, _, r1.append r2, IsTup.new _ _⟩
end
end Internal

namespace Internal
open PySem PySem.Spec PyProof.Rows

noncomputable def ixN (n : Nat) (i : Int) : Option Nat := if 0 ≤ i then (if i < n then some i.toNat else none) else if -(n : Int) ≤ i then some (i + n).toNat else none
noncomputable def atI {α : Type} (xs : List α) (i : Int) : Option α := (ixN xs.length i).bind fun j => xs[j]?
theorem ixN_seq {n : Nat} {i : Int} {j : Nat} (h : ixN n i = some j) : seqIndex? i n = some j ∧ j < n ∧ -(n : Int) ≤ i ∧ i < n := by
  unfold ixN at h
  by_cases h0 : 0 ≤ i
  · rw [if_pos h0] at h
    by_cases h1 : i < n
    · rw [if_pos h1] at h
      have e : i.toNat = j := Option.some.inj h
      exact ⟨by rw [seqIndex_of h0 h1, e], by omega, by omega, h1⟩
    · rw [if_neg h1] at h; cases h
  · rw [if_neg h0] at h
    by_cases h1 : -(n : Int) ≤ i
    · rw [if_pos h1] at h
      have e : (i + n).toNat = j := Option.some.inj h
      exact ⟨by rw [seqIndex_neg (by omega) h1, e], by omega, h1, by omega⟩
    · rw [if_neg h1] at h; cases h
theorem atI_get {α : Type} {xs : List α} {i : Int} {v : α} (h : atI xs i = some v) : ∃ j, seqIndex? i xs.length = some j ∧ xs[j]? = some v ∧ j < xs.length ∧ -(xs.length : Int) ≤ i ∧ i < xs.length := by
  unfold atI at h
  cases e : ixN xs.length i with
  | none => rw [e] at h; cases h
  | some j =>
    rw [e] at h
    obtain ⟨h1, h2, h3, h4⟩ := ixN_seq e
    exact ⟨j, h1, h, h2, h3, h4⟩
theorem atI_nat {α : Type} {xs : List α} {j : Nat} {v : α} (h : xs[j]? = some v) : atI xs (j : Int) = some v := by
  have hj : j < xs.length := (List.getElem?_eq_some_iff.mp h).1
  have e : ixN xs.length (j : Int) = some j := by
    unfold ixN
    rw [if_pos (by omega), if_pos (by omega)]; simp
  unfold atI; rw [e]; exact h
noncomputable def PlainIx (b : Expr) : Prop := ∀ o i, subscripted b false o i = operate [o, i] (getItem o i)
noncomputable def IxR (X : Cx) (r : R2) : Prop :=
  ∀ (value slice : Expr) (pins : List (Addr × Obj)) (s : Shared) (σ : St) (H : Hp) (x y : V) (v u : Value) (Q : VK), Inv X pins σ H s → RelV x v → RelV y u → r x y H Q →
    subscripted slice false v u = operate [v, u] (getItem v u) → wpAny (model X.prog X.w) X.A (subscriptTail value slice v u) (EP X pins σ Q) X.xe s
noncomputable def MtR (X : Cx) (id : String) (r : V → List V → Hp → VK → Prop) : Prop :=
  ∀ (pins : List (Addr × Obj)) (s : Shared) (σ : St) (H : Hp) (x : V) (xs : List V) (v : Value) (us : List Value) (Q : VK), Inv X pins σ H s → RelV x v → Vals xs us → r x xs H Q →
    wpAny (model X.prog X.w) X.A (call (.builtin id) (v :: us)) (EP X pins σ Q) X.xe s
section
variable {X : Cx} {a b : Expr} {ta tb : TE} {pos : Pos}
theorem IxR.or {r r' : R2} (h : IxR X r) (h' : IxR X r') : IxR X (fun x y H Q => r x y H Q ∨ r' x y H Q) := by
  intro value slice pins s σ H x y v u Q I rx ry q hs
  rcases q with q | q
  · exact h value slice pins s σ H x y v u Q I rx ry q hs
  · exact h' value slice pins s σ H x y v u Q I rx ry q hs
theorem pe_ix {r : R2} (hr : IxR X r) (ha : PE X a ta) (hb : PE X b tb) (hs : PlainIx b) : PE X (.Subscript a b pos) (tOp r ta tb) := by
  intro pins s σ H Q I h
  exact Subscript_ (binT ha hb I h fun v u s2 x y H2 I2 rx ry q => hr a b pins s2 σ H2 x y v u Q I2 rx ry q (hs _ _))

noncomputable def rIxL (K : PySem.W.Frag) : R2 := fun x y H Q => ∃ p xs i v, x = .ref p ∧ y = .int i ∧ SqL K H p xs ∧ atI xs i = some v ∧ Q v H
noncomputable def rIxT (K : PySem.W.Frag) : R2 := fun x y H Q => ∃ p xs i v, x = .ref p ∧ y = .int i ∧ SqT K H p xs ∧ atI xs i = some v ∧ Q v H
noncomputable def rIxS : R2 := fun x y H Q => ∃ z i c, x = .str z ∧ y = .int i ∧ z.length ≤ sizeLine ∧ atI z.cps.toList i = some c ∧ Q (.str ⟨#[c]⟩) H
theorem ix_list : IxR X (rIxL X.K) := by
  intro value slice pins s σ H x y v u Q I rx ry h hs
  obtain ⟨p, xs, i, z, rfl, rfl, hq, he, q⟩ := h
  cases rx
  obtain ⟨t, rfl⟩ := ry
  obtain ⟨its, r, pl, hz⟩ := I.list hq
  obtain ⟨j, h1, h2, h3, h4, h5⟩ := atI_get he
  obtain ⟨w, ew, rw'⟩ := r.get h2
  have hl := r.length
  have hn := line63
  have fin : EP X pins σ Q w s := ⟨z, H, I, rw', q⟩
  by_cases h0 : 0 ≤ i
  · have hj : i.toNat = j := by
      rw [seqIndex_of h0 h5] at h1
      exact Option.some.inj h1
    exact item_listR pl.isList h0 (by omega) (by rw [hj]; simpa using ew) fin hs
  · have hj : (i + (its.toArray.size : Int)).toNat = j := by
      rw [seqIndex_neg (by omega) h4] at h1
      rw [List.size_toArray, ← hl]
      exact Option.some.inj h1
    exact subscriptTail_builtinR (x := w) pl.isList.typeIs slot_list_getitem.lookup
      (wpAny_getItem_list_neg (Q := fun r s' => r = w ∧ EP X pins σ Q r s') pl.isList (by omega) (by rw [List.size_toArray] <;> omega) (by omega) (by rw [hj]; simpa using ew) ⟨rfl, fin⟩) hs
theorem ix_tup : IxR X (rIxT X.K) := by
  intro value slice pins s σ H x y v u Q I rx ry h hs
  obtain ⟨p, xs, i, z, rfl, rfl, hq, he, q⟩ := h
  cases rx
  obtain ⟨t, rfl⟩ := ry
  obtain ⟨its, r, pl, hz⟩ := I.tuple hq
  obtain ⟨j, h1, h2, h3, h4, h5⟩ := atI_get he
  obtain ⟨w, ew, rw'⟩ := r.get h2
  have hl := r.length
  have hn := line63
  have fin : EP X pins σ Q w s := ⟨z, H, I, rw', q⟩
  exact subscriptTail_builtinR (x := w) pl.typeIs slot_tuple_getitem.lookup
    (getItem_tuple (j := j) (Q := fun r s' => r = w ∧ EP X pins σ Q r s') pl (by omega) (by omega) (by rw [List.size_toArray, ← hl]; exact h1) (by simpa using ew) ⟨rfl, fin⟩) hs
theorem ix_str : IxR X rIxS := by
  intro value slice pins s σ H x y v u Q I rx ry h hs
  obtain ⟨z, i, c, rfl, rfl, hz, he, q⟩ := h
  obtain ⟨t, rfl⟩ := rx
  obtain ⟨t', rfl⟩ := ry
  obtain ⟨j, h1, h2, h3, h4, h5⟩ := atI_get he
  have hl : z.cps.toList.length = z.length := by simp [Str.length]
  rw [hl] at h1 h4 h5
  have hn := line63
  exact tail_any (typeIs_str s z t) slot_str_getitem.lookup (getItem_str (c := c) (by
    have e1 : decide (i < -(2 ^ 63 : Int)) = false := decide_eq_false (by omega)
    have e2 : decide (i ≥ 2 ^ 63) = false := decide_eq_false (by omega)
    rw [e1, e2, Bool.or_false]) (by rw [h1]; simpa using h2) ⟨.str ⟨#[c]⟩, H, I.tok _, ⟨_, rfl⟩, q⟩) hs
noncomputable def rIx (K : PySem.W.Frag) : R2 := fun x y H Q => rIxL K x y H Q ∨ rIxT K x y H Q ∨ rIxS x y H Q
theorem ix_seq : IxR X (rIx X.K) := ix_list.or (ix_tup.or ix_str)

theorem mapSeq_set (its : List Value) (n j : Nat) (u : Value) : Obj.mapSeq (·.setIfInBounds j u) { cls := .type "list", data := .seq its.toArray n } = { cls := .type "list", data := .seq (its.set j u).toArray n } := by
  simp [Obj.mapSeq]
theorem Inv.lst {pins : List (Addr × Obj)} {σ : St} {H : Hp} {s : Shared} {p : Addr} {xs : List V} (I : Inv X pins σ H s) (h : H p = some (.lst xs)) :
    ∃ (its : List Value) (n : Nat), Vals xs its ∧ s.heap.get? p = some { cls := .type "list", data := .seq its.toArray n } ∧ xs.length ≤ sizeLine := by
  obtain ⟨z, its, n, r, e⟩ := I.hok p _ h
  exact ⟨its, n, r, e, z⟩
theorem Inv.lstUpd {pins : List (Addr × Obj)} {σ : St} {H : Hp} {s : Shared} {p : Addr} {xs ys : List V} {its its' : List Value} {n n' : Nat} {f : Obj → Obj} (I : Inv X pins σ H s) (h : H p = some (.lst xs))
    (ho : s.heap.get? p = some { cls := .type "list", data := .seq its.toArray n }) (hf : f { cls := .type "list", data := .seq its.toArray n } = { cls := .type "list", data := .seq its'.toArray n' }) (r : Vals ys its') (hz : ys.length ≤ sizeLine) (t : Nat) :
    Inv X pins σ (upd H p (.lst ys)) { s with heap := s.heap.update p f, toks := t } := by
  have e : (s.heap.update p f).get? p = some { cls := .type "list", data := .seq its'.toArray n' } := by
    rw [Heap.get?_update_self f ho (by rw [hf] <;> rfl), hf]
  refine I.write (x := p) (e := p) (by rw [h]; trivial) (.inl rfl) (fun b u hb q => (Heap.get?_update_other _ _ (Ne.symm hb)).trans q) ⟨_, e⟩ ?_
  exact ⟨hz, its', n', r, e⟩
noncomputable def rSetL : V → V → V → Hp → (Hp → Prop) → Prop := fun o i v H Q => ∃ p xs k j, o = .ref p ∧ i = .int k ∧ H p = some (.lst xs) ∧ ixN xs.length k = some j ∧ Q (upd H p (.lst (xs.set j v)))
theorem set_list : PSet X rSetL := by
  intro pins s σ H o i v ov iv u Q I ro ri rv h
  obtain ⟨p, xs, k, j, rfl, rfl, hp, hj, q⟩ := h
  cases ro
  obtain ⟨t, rfl⟩ := ri
  obtain ⟨its, n, r, ho, hz⟩ := I.lst hp
  obtain ⟨h1, h2, h3, h4⟩ := ixN_seq hj
  have hl := r.length
  have hn := line63
  have I' : Inv X pins σ (upd H p (.lst (xs.set j v))) { s with heap := s.heap.update p (Obj.mapSeq (·.setIfInBounds j u)) } :=
    I.lstUpd hp ho (mapSeq_set its n j u) (r.set rv j) (by rw [List.length_set]; exact hz) s.toks
  by_cases h0 : 0 ≤ k
  · have hk : k.toNat = j := by
      rw [seqIndex_of h0 h4] at h1
      exact Option.some.inj h1
    exact PySem.W.ki_setAt ho h0 (by omega) (by rw [List.size_toArray, ← hl]; exact h4) (by rw [hk]; exact ⟨_, I', q⟩)
  · have hk : (k + (its.toArray.size : Int)).toNat = j := by
      rw [seqIndex_neg (by omega) h3] at h1
      rw [List.size_toArray, ← hl]
      exact Option.some.inj h1
    exact PySem.W.ki_setBack ho (by omega) (by rw [List.size_toArray, ← hl]; exact h3) (by omega) (by rw [hk]; exact ⟨_, I', q⟩)

theorem slice_bounds (lo hi : Option Int) (n : Nat) : (sliceBounds lo hi none n).1 = ((HT.sIx n 0 lo : Nat) : Int) ∧ (sliceBounds lo hi none n).2.1 = ((HT.sIx n n hi : Nat) : Int) ∧ (sliceBounds lo hi none n).2.2 = 1 := by
  refine ⟨?_, ?_, rfl⟩
  · cases lo with
    | none => simp [sliceBounds, HT.sIx]
    | some i =>
      simp only [sliceBounds, HT.sIx, Option.getD_none, show (1 : Int) > 0 by decide, if_true]
      by_cases h : i < 0
      · simp only [h, if_true] <;> omega
      · simp only [h, if_false] <;> omega
  · cases hi with
    | none => simp [sliceBounds, HT.sIx]
    | some i =>
      simp only [sliceBounds, HT.sIx, Option.getD_none, show (1 : Int) > 0 by decide, if_true]
      by_cases h : i < 0
      · simp only [h, if_true] <;> omega
      · simp only [h, if_false] <;> omega
theorem slicePick_cut (its : List Value) (lo hi : Option Int) : slicePick its.toArray lo hi none = ((its.drop (HT.sIx its.length 0 lo)).take (HT.sIx its.length its.length hi - HT.sIx its.length 0 lo)).toArray := by
  obtain ⟨h1, h2, h3⟩ := slice_bounds lo hi its.toArray.size
  unfold slicePick
  rw [h1, h2, h3]
  simp only [sliceRange_one, pick_run, List.size_toArray] <;> rfl
noncomputable def rSlL (K : PySem.W.Frag) : V → Option Int → Option Int → Hp → VK → Prop := fun x lo hi H Q => ∃ a xs, x = .ref a ∧ SqL K H a xs ∧ ∀ p, H p = none → Q (.ref p) (upd H p (.lst (cutV xs lo hi)))
theorem sl_list : SlR X (rSlL X.K) := by
  intro pins s σ H x v vl vu lo hi sl Q I rx hs pl pu h
  obtain ⟨a, xs, rfl, hx, q⟩ := h
  cases rx
  obtain ⟨its, r, ht, hz⟩ := I.list hx
  have hlen := r.length
  refine ⟨"list", _, slot_list_getitem.lookup, ht.isList.typeIs, ?_⟩
  refine wpAny_getItem_list_slice ht.isList hs pl pu .none (by simp) ?_ (by rw [List.size_toArray] <;> omega)
  rw [slicePick_cut, ← hlen]
  refine ⟨.ref s.heap.objs.size, _, I.laid (t' := s.toks) (o := .lst (cutV xs lo hi)) (fun b ob q => Heap.get?_push_of_some _ q) (Nat.le_refl _) ?_, rfl, q _ (I.hok.fresh (Nat.le_refl _))⟩
  exact ⟨Nat.le_trans (cutV_length xs lo hi) hz, _, 0, (r.drop (HT.sIx xs.length 0 lo)).take (HT.sIx xs.length xs.length hi - HT.sIx xs.length 0 lo), Heap.get?_push_size _ rfl⟩

noncomputable def flatV : V → Bool
  | .non => true
  | .bl _ => true
  | .int _ => true
  | .str _ => true
  | _ => false
noncomputable def eqV : V → V → Bool
  | .non, .non => true
  | .bl a, .bl b => a == b
  | .bl a, .int b => (if a then 1 else 0) == b
  | .int a, .bl b => a == (if b then 1 else 0)
  | .int a, .int b => a == b
  | .str a, .str b => a == b
  | _, _ => false
theorem eqAt_V {A : Around} {s : Shared} {y x : V} {u v : Value} (ry : RelV y u) (rx : RelV x v) (fy : flatV y = true) (fx : flatV x = true) : SeqAt.EqAt A s u v (eqV y x) := by
  cases y with
  | non =>
    cases ry
    cases x with
    | non => cases rx; exact SeqAt.EqAt.same _
    | bl b => cases rx; exact SeqAt.EqAt.none_bool b
    | int b => obtain ⟨t, rfl⟩ := rx; exact SeqAt.EqAt.none_int b t
    | str b => obtain ⟨t, rfl⟩ := rx; exact SeqAt.EqAt.none_str b t
    | _ => exact absurd (show false = true from fx) Bool.false_ne_true
  | bl a =>
    cases ry
    cases x with
    | non => cases rx; exact SeqAt.EqAt.bool_none a
    | bl b => cases rx; exact SeqAt.EqAt.bool_bool a b
    | int b => obtain ⟨t, rfl⟩ := rx; exact SeqAt.EqAt.bool_int a b t
    | str b => obtain ⟨t, rfl⟩ := rx; exact SeqAt.EqAt.bool_str a b t
    | _ => exact absurd (show false = true from fx) Bool.false_ne_true
  | int a =>
    obtain ⟨t', rfl⟩ := ry
    cases x with
    | non => cases rx; exact SeqAt.EqAt.int_none a t'
    | bl b => cases rx; exact SeqAt.EqAt.int_bool a t' b
    | int b => obtain ⟨t, rfl⟩ := rx; exact SeqAt.EqAt.int_int a t' b t
    | str b => obtain ⟨t, rfl⟩ := rx; exact SeqAt.EqAt.int_str a t' b t
    | _ => exact absurd (show false = true from fx) Bool.false_ne_true
  | str a =>
    obtain ⟨t', rfl⟩ := ry
    cases x with
    | non => cases rx; exact SeqAt.EqAt.str_none a t'
    | bl b => cases rx; exact SeqAt.EqAt.str_bool a t' b
    | int b => obtain ⟨t, rfl⟩ := rx; exact SeqAt.EqAt.str_int a t' b t
    | str b => obtain ⟨t, rfl⟩ := rx; exact SeqAt.EqAt.str_str a t' b t
    | _ => exact absurd (show false = true from fx) Bool.false_ne_true
  | _ => exact absurd (show false = true from fy) Bool.false_ne_true
noncomputable def eqU (x : V) (u : Value) : Bool := match u with
  | .none => eqV .non x
  | .bool b => eqV (.bl b) x
  | .int i _ => eqV (.int i) x
  | .str z _ => eqV (.str z) x
  | _ => false
theorem eqU_of {x y : V} {u : Value} (r : RelV y u) (f : flatV y = true) : eqU x u = eqV y x := by
  cases y with
  | non => cases r; rfl
  | bl b => cases r; rfl
  | int i => obtain ⟨t, rfl⟩ := r; rfl
  | str z => obtain ⟨t, rfl⟩ := r; rfl
  | _ => exact absurd (show false = true from f) Bool.false_ne_true
theorem any_eqU {x : V} : ∀ {xs : List V} {us : List Value}, Vals xs us → xs.all flatV = true → us.any (eqU x) = xs.any fun y => eqV y x
  | _, _, .nil, _ => rfl
  | y :: xs, u :: us, .cons r t, f => by
    rw [List.all_cons, Bool.and_eq_true] at f
    rw [List.any_cons, List.any_cons, eqU_of r f.1, any_eqU t f.2]
theorem mem_eqAt {A : Around} {s : Shared} {x : V} {v : Value} (rx : RelV x v) (fx : flatV x = true) : ∀ {xs : List V} {us : List Value}, Vals xs us → xs.all flatV = true → ∀ u ∈ us, SeqAt.EqAt A s u v (eqU x u)
  | _, _, .nil, _ => fun u hu => by cases hu
  | y :: xs, u :: us, .cons r t, f => fun u' hu => by
    rw [List.all_cons, Bool.and_eq_true] at f
    rcases List.mem_cons.mp hu with rfl | hu
    · rw [eqU_of r f.1]; exact eqAt_V r rx f.1 fx
    · exact mem_eqAt rx fx t f.2 u' hu
noncomputable def inV (x : V) (xs : List V) : Bool := xs.any fun y => eqV y x
noncomputable def rIn (K : PySem.W.Frag) (neg : Bool) : R2 := fun x y H Q => ∃ p xs, y = .ref p ∧ (SqL K H p xs ∨ SqT K H p xs) ∧ flatV x = true ∧ xs.all flatV = true ∧ Q (.bl (if neg then !inV x xs else inV x xs)) H
theorem op_in_seq : OpR X (compareOp .In) (rIn X.K false) := by
  intro pins s σ H x y v u Q I rx ry h
  obtain ⟨p, xs, rfl, hq, fx, fs, q⟩ := h
  cases ry
  rcases hq with hq | hq
  · obtain ⟨its, r, pl, hz⟩ := I.list hq
    refine SeqAt.in_listAt (eqU x) pl.isList (fun w hw => mem_eqAt rx fx r fs w (by simpa using hw)) ⟨.bl _, H, I, rfl, ?_⟩
    rw [show its.toArray.any (eqU x) = its.any (eqU x) by simp, any_eqU r fs]
    exact q
  · obtain ⟨its, r, pl, hz⟩ := I.tuple hq
    refine SeqAt.in_tupleAt (eqU x) pl (fun w hw => mem_eqAt rx fx r fs w (by simpa using hw)) ⟨.bl _, H, I, rfl, ?_⟩
    rw [show its.toArray.any (eqU x) = its.any (eqU x) by simp, any_eqU r fs]
    exact q
theorem op_notIn_seq : OpR X (compareOp .NotIn) (rIn X.K true) := by
  intro pins s σ H x y v u Q I rx ry h
  obtain ⟨p, xs, rfl, hq, fx, fs, q⟩ := h
  cases ry
  rcases hq with hq | hq
  · obtain ⟨its, r, pl, hz⟩ := I.list hq
    refine SeqAt.notIn_listAt (eqU x) pl.isList (fun w hw => mem_eqAt rx fx r fs w (by simpa using hw)) ⟨.bl _, H, I, rfl, ?_⟩
    rw [show its.toArray.any (eqU x) = its.any (eqU x) by simp, any_eqU r fs]
    exact q
  · obtain ⟨its, r, pl, hz⟩ := I.tuple hq
    refine SeqAt.notIn_tupleAt (eqU x) pl (fun w hw => mem_eqAt rx fx r fs w (by simpa using hw)) ⟨.bl _, H, I, rfl, ?_⟩
    rw [show its.toArray.any (eqU x) = its.any (eqU x) by simp, any_eqU r fs]
    exact q
theorem call_len_seq : CallR X (.builtin "len") (fun xs H Q => ∃ p ys, xs = [.ref p] ∧ (SqL X.K H p ys ∨ SqT X.K H p ys) ∧ Q (.int ys.length) H) := by
  intro pins s σ H xs us Q I r h
  obtain ⟨p, ys, rfl, hq, q⟩ := h
  obtain ⟨u, rfl, rx⟩ := vals1 r
  cases rx
  have hn := line63
  rcases hq with hq | hq
  · obtain ⟨its, r', pl, hz⟩ := I.list hq
    have hlen := r'.length
    exact Calls.call_len_list pl.isList (by simp only [List.size_toArray] <;> omega) ⟨.int ys.length, H, I.tok _, ⟨s.toks + 1, by rw [List.size_toArray, hlen]⟩, q⟩
  · obtain ⟨its, r', pl, hz⟩ := I.tuple hq
    have hlen := r'.length
    exact len_tuple pl (by simp only [List.size_toArray] <;> omega) ⟨.int ys.length, H, I.tok _, ⟨s.toks + 1, by rw [List.size_toArray, hlen]⟩, q⟩
theorem CallR.or {f : Value} {r r' : List V → Hp → VK → Prop} (h : CallR X f r) (h' : CallR X f r') : CallR X f (fun xs H Q => r xs H Q ∨ r' xs H Q) := by
  intro pins s σ H xs us Q I rs q
  rcases q with q | q
  · exact h pins s σ H xs us Q I rs q
  · exact h' pins s σ H xs us Q I rs q
theorem call_list_of : CallR X (.type "list") (fun xs H Q => ∃ p ys, xs = [.ref p] ∧ (SqL X.K H p ys ∨ SqT X.K H p ys) ∧ ∀ l, H l = none → Q (.ref l) (upd H l (.lst ys))) := by
  intro pins s σ H xs us Q I r h
  obtain ⟨p, ys, rfl, hq, q⟩ := h
  obtain ⟨u, rfl, rx⟩ := vals1 r
  cases rx
  have fin : ∀ (its : List Value), Vals ys its → ys.length ≤ sizeLine → ∀ (h' : Heap) (c' : Nat), (∀ b o', s.heap.get? b = some o' → h'.get? b = some o') →
      h'.get? s.heap.objs.size = some { cls := .type "list", dict := none, data := .seq its.toArray c', slots := #[] } → EP X pins σ Q (.ref s.heap.objs.size) { s with heap := h' } := fun its r' hz h' c' kp e =>
    ⟨.ref s.heap.objs.size, _, I.laid (t' := s.toks) kp (Nat.le_refl _) (show ObjOk X.prog X.w _ h' _ (.lst ys) from ⟨hz, its, c', r', e⟩), rfl, q _ (I.hok.fresh (Nat.le_refl _))⟩
  rcases hq with hq | hq
  · obtain ⟨its, r', pl, hz⟩ := I.list hq
    have hlen := r'.length
    obtain ⟨o, ho, hc, n, hd⟩ := pl.isList
    exact call_list_seq p (.inl rfl) ho hc hd (fun h' c' kp e => fin its r' hz h' c' kp e) (by simp only [List.size_toArray] <;> omega)
  · obtain ⟨its, r', pl, hz⟩ := I.tuple hq
    have hlen := r'.length
    obtain ⟨o, ho, hc, n, hd⟩ := pl
    exact call_list_seq p (.inr rfl) ho hc hd (fun h' c' kp e => fin its r' hz h' c' kp e) (by simp only [List.size_toArray] <;> omega)
noncomputable def tyV (K : PySem.W.Frag) (T : String) (x : V) (H : Hp) : Prop := match x with
  | .str _ => T = "str"
  | .int _ => T = "int"
  | .ref p => (T = "list" ∧ ∃ xs, SqL K H p xs) ∨ (T = "tuple" ∧ ∃ o, K.lookup p = some o ∧ o.cls = .type "tuple" ∧ o.dict = none) ∨
      (T = "dict" ∧ ((∃ kvs, H p = some (.dK kvs)) ∨ ∃ kvs, H p = some (.dT kvs))) ∨ (T = "set" ∧ ∃ S n, H p = some (.set S n))
  | _ => False
theorem tyV_is {pins : List (Addr × Obj)} {σ : St} {H : Hp} {s : Shared} {T : String} {x : V} {v : Value} (I : Inv X pins σ H s) (r : RelV x v) (ty : tyV X.K T x H) :
    s.TypeIs v T ∧ ∀ a, v = .ref a → ∃ ob, s.heap.get? a = some ob ∧ ob.dict = none := by
  cases x with
  | str z =>
    obtain ⟨t, rfl⟩ := r
    cases (show T = "str" from ty)
    exact ⟨typeIs_str s z t, fun _ e => nomatch e⟩
  | int i =>
    obtain ⟨t, rfl⟩ := r
    cases (show T = "int" from ty)
    exact ⟨typeIs_int s i t, fun _ e => nomatch e⟩
  | ref p =>
    cases r
    rcases ty with ⟨rfl, xs, hq⟩ | ⟨rfl, o, hk, hc, hd⟩ | ⟨rfl, hk⟩ | ⟨rfl, S, n, hk⟩
    · obtain ⟨its, _, pl, _⟩ := I.list hq
      refine ⟨pl.isList.typeIs, fun a e => ?_⟩
      cases e
      obtain ⟨o, n, e, c, hd, _⟩ := pl
      exact ⟨o, e, hd⟩
    · refine ⟨⟨o, I.kIn p o hk, hc⟩, fun a e => ?_⟩
      cases e
      exact ⟨o, I.kIn _ o hk, hd⟩
    · have z : ∃ o, s.heap.get? p = some o ∧ o.ExactDict := by
        rcases hk with ⟨kvs, hk⟩ | ⟨kvs, hk⟩
        · obtain ⟨_, _, _, _, o, _, _, e, ex, _⟩ := I.hok p _ hk
          exact ⟨o, e, ex⟩
        · obtain ⟨_, _, _, _, o, _, _, e, ex, _⟩ := I.hok p _ hk
          exact ⟨o, e, ex⟩
      obtain ⟨o, e, ex⟩ := z
      refine ⟨⟨o, e, ex.1⟩, fun a e2 => ?_⟩
      cases e2
      exact ⟨o, e, ex.2.1⟩
    · obtain ⟨o, _, _, _, e, ex, _⟩ := I.hok p _ hk
      refine ⟨⟨o, e, ex.1⟩, fun a e2 => ?_⟩
      cases e2
      exact ⟨o, e, ex.2.1⟩
  | _ => exact False.elim ty
noncomputable def tBM (K : PySem.W.Frag) (T : String) (r : V → List V → Hp → VK → Prop) (to : TE) (t : TA) : TE := fun σ H Q => to σ H fun x H1 => tyV K T x H1 ∧ t σ H1 fun xs H2 => r x xs H2 Q
variable {o e : Expr} {es : List Expr} {to : TE} {t : TA} {name : Str} {apos cpos : Pos} {T id : String} {r : V → List V → Hp → VK → Prop}
theorem pe_bm (pa : PlainAttrs T) (slot : Slot T name id) (hty : typeOf (.builtin id) = pure (.type "method_descriptor")) (hm : MtR X id r) (ho : PE X o to) (ha : PA X (e :: es) t)
    (hbase : autoParam (attributeBase o name X.env (eval o X.env) = eval o X.env) Internal.aut2._auto_1)
    (hfew : autoParam (((backTo cpos (starEach (e :: es) X.env)).all (fun x => !x.1) && (backToKw cpos (keywordEach [] X.env)).all (fun x => x.1.isSome)
      && decide ((e :: es).length + ([] : List Keyword).length + (if ([] : List Keyword).isEmpty then 0 else 1) < 30)) = true) Internal.aut2._auto_1)
    (hline : autoParam ((apos.endLine == cpos.line) = true) Internal.aut2._auto_1) (hs : autoParam (starEach (e :: es) X.env = (false, eval e X.env) :: starEach es X.env) Internal.aut2._auto_1) (hplain : autoParam ((backTo cpos (starEach es X.env)).any (·.1) = false) Internal.aut2._auto_1) :
    PE X (.Call (.Attribute o name apos) (e :: es) [] cpos) (tBM X.K T r to t) := by
  intro pins s σ H Q I h
  refine wpAny_Call_method_late hbase hfew hline rfl (thn (ho pins s σ H _ I h) fun v s1 zz => ?_)
  obtain ⟨x, H1, I1, r1, ty, q1⟩ := zz
  obtain ⟨h1, h2⟩ := tyV_is I1 r1 ty
  refine ⟨T, id, pa, slot, hty, h1, h2, ?_⟩
  have hA := ha cpos pins s1 σ H1 _ I1 q1
  rw [hs] at hA ⊢
  refine Calls.callWith_builtin (by show (false || (backTo cpos (starEach es X.env)).any (·.1)) = false; rw [hplain] <;> rfl) (Calls.evalArgs_plain ?_)
  exact thn hA fun us s2 ⟨vs, H2, I2, r2, q2⟩ => hm pins s2 σ H2 x vs v us Q I2 r1 r2 q2
/- xs.append(e), list.index on a module's tuple .. are MtR facts of 06m -/
end
end Internal

namespace Internal
open PySem PySem.Spec PyProof.Rows

noncomputable def MtM (X : Cx) (id : String) (r : V → List V → Hp → VK → Prop) : Prop :=
  ∀ (pins : List (Addr × Obj)) (s : Shared) (σ : St) (H : Hp) (x : V) (xs : List V) (v : Value) (us : List Value) (Q : VK), Inv X pins σ H s → RelV x v → Vals xs us → r x xs H Q →
    wpAny (model X.prog X.w) X.A (call (.builtin id) (v :: us)) (EP X pins σ Q) X.xe s

theorem Vals.one : ∀ {x : V} {us : List Value}, Vals [x] us → ∃ u, us = [u] ∧ RelV x u
  | _, _, h => by
    cases h with
    | cons r t => cases t; exact ⟨_, rfl, r⟩
theorem Vals.reverse {xs : List V} {us : List Value} (h : Vals xs us) : Vals xs.reverse us.reverse := by
  induction h with
  | nil => exact .nil
  | cons r t ih => rw [List.reverse_cons, List.reverse_cons]; exact Vals.append ih (.cons r .nil)
theorem Vals.rep {xs : List V} {us : List Value} (h : Vals xs us) : ∀ k : Nat, Vals (List.replicate k xs).flatten (List.replicate k us).flatten
  | 0 => .nil
  | k + 1 => by
    rw [List.replicate_succ, List.replicate_succ, List.flatten_cons, List.flatten_cons]
    exact Vals.append h (Vals.rep h k)
theorem foldl_rep (its : List Value) : ∀ (k : Nat) (acc : List Value),
    List.foldl (fun x1 x2 => x1 ++ x2) acc.toArray (List.replicate k its.toArray) = (acc ++ (List.replicate k its).flatten).toArray
  | 0, acc => by simp
  | k + 1, acc => by
    have e : acc.toArray ++ its.toArray = (acc ++ its).toArray := by simp
    have e2 : (acc ++ its) ++ (List.replicate k its).flatten = acc ++ (List.replicate (k + 1) its).flatten := by
      rw [List.replicate_succ, List.flatten_cons, List.append_assoc]
    rw [← e2, ← foldl_rep its k (acc ++ its), ← e, List.replicate_succ, List.foldl_cons]

section
variable {X : Cx} {pins : List (Addr × Obj)} {σ : St} {H : Hp} {s : Shared} {l b : Addr} {xs ys zs : List V}

theorem Inv.lset {its its' : List Value} {n : Nat} {f : Array Value → Array Value} {t' : Nat} (I : Inv X pins σ H s) (hH : H l = some (.lst xs))
    (e : s.heap.get? l = some { cls := .type "list", data := .seq its.toArray n }) (hf : f its.toArray = its'.toArray) (hv : Vals ys its') (hz : ys.length ≤ sizeLine) :
    Inv X pins σ (upd H l (.lst ys)) { s with heap := s.heap.update l (Obj.mapSeq f), toks := t' } := by
  have q := PySem.IsL.update e f
  rw [hf] at q
  refine I.write (x := l) (e := l) (by rw [hH]; exact trivial) (.inl rfl) (fun b' u hb hu => (Heap.get?_update_other s.heap (Obj.mapSeq f) (Ne.symm hb)).trans hu) ⟨_, q⟩ ?_
  exact ⟨hz, its', _, hv, q⟩
theorem Inv.lnew {its : List Value} {t' : Nat} (I : Inv X pins σ H s) (hv : Vals ys its) (hz : ys.length ≤ sizeLine) :
    Inv X pins σ (upd H s.heap.objs.size (.lst ys)) { s with heap := s.heap.push { cls := .type "list", data := .seq its.toArray }, toks := t' } :=
  I.laid (fun _ _ q => Heap.get?_push_of_some _ q) (Nat.le_refl _) ⟨hz, its, 0, hv, Heap.get?_push_size _ rfl⟩
theorem Inv.fresh (I : Inv X pins σ H s) : H s.heap.objs.size = none := I.hok.fresh (Nat.le_refl _)
theorem Inv.lstM (I : Inv X pins σ H s) (hH : H l = some (.lst xs)) : xs.length ≤ sizeLine ∧ ∃ (its : List Value) (n : Nat), Vals xs its ∧ xs.length = its.length ∧ s.heap.get? l = some { cls := .type "list", data := .seq its.toArray n } := by
  obtain ⟨z, its, n, r, e⟩ := I.hok l _ hH
  exact ⟨z, its, n, r, r.length, e⟩

theorem notLongL {n : Nat} (h : n ≤ sizeLine) : Builtin.List.listTooLong n = false := by
  unfold Builtin.List.listTooLong
  exact decide_eq_false (by omega)
end

section
variable {X : Cx}

noncomputable def rAppend : V → List V → Hp → VK → Prop := fun x vs H Q => ∃ l xs y, x = .ref l ∧ vs = [y] ∧ H l = some (.lst xs) ∧ xs.length < sizeLine ∧ Q .non (upd H l (.lst (xs ++ [y])))
theorem mt_append : MtM X "list.append" rAppend := by
  intro pins s σ H x vs v us Q I rx rv h
  obtain ⟨l, xs, y, rfl, rfl, hH, hz, q⟩ := h
  cases rx
  obtain ⟨u, rfl, ru⟩ := rv.one
  obtain ⟨z, its, n, r, hl, e⟩ := I.lstM hH
  refine call_meets F.slot_list_append ⟨_, e, rfl⟩ F.entry_list_append (F.args_list_append_2 _ _) (PySem.list_append l its.toArray n u (by rw [List.size_toArray]; omega)) ⟨e, ?_⟩
  refine ⟨.non, _, I.lset (its' := its ++ [u]) hH e (by simp) (r.append (.cons ru .nil)) ?_, rfl, q⟩
  rw [List.length_append, List.length_singleton]
  omega

noncomputable def rCat : R2 := fun x y H Q => ∃ l b xs zs, x = .ref l ∧ y = .ref b ∧ H l = some (.lst xs) ∧ H b = some (.lst zs) ∧ xs.length + zs.length ≤ sizeLine ∧ ∀ p, H p = none → Q (.ref p) (upd H p (.lst (xs ++ zs)))
theorem op_cat : OpR X (binaryOp .Add) rCat := by
  intro pins s σ H x y v u Q I rx ry h
  obtain ⟨l, b, xs, zs, rfl, rfl, hH, hB, hz, q⟩ := h
  cases rx
  cases ry
  obtain ⟨z, its, n, r, hl, e⟩ := I.lstM hH
  obtain ⟨z2, its2, n2, r2, hl2, e2⟩ := I.lstM hB
  refine PySem.P.add_list e e2 ?_ (by rw [List.size_toArray, List.size_toArray]; omega)
  have ea : its.toArray ++ its2.toArray = (its ++ its2).toArray := by simp
  rw [ea]
  exact ⟨.ref _, _, I.lnew (t' := s.toks) (r.append r2) (by rw [List.length_append]; omega), rfl, q _ I.fresh⟩
noncomputable def rRep : R2 := fun x y H Q => ∃ l k xs, x = .ref l ∧ y = .int k ∧ H l = some (.lst xs) ∧ -(2 ^ 63) ≤ k ∧ k < 2 ^ 63 ∧ xs.length * k.toNat ≤ sizeLine ∧
  ∀ p, H p = none → Q (.ref p) (upd H p (.lst (List.replicate k.toNat xs).flatten))
theorem len_rep {α : Type} (xs : List α) (k : Nat) : (List.replicate k xs).flatten.length = k * xs.length := by
  induction k with
  | zero => simp
  | succ k ih => rw [List.replicate_succ, List.flatten_cons, List.length_append, ih, Nat.succ_mul, Nat.add_comm]
theorem op_rep : OpR X (binaryOp .Mult) rRep := by
  intro pins s σ H x y v u Q I rx ry h
  obtain ⟨l, k, xs, rfl, rfl, hH, h1, h2, hz, q⟩ := h
  cases rx
  obtain ⟨t, rfl⟩ := ry
  obtain ⟨z, its, n, r, hl, e⟩ := I.lstM hH
  have hlen : its.toArray.size * k.toNat ≤ sizeLine := by rw [List.size_toArray, ← hl]; exact hz
  have hcap : ¬ its.toArray.size * k.toNat > (2 ^ 63 - 1) / 8 := by
    have : (sizeLine : Nat) ≤ (2 ^ 63 - 1) / 8 := by decide
    omega
  have hfit : ¬ (!Builtin.List.listFitsIndex k) = true := by
    rw [fitsIndex_both h1 h2]
    exact Bool.false_ne_true
  have hlong : ¬ Builtin.List.listTooLong (its.toArray.size * k.toNat) = true := by
    rw [notLongL hlen]
    exact Bool.false_ne_true
  have hnew : List.foldl (fun x1 x2 => x1 ++ x2) #[] (List.replicate (if its.toArray.isEmpty = true then 0 else k.toNat) its.toArray) = (List.replicate k.toNat its).flatten.toArray := by
    have f0 : ∀ m : Nat, List.foldl (fun x1 x2 => x1 ++ x2) #[] (List.replicate m its.toArray) = (List.replicate m its).flatten.toArray := fun m => by
      have := foldl_rep its m []
      rw [List.nil_append] at this
      exact this
    rw [f0]
    cases its with
    | nil => simp
    | cons a r' => rw [if_neg (by simp)]
  refine wpAny_binaryOp_repeat_ref (T := "list") (U := "int") (by decide) ⟨_, e, rfl⟩ (fun s' => typeIs_int s' k t) noFill_list_mul F.fills_int_mul F.slot_int_rmul repeat_list F.slot_int_index.lookup
    (call_meets F.slot_int_rmul (typeIs_int s k t) F.entry_int_rmul (F.args_int_rmul_2 _ _) (int___rmul___int_list k t l its.toArray n)
      ⟨e, rfl, ⟨_, e, rfl⟩, call_meets F.slot_list_mul ⟨_, e, rfl⟩ F.entry_list_mul (F.args_list_mul_2 _ _) (AutoListH.list___mul___list_int_3 l its.toArray n k t hfit hcap hlong) ⟨e, ?_⟩⟩)
  rw [hnew]
  exact ⟨.ref _, _, I.lnew (t' := s.toks) (r.rep k.toNat) (by rw [len_rep, Nat.mul_comm]; exact hz), rfl, q _ I.fresh⟩

end

section
variable {prog : Program} {w : World} {A : Around} {E : Value → Shared → Prop} {s : Shared}
end

section
variable {X : Cx}
end
end Internal

namespace Att
open PySem PySem.W PySem.Calls PyProof.Rows

theorem ints_of_wellAll {P : Params} {h : Heap} : ∀ (ns : List Int) (vs : List Value), WellAll P h vs (ns.map WData.int) → IntsAre vs ns := by
  intro ns
  induction ns with
  | nil =>
    intro vs w
    rw [List.map_nil] at w
    cases w
    exact .nil
  | cons n ns ih =>
    intro vs w
    rw [List.map_cons] at w
    cases w with
    | cons a b =>
      cases a
      exact .cons _ _ (ih _ b)

theorem script_of {l : OpenLaw} {n : Nat} (hn : l.most = some n) {P : Params} {h : Heap} {args : List WData} {vals : List Value}
    (hpre : l.row.toRowW.claim.pre args = true) (hwl : WellAll P h vals args) :
    ∃ a vs ns, vals = [Value.ref a] ∧ args = [WData.list (ns.map WData.int)] ∧ h.get? a = some { cls := .type "list", data := .seq vs.toArray } ∧ IntsAre vs ns ∧ ns.length ≤ n := by
  have hsh : WShape.hasAll [] args [.list .int] = true := (pre_splitW hpre).1
  have hc : l.pre.holds [] { args := args } = true := (pre_splitW hpre).2
  obtain ⟨d, r, rfl, h1, h2⟩ := hasAllW_cons hsh
  obtain rfl := hasAllW_nil h2
  obtain ⟨xs, rfl, h3⟩ := hasW_list h1
  obtain ⟨ns, rfl⟩ := items_int h3
  have hlen : ns.length ≤ n := by
    unfold OpenLaw.pre at hc
    have h4 : (WTm.not (.lt (.lit (.int (n : Int))) (.len (.arg 0)))).holds [] { args := [.list (ns.map .int)] } = true := by
      have h4 := (holds_andW hc).1
      rw [hn] at h4
      exact h4
    have h5 := condW_of h4 (w_not (w_lt w_lit (w_len_list (w_arg rfl))))
    rw [List.length_map] at h5
    refine Nat.le_of_not_lt fun q => ?_
    have q' : (n : Int) < ((ns.length : Nat) : Int) := by omega
    first
      | (rw [decide_eq_true q'] at h5; exact absurd h5 (by decide))
      | (simp at h5; omega)
  cases hwl with
  | cons w1 w2 =>
    cases w2
    cases w1 with
    | list ho hall => exact ⟨_, _, ns, rfl, rfl, ho, ints_of_wellAll ns _ hall, hlen⟩

theorem post_true (l : OpenLaw) (args : List WData) : l.row.toRowW.claim.post args (.bool true) args = true :=
  postW_of (r := l.row.toRowW) (X := (true == true))
    (show WShape.has [] (.bool true) .bool = true by first | rfl | decide | simp [WShape.has, WShape.arms, WShape.armsAll])
    (show (WTm.eq .res (.lit (.bool true))).value [] { args := args, res := some (.bool true), after := args } = some (.bool (true == true)) from w_eq_bool (w_res rfl) w_lit) rfl

section
variable {prog : Program} {w : World} {A : Around} {E : Value → Shared → Prop} {s : Shared} {K : Frag}

noncomputable def ledger (h : Heap) (L d : Addr) : List (Addr × Obj) := (List.range h.objs.size).filterMap fun a => if a = L ∨ a = d then none else (h.get? a).map fun o => (a, o)
end
end Att

namespace Internal
open PySem PySem.Spec PyProof.Rows

theorem vals_ints : ∀ {vs : List Value} {ns : List Int}, IntsAre vs ns → Vals (ns.map V.int) vs
  | _, _, .nil => .nil
  | _, _, .cons n t h => .cons ⟨t, rfl⟩ (vals_ints h)

noncomputable def Only (H : Hp) : Prop := ∀ b, H b = none ∨ ∃ o xs, H b = some (.frz o (.lst xs))

end Internal

namespace Internal
open PySem PySem.Spec PyProof.Rows

noncomputable abbrev KOf {K : PySem.W.Frag} {h : Heap} (_ : K.In h) : PySem.W.Frag := K

end Internal



namespace Internal
open PySem PySem.Spec PyProof.Rows

noncomputable def defArgs (s : Stmt) : Arguments := match s with
  | .FunctionDef _ a _ _ _ _ _ _ _ _ => a
  | _ => { posonlyargs := [], args := [], vararg := none, kwonlyargs := [], kw_defaults := [], kwarg := none, defaults := [] }
noncomputable def defBody (s : Stmt) : List Stmt := match s with
  | .FunctionDef _ _ b _ _ _ _ _ _ _ => b
  | _ => []
noncomputable def defScope (s : Stmt) : Scope := match s with
  | .FunctionDef _ _ _ _ _ _ sc _ _ _ => sc
  | _ => { kind := .function, names := [], isGenerator := false, isCoroutine := false }

noncomputable abbrev CX0 : CXT := fun _ _ _ _ _ _ => False
noncomputable abbrev E0 : XK := fun _ _ _ => False
set_option genInjectivity false in
set_option genSizeOf false in
structure Fun (K : PySem.W.Frag) (x qual : Str) (st : Stmt) (f : Addr) (fd : FuncData) : Prop where
  ex : ∃ (oc : Value) (od : Option Addr) (kV doc pm : Value) (an : Option Addr) (cdv ct : Value) (osl : Array (Option Value)),
    fd = PySem.W.fnOf x qual (defArgs st) (defBody st) (defScope st) .none kV doc pm an cdv ct ∧ K.lookup f = some ⟨oc, od, .func fd, osl⟩ ∧ PySem.W.codeIn K cdv qual = true
  kp : PySem.W.keepIn K (.ref f) = true
section
variable {P : Program} {w : World} {K : PySem.W.Frag} {mg : Str → Option Value} {base : Heap}
theorem Fun.binds {x qual : Str} {st : Stmt} {f : Addr} {fd : FuncData} {ps : List Str} (F : Fun K x qual st f fd)
    (h : ∀ (kV doc pm : Value) (an : Option Addr) (cdv ct : Value) (us : List Value), us.length = ps.length → bindArgs (PySem.W.fnOf x qual (defArgs st) (defBody st) (defScope st) .none kV doc pm an cdv ct) ⟨us, []⟩ = pure (ps.zip us)) : Binds K fd ps [] := by
  obtain ⟨oc, od, kV, doc, pm, an, cdv, ct, osl, rfl, lk, hcd⟩ := F.ex
  exact .all (h kV doc pm an cdv ct)
theorem fun_mk {x qual : Str} {st : Stmt} {f : Addr} {oc : Value} {od an : Option Addr} {osl : Array (Option Value)} {kV doc pm cdv ct : Value} (l : K.lookup f = some ⟨oc, od, .func (PySem.W.fnOf x qual (defArgs st) (defBody st) (defScope st) .none kV doc pm an cdv ct), osl⟩)
    (c : PySem.W.codeIn K cdv qual = true) (k : PySem.W.keepIn K (.ref f) = true) : Fun K x qual st f (PySem.W.fnOf x qual (defArgs st) (defBody st) (defScope st) .none kV doc pm an cdv ct) := ⟨⟨oc, od, kV, doc, pm, an, cdv, ct, osl, rfl, l, c⟩, k⟩
end
section
variable {X : Cx}
theorem pv (i : Nat) {x : Str} {pos : Pos} (hN : autoParam (X.N[i]? = some x) Internal.aut2._auto_1) (hv : Vis X.env.scope x := by first | exact Or.inl rfl | exact Or.inr (Or.inl rfl) | exact Or.inr (Or.inr rfl)) (hd : autoParam ((x == ("__debug__" : Str)) = false) Internal.aut1._auto_1)
    (hcd : autoParam ((x == ("__classdict__" : Str)) = false) Internal.aut1._auto_1) : PE X (.Name x pos) (tVar i) := pe_var hN hv hd hcd
end

noncomputable def Same (H H' : Hp) : Prop := ∀ b o, H b = some o → H' b = some o
theorem Same.refl (H : Hp) : Same H H := fun _ _ h => h
theorem Same.trans {H H1 H2 : Hp} (a : Same H H1) (b : Same H1 H2) : Same H H2 := fun c o h => b c o (a c o h)
theorem Same.seq {K : PySem.W.Frag} {H H' : Hp} {a : Addr} {xs : List V} (e : Same H H') (h : SqL K H a xs) : SqL K H' a xs := by
  rcases h with (h | ⟨o, h⟩) | h
  · exact .inl (.inl (e _ _ h))
  · exact .inl (.inr ⟨o, e _ _ h⟩)
  · exact .inr h

end Internal

set_option Elab.async false
set_option linter.all false
set_option maxRecDepth 100000
namespace Internal
open PySem PySem.Spec PyProof.Rows

namespace BT
theorem len : bootBuiltins "len" = some (.builtin "len") := by decide +kernel
theorem max : bootBuiltins "max" = some (.builtin "max") := by decide +kernel
theorem min : bootBuiltins "min" = some (.builtin "min") := by decide +kernel
theorem sum : bootBuiltins "sum" = some (.builtin "sum") := by decide +kernel
theorem isinstance : bootBuiltins "isinstance" = some (.builtin "isinstance") := by decide +kernel
theorem int : bootBuiltins "int" = some (.type "int") := by decide +kernel
theorem bool : bootBuiltins "bool" = some (.type "bool") := by decide +kernel
theorem list : bootBuiltins "list" = some (.type "list") := by decide +kernel
end BT

noncomputable def sz (i : Int) : Nat := Builtin.Int.intBits i
theorem sz_le {i : Int} {n : Nat} : sz i ≤ n ↔ i.natAbs < 2 ^ n := by
  unfold sz Builtin.Int.intBits
  by_cases h : i = 0
  · subst h; simp; exact Nat.two_pow_pos n
  · have h' : (i == 0) = false := by simp [h]
    rw [h', if_neg (by decide)]
    have hn : i.natAbs ≠ 0 := by omega
    rw [← Nat.log2_lt hn]; omega
theorem sz_add {i j : Int} {n : Nat} (h1 : sz i ≤ n) (h2 : sz j ≤ n) : sz (i + j) ≤ n + 1 := by
  rw [sz_le] at *; rw [Nat.pow_succ]; omega
theorem sz_mul {i j : Int} {n m : Nat} (h1 : sz i ≤ n) (h2 : sz j ≤ m) : sz (i * j) ≤ n + m := by
  rw [sz_le] at *
  rw [Int.natAbs_mul, Nat.pow_add]
  exact Nat.mul_lt_mul'' h1 h2
theorem sz_of {i : Int} {n : Nat} (h : i.natAbs < 2 ^ n) : sz i ≤ n := sz_le.mpr h
theorem sz200 {i : Int} (h1 : -1606938044258990275541962092341162602522202993782792835301376 < i) (h2 : i < 1606938044258990275541962092341162602522202993782792835301376) : sz i ≤ 200 := sz_of (by
  have : (2 : Nat) ^ 200 = 1606938044258990275541962092341162602522202993782792835301376 := by decide
  omega)
section
variable {X : Cx}
noncomputable def CMulS (i j : Int) : Prop := sz i + sz j ≤ 134217728
theorem CMulS.ok {i j : Int} (h : CMulS i j) : IntMulOk i j := by
  unfold IntMulOk
  have e : Builtin.Int.intTooBig (((Builtin.Int.intBits i : Nat) : Int) + ((Builtin.Int.intBits j : Nat) : Int)) = false := by
    unfold Builtin.Int.intTooBig
    have hb : bitsLine = 134217728 := by decide
    rw [decide_eq_false]
    rw [hb]
    unfold CMulS sz at h
    omega
  rw [e]; simp
theorem CMulS.of {i j : Int} {n m : Nat} (h1 : sz i ≤ n) (h2 : sz j ≤ m) (h : n + m ≤ 134217728) : CMulS i j := by unfold CMulS; omega
theorem op_mulS : OpR X (binaryOp .Mult) (rI CMulS fun i j => .int (i * j)) := opI fun _ _ _ _ _ _ _ hc q => mul_int q hc.ok
noncomputable def rMulU : R2 := fun x y H Q => rI CMulS (fun i j => .int (i * j)) x y H Q ∨ rRep x y H Q
theorem op_mulU : OpR X (binaryOp .Mult) rMulU := op_mulS.or op_rep
noncomputable def rAddU (K : PySem.W.Frag) : R2 := fun x y H Q => rI0 (fun i j => .int (i + j)) x y H Q ∨ rCat x y H Q ∨ rCatT K x y H Q
theorem op_addU : OpR X (binaryOp .Add) (rAddU X.K) := op_add.or (op_cat.or op_catT)
noncomputable def CDivU (i j : Int) : Prop := j ≠ 0 ∧ (sz j ≤ 9000 ∨ sz i ≤ sz j + 4500)
noncomputable def rDivU : R2 := rI CDivU fun i j => .int (i.fdiv j)
theorem sz_log {j : Int} (h : j ≠ 0) : sz j = j.natAbs.log2 + 1 := by
  have h0 : j.natAbs ≠ 0 := by omega
  have h1 : sz j ≤ j.natAbs.log2 + 1 := sz_le.mpr (Nat.lt_log2_self)
  have h2 : ¬ sz j ≤ j.natAbs.log2 := fun z => by
    have := sz_le.mp z
    have := Nat.log2_self_le h0
    omega
  omega
theorem noPylong_near {i j : Int} (hj : j ≠ 0) (h : sz i ≤ sz j + 4500) : Builtin.divisionGoesByPylong i j = false := by
  have hy : (j == 0) = false := by simpa using hj
  have key : (if i == 0 then 0 else i.natAbs.log2 / 30 + 1) ≤ (if j == 0 then 0 else j.natAbs.log2 / 30 + 1) + 150 := by
    rw [hy]
    by_cases hi : i = 0
    · have : (i == 0) = true := by simpa using hi
      rw [this]
      exact Nat.zero_le _
    · have hx : (i == 0) = false := by simpa using hi
      rw [hx]
      rw [sz_log hi, sz_log hj] at h
      show i.natAbs.log2 / 30 + 1 ≤ j.natAbs.log2 / 30 + 1 + 150
      omega
  show (decide (_ > 300) && decide ((if i == 0 then 0 else i.natAbs.log2 / 30 + 1) > (if j == 0 then 0 else j.natAbs.log2 / 30 + 1) + 150)) = false
  rw [decide_eq_false (Nat.not_lt.mpr key), Bool.and_false]
theorem op_divU : OpR X (binaryOp .FloorDiv) rDivU := opI fun i j _ _ _ _ _ hc q => floordiv_int hc.1 q (.inl (hc.2.elim (fun h => PyProof.noPylong_of_log2 (by
  have h1 := sz_le.mp h
  by_cases h0 : j.natAbs = 0
  · rw [h0]; decide
  · exact (Nat.log2_lt h0).mpr h1)) (noPylong_near hc.1)))
noncomputable def rModU : R2 := rI (fun _ j => j ≠ 0) fun i j => .int (i.fmod j)
theorem op_modU : OpR X (binaryOp .Mod) rModU := op_modN

mutual
inductive RepD (K : PySem.W.Frag) (H : Hp) : V → PyData → Prop
  | non : RepD K H .non .none
  | bl (b : Bool) : RepD K H (.bl b) (.bool b)
  | int (i : Int) : RepD K H (.int i) (.int i)
  | str (x : Str) (ok : PyData.canLay0 (.str x) = true) : RepD K H (.str x) (.str x)
  | lst {a : Addr} {vs : List V} {ds : List PyData} : SqL K H a vs → RepAll K H vs ds → RepD K H (.ref a) (.list ds)
  | tup {a : Addr} {vs : List V} {ds : List PyData} : SqT K H a vs → RepAll K H vs ds → RepD K H (.ref a) (.tuple ds)
inductive RepAll (K : PySem.W.Frag) (H : Hp) : List V → List PyData → Prop
  | nil : RepAll K H [] []
  | cons {v : V} {d : PyData} {vs : List V} {ds : List PyData} : RepD K H v d → RepAll K H vs ds → RepAll K H (v :: vs) (d :: ds)
end
mutual
theorem RepD.reads {pins : List (Addr × Obj)} {σ : St} {H : Hp} {s : Shared} (I : Inv X pins σ H s) : ∀ {v : V} {d : PyData} {u : Value}, RepD X.K H v d → RelV v u → ∃ as, Reads s.heap u d as
  | _, _, _, .non, r => by cases (show _ = Value.none from r); exact ⟨_, .none⟩
  | _, _, _, .bl b, r => by cases (show _ = Value.bool b from r); exact ⟨_, .bool b⟩
  | _, _, _, .int i, r => by obtain ⟨t, rfl⟩ := (show ∃ t, _ = Value.int i t from r); exact ⟨_, .int i t⟩
  | _, _, _, .str x _, r => by obtain ⟨t, rfl⟩ := (show ∃ t, _ = Value.str x t from r); exact ⟨_, .str x t⟩
  | _, _, _, .lst h k, r => by
    cases (show _ = Value.ref _ from r)
    obtain ⟨its, rv, ⟨o, n, h1, h2, _, h3⟩, _⟩ := I.list h
    obtain ⟨as, q⟩ := RepAll.reads I k rv
    exact ⟨_, .list h1 h2 h3 (by simpa using q)⟩
  | _, _, _, .tup h k, r => by
    cases (show _ = Value.ref _ from r)
    obtain ⟨its, rv, ⟨o, h1, h2, n, h3⟩, _⟩ := I.tuple h
    obtain ⟨as, q⟩ := RepAll.reads I k rv
    exact ⟨_, .tuple h1 h2 h3 (by simpa using q)⟩
theorem RepAll.reads {pins : List (Addr × Obj)} {σ : St} {H : Hp} {s : Shared} (I : Inv X pins σ H s) : ∀ {vs : List V} {ds : List PyData} {us : List Value}, RepAll X.K H vs ds → Vals vs us → ∃ as, ReadsAll s.heap us ds as
  | _, _, _, .nil, .nil => ⟨_, .nil⟩
  | _, _, _, .cons h k, .cons r t => by
    obtain ⟨as, q⟩ := RepD.reads I h r
    obtain ⟨bs, p⟩ := RepAll.reads I k t
    exact ⟨_, .cons q p⟩
end
mutual
theorem RepD.lay {K : PySem.W.Frag} {H : Hp} : ∀ {v : V} {d : PyData}, RepD K H v d → d.canLay0 = true
  | _, _, .non => rfl
  | _, _, .bl _ => rfl
  | _, _, .int _ => rfl
  | _, _, .str _ ok => ok
  | _, _, .lst _ k => by rw [PyData.canLay0]; exact RepAll.lay k
  | _, _, .tup _ k => by rw [PyData.canLay0]; exact RepAll.lay k
theorem RepAll.lay {K : PySem.W.Frag} {H : Hp} : ∀ {vs : List V} {ds : List PyData}, RepAll K H vs ds → PyData.canLayAll0 ds = true
  | _, _, .nil => rfl
  | _, _, .cons h k => by rw [PyData.canLayAll0, RepD.lay h, RepAll.lay k]; rfl
end
theorem Same.seqT {K : PySem.W.Frag} {H H' : Hp} {a : Addr} {xs : List V} (e : Same H H') (h : SqT K H a xs) : SqT K H' a xs := by
  rcases h with (h | ⟨o, h⟩) | h
  · exact .inl (.inl (e _ _ h))
  · exact .inl (.inr ⟨o, e _ _ h⟩)
  · exact .inr h
mutual
theorem Same.rep {K : PySem.W.Frag} {H H' : Hp} (e : Same H H') : ∀ {v : V} {d : PyData}, RepD K H v d → RepD K H' v d
  | _, _, .non => .non
  | _, _, .bl b => .bl b
  | _, _, .int i => .int i
  | _, _, .str x ok => .str x ok
  | _, _, .lst h k => .lst (e.seq h) (e.repAll k)
  | _, _, .tup h k => .tup (e.seqT h) (e.repAll k)
theorem Same.repAll {K : PySem.W.Frag} {H H' : Hp} (e : Same H H') : ∀ {vs : List V} {ds : List PyData}, RepAll K H vs ds → RepAll K H' vs ds
  | _, _, .nil => .nil
  | _, _, .cons h k => .cons (e.rep h) (e.repAll k)
end
noncomputable def rEqU (K : PySem.W.Frag) : R2 := fun x y H Q => (∃ d e, RepD K H x d ∧ RepD K H y e ∧ min d.depth e.depth ≤ 60 ∧ Q (.bl (PyData.eqv d e)) H) ∨ rEq x y H Q
noncomputable def rNeU (K : PySem.W.Frag) : R2 := fun x y H Q => (∃ d e, RepD K H x d ∧ RepD K H y e ∧ min d.depth e.depth ≤ 60 ∧ Q (.bl (!PyData.eqv d e)) H) ∨ rNe x y H Q
theorem op_eqU (hu : X.A.units + 64 < cLine) : OpR X (compareOp .Eq) (rEqU X.K) := by
  refine OpR.or ?_ op_eq
  intro pins s σ H x y v u Q I rx ry h
  obtain ⟨d, e, h1, h2, hd, q⟩ := h
  obtain ⟨as, r1⟩ := h1.reads I rx
  obtain ⟨bs, r2⟩ := h2.reads I ry
  exact PySem.SeqAt.compareEq_reads r1 r2 h1.lay h2.lay (by omega) ⟨.bl _, H, I, rfl, q⟩
theorem op_neU (hu : X.A.units + 64 < cLine) : OpR X (compareOp .NotEq) (rNeU X.K) := by
  refine OpR.or ?_ op_ne
  intro pins s σ H x y v u Q I rx ry h
  obtain ⟨d, e, h1, h2, hd, q⟩ := h
  obtain ⟨as, r1⟩ := h1.reads I rx
  obtain ⟨bs, r2⟩ := h2.reads I ry
  exact PySem.SeqAt.compareNe_reads r1 r2 h1.lay h2.lay (by omega) ⟨.bl _, H, I, rfl, q⟩

noncomputable def rIsi (K : PySem.W.Frag) : List V → Hp → VK → Prop := fun xs H Q => ∃ x c t b cv, xs = [x, c] ∧ RelV c cv ∧ TyOf K H x t ∧ PySem.W.kitOne K t cv = some b ∧ Q (.bl b) H
theorem call_isinst : CallR X (.builtin "isinstance") (rIsi X.K) := by
  intro pins s σ H xs us Q I r h
  obtain ⟨x, c, t, b, cv, rfl, rc, ty, e, q⟩ := h
  obtain ⟨u, w', rfl, r1, r2⟩ := vals2 r
  have ec : w' = cv := by
    cases c with
    | ty n => exact (show w' = _ from r2).trans (show cv = _ from rc).symm
    | ref a => exact (show w' = _ from r2).trans (show cv = _ from rc).symm
    | non => exact (show w' = _ from r2).trans (show cv = _ from rc).symm
    | bl b => exact (show w' = _ from r2).trans (show cv = _ from rc).symm
    | _ => obtain ⟨_, rfl⟩ := rc; simp [PySem.W.kitOne, PySem.W.kitCls] at e; cases ty <;> simp at e
  subst ec
  exact isinst_ok I r1 ty e fun tk => ⟨.bl b, H, I.tok tk, rfl, q⟩
noncomputable def tNotU (K : PySem.W.Frag) (ta : TE) : TE := fun σ H Q => ta σ H fun x H1 => ∃ k, TruV K x H1 k ∧ Q (.bl (!k)) H1
theorem pe_notU {a : Expr} {ta : TE} {pos : Pos} (ha : PE X a ta) : PE X (.UnaryOp .Not a pos) (tNotU X.K ta) := by
  intro pins s σ H Q I h
  refine UnaryOp_ (thn (ha pins s σ H _ I h) fun v s1 zz => ?_)
  obtain ⟨x, H1, I1, r1, k, hk, q1⟩ := zz
  exact not_of (thn (tru_ok pins s1 σ H1 x v (fun c H2 => Q (.bl (!c)) H2) I1 r1 ⟨k, hk, q1⟩) fun c s2 ⟨H2, I2, q2⟩ => ⟨.bl (!c), H2, I2, rfl, q2⟩)
end

noncomputable def rLen (K : PySem.W.Frag) : List V → Hp → VK → Prop := fun xs H Q => ∃ p ys, xs = [.ref p] ∧ (SqL K H p ys ∨ SqT K H p ys) ∧ Q (.int ys.length) H
noncomputable def rMax2 : List V → Hp → VK → Prop := fun xs H Q => ∃ i j, xs = [.int i, .int j] ∧ Q (.int (if j > i then j else i)) H
noncomputable def rMin2 : List V → Hp → VK → Prop := fun xs H Q => ∃ i j, xs = [.int i, .int j] ∧ Q (.int (if j < i then j else i)) H
noncomputable def rListOf (K : PySem.W.Frag) : List V → Hp → VK → Prop := fun xs H Q => ∃ p ys, xs = [.ref p] ∧ (SqL K H p ys ∨ SqT K H p ys) ∧ ∀ l, H l = none → Q (.ref l) (upd H l (.lst ys))
section
variable {X : Cx}
theorem call_lenU : CallR X (.builtin "len") (rLen X.K) := call_len_seq
theorem call_maxU (hc : X.calm = true) : CallR X (.builtin "max") rMax2 := call_max2 hc
theorem call_minU (hc : X.calm = true) : CallR X (.builtin "min") rMin2 := call_min2 hc
theorem call_listU : CallR X (.type "list") (rListOf X.K) := call_list_of
noncomputable abbrev tTru (K : PySem.W.Frag) (ta : TE) : TT := fun σ H Q => ta σ H fun x H' => ∃ k, TruV K x H' k ∧ Q k H'
theorem pt_truthU {a : Expr} {ta : TE} (ha : PE X a ta) (he : ∀ whole, isTrue a X.env whole = (do let v ← whole; standAt a.pos; holding [v] (truthy v))) : PT X a (tTru X.K ta) := pt_truth ha he
end
noncomputable def tMid (t u : TS) : TS := fun D σ H => ∃ M : St → Hp → Prop, t { D with nx := M } σ H ∧ ∀ σ' H', M σ' H' → u D σ' H'
theorem pss_mid {X : Cx} {st : Stmt} {rest : List Stmt} {t u : TS} (h1 : PS X st t) (h2 : PSs X rest u) : PSs X (st :: rest) (tMid t u) := by
  intro pins s σ H D I h
  obtain ⟨M, ht, hM⟩ := h
  refine wpAny_execs_cons (thn (h1 pins s σ H _ I ht) fun f s1 q => ?_)
  cases f with
  | next =>
    obtain ⟨σ', H', I', q'⟩ := q
    exact h2 pins s1 σ' H' D I' (hM σ' H' q')
  | brk => exact q
  | cont => exact q
  | ret u => exact q
noncomputable def NoX (CX : CXT) : Prop := ∀ (outer : List Env) (H : Hp) (s : Shared) (e : Value) (s' : Shared), CX outer H s E0 e s' → False
theorem passN {CX : CXT} {X : Cx} (h : NoX CX) : Passes CX X E0 := fun _ _ H s e s' _ q => (h _ H s e s' q).elim
theorem Fun.okN {P : Program} {w : World} {K : PySem.W.Frag} {mg : Str → Option Value} {base : Heap} {CX : CXT} {x qual : Str} {st : Stmt} {f : Addr} {fd : FuncData} {N ps : List Str} {k : Nat} {sp : Sp} (F : Fun K x qual st f fd) (S : FnScope N ps (defScope st)) (len : ∀ vs H Q E, sp vs H Q E → vs.length = ps.length)
    (hbody : ∀ (cdv : Value) (A : Around) (outer : List Env) (s : Shared) (H : Hp) (vs : List V) (Q : VK) (E : XK), Room k (A.deeper (envOfC qual (defScope st) s.heap.objs.size f cdv)) → sp vs H Q E →
      ∃ t, PSs (cxOf CX P w K mg base N qual (defScope st) f cdv A outer s H E).nox (defBody st) t ∧ t { nx := fun _ H' => Q .non H', rt := Q } (start N vs) H) : FnOk P w K mg base CX (k + 1) f fd ps sp := by
  obtain ⟨oc, od, kV, doc, pm, an, cdv, ct, osl, rfl, lk, hcd⟩ := F.ex
  refine fn_of lk hcd S len fun A outer s H vs Q E hr hsp => ?_
  obtain ⟨t, h, q⟩ := hbody cdv A outer s H vs Q E hr hsp
  exact ⟨t, h.nox, q⟩
section
variable {σ : St} {H : Hp} {Q : VK} {D : Ends} {ta tb tc te : TE} {t u : TS} {K : PySem.W.Frag}
theorem x_var {i : Nat} {v : V} (e : σ[i]? = some (some v)) (q : Q v H) : tVar i σ H Q := ⟨v, e, q⟩
theorem x_i0 {g : Int → Int → V} {i j : Int} (q : Q (g i j) H) : rI0 g (.int i) (.int j) H Q := ⟨i, j, rfl, rfl, q⟩
theorem x_add {i j : Int} (q : Q (.int (i + j)) H) : rAddU K (.int i) (.int j) H Q := .inl ⟨i, j, rfl, rfl, q⟩
theorem x_mul {i j : Int} (c : CMulS i j) (q : Q (.int (i * j)) H) : rMulU (.int i) (.int j) H Q := .inl ⟨i, j, rfl, rfl, c, q⟩
theorem x_div {i j : Int} (h0 : 0 < j) (hs : sz j ≤ 9000) (q : Q (.int (i / j)) H) : rDivU (.int i) (.int j) H Q :=
  ⟨i, j, rfl, rfl, ⟨by omega, .inl hs⟩, by show Q (.int (i.fdiv j)) H; rw [Int.fdiv_eq_ediv_of_nonneg _ (Int.le_of_lt h0)]; exact q⟩
theorem x_mod {i j : Int} (h0 : 0 < j) (q : Q (.int (i % j)) H) : rModU (.int i) (.int j) H Q :=
  ⟨i, j, rfl, rfl, by omega, by show Q (.int (i.fmod j)) H; rw [Int.fmod_eq_emod_of_nonneg _ (Int.le_of_lt h0)]; exact q⟩
theorem x_pow {i j k : Int} (c : CPow i j) (e : i ^ j.toNat = k) (q : Q (.int k) H) : rI CPow (fun i j => .int (i ^ j.toNat)) (.int i) (.int j) H Q := ⟨i, j, rfl, rfl, c, by show Q (.int (i ^ j.toNat)) H; rw [e]; exact q⟩
theorem x_neg {i : Int} (q : Q (.int (-i)) H) : rU (fun i => .int (-i)) (.int i) H Q := ⟨i, rfl, q⟩
theorem dI {i j : Int} : decide (V.int i = V.int j) = decide (i = j) := by simp
theorem x_eqI {i j : Int} (q : Q (.bl (decide (i = j))) H) : rEqU K (.int i) (.int j) H Q := .inr ⟨rfl, by rw [dI]; exact q⟩
theorem x_neI {i j : Int} (q : Q (.bl (!decide (i = j))) H) : rNeU K (.int i) (.int j) H Q := .inr ⟨rfl, by rw [dI]; exact q⟩
theorem x_eqD {x y : V} {d e : PyData} (h1 : RepD K H x d) (h2 : RepD K H y e) (hd : min d.depth e.depth ≤ 60) (q : Q (.bl (PyData.eqv d e)) H) : rEqU K x y H Q := .inl ⟨d, e, h1, h2, hd, q⟩
theorem x_neD {x y : V} {d e : PyData} (h1 : RepD K H x d) (h2 : RepD K H y e) (hd : min d.depth e.depth ≤ 60) (q : Q (.bl (!PyData.eqv d e)) H) : rNeU K x y H Q := .inl ⟨d, e, h1, h2, hd, q⟩
theorem x_ixL {a : Addr} {xs : List V} {i : Int} {v : V} (h : SqL K H a xs) (e : atI xs i = some v) (q : Q v H) : rIx K (.ref a) (.int i) H Q := .inl ⟨a, xs, i, v, rfl, rfl, h, e, q⟩
theorem x_ixT {a : Addr} {xs : List V} {i : Int} {v : V} (h : SqT K H a xs) (e : atI xs i = some v) (q : Q v H) : rIx K (.ref a) (.int i) H Q := .inr (.inl ⟨a, xs, i, v, rfl, rfl, h, e, q⟩)
theorem x_bl {T : Bool → Prop} {b : Bool} (q : T b) : ∃ k, V.bl b = .bl k ∧ T k := ⟨b, rfl, q⟩
theorem x_truB {T : Bool → Prop} {b : Bool} (q : T b) : ∃ k, TruV K (.bl b) H k ∧ T k := ⟨b, rfl, q⟩
theorem x_andV (q : ta σ H fun x H1 => ∃ c, x = .bl c ∧ if c = true then tb σ H1 Q else Q (.bl false) H1) : tAndV ta tb σ H Q := q
theorem x_notU (q : ta σ H fun x H1 => ∃ k, TruV K x H1 k ∧ Q (.bl (!k)) H1) : tNotU K ta σ H Q := q
theorem x_ite {p : Prop} [Decidable p] {A B : Prop} (h1 : p → A) (h2 : ¬ p → B) : if decide p = true then A else B := by
  by_cases h : p
  · rw [if_pos (decide_eq_true h)]; exact h1 h
  · rw [if_neg (by rw [decide_eq_false h]; exact Bool.false_ne_true)]; exact h2 h
theorem x_iteN {p : Prop} [Decidable p] {A B : Prop} (h1 : ¬ p → A) (h2 : p → B) : if (!decide p) = true then A else B := by
  by_cases h : p
  · rw [if_neg (by rw [decide_eq_true h]; exact Bool.false_ne_true)]; exact h2 h
  · rw [if_pos (by rw [decide_eq_false h]; rfl)]; exact h1 h
theorem x_iteT {A B : Prop} (h : A) : if true = true then A else B := by rw [if_pos rfl]; exact h
theorem x_iteF {A B : Prop} (h : B) : if false = true then A else B := by rw [if_neg Bool.false_ne_true]; exact h
theorem x_iteNT {A B : Prop} (h : B) : if (!true) = true then A else B := x_iteF h
theorem x_seq (q : t { D with nx := u D } σ H) : tSeq t u D σ H := q
theorem x_mid (M : St → Hp → Prop) (q : t { D with nx := M } σ H) (r : ∀ σ' H', M σ' H' → u D σ' H') : tMid t u D σ H := ⟨M, q, r⟩
theorem x_nil {R : List V → Hp → Prop} (q : R [] H) : tNil σ H R := q
theorem x_cons {tr : TA} {R : List V → Hp → Prop} (q : ta σ H fun x H1 => tr σ H1 fun xs H2 => R (x :: xs) H2) : tCons ta tr σ H R := q
theorem x_call {sp : Sp} {E : XK} {tr : TA} (q : tr σ H fun vs H1 => sp vs H1 Q E) : tCall sp [] E tr σ H Q := by unfold tCall; simp only [List.append_nil]; exact q
noncomputable def rTup (Q : VK) (xs : List V) (H : Hp) : Prop := xs.length ≤ sizeLine ∧ ∀ p, H p = none → Q (.ref p) (upd H p (.tup xs))
noncomputable def rLst (Q : VK) (xs : List V) (H : Hp) : Prop := xs.length ≤ sizeLine ∧ ∀ p, H p = none → Q (.ref p) (upd H p (.lst xs))
theorem x_tup {tr : TA} (q : tr σ H (rTup Q)) : tTup tr σ H Q := q
theorem x_lst {tr : TA} (q : tr σ H (rLst Q)) : tLst tr σ H Q := q
theorem x_lenL {a : Addr} {xs : List V} (h : SqL K H a xs) (q : Q (.int xs.length) H) : rLen K [.ref a] H Q := ⟨a, xs, rfl, .inl h, q⟩
theorem x_max {i j : Int} (q : Q (.int (if j > i then j else i)) H) : rMax2 [.int i, .int j] H Q := ⟨i, j, rfl, q⟩
theorem x_min {i j : Int} (q : Q (.int (if j < i then j else i)) H) : rMin2 [.int i, .int j] H Q := ⟨i, j, rfl, q⟩
theorem x_start {N : List Str} {vs : List V} {σ0 : St} (e : start N vs = σ0) (q : t D σ0 H) : t D (start N vs) H := by rw [e]; exact q
theorem x_isi {x c : V} {t' cv : Value} {b : Bool} (rc : RelV c cv) (ty : TyOf K H x t') (e : PySem.W.kitOne K t' cv = some b) (q : Q (.bl b) H) : rIsi K [x, c] H Q := ⟨x, c, t', b, cv, rfl, rc, ty, e, q⟩
end
theorem Same.new {H : Hp} {p : Addr} (h : H p = none) (o : HO) : Same H (upd H p o) := fun b u q => by rw [upd_ne (ne_of_none q h)]; exact q
end Internal

set_option Elab.async false
set_option linter.all false
set_option maxRecDepth 100000
namespace Internal
open PySem PySem.Spec PyProof.Rows

theorem closureFor_all {env : Env} {scope : Scope} (h : ∀ y ∈ scope.names, y.2 = .free → ∃ c, env.cells.lookup y.1 = some c) :
    ∃ cl, closureFor scope env = pure cl ∧ (∀ x c, cl.lookup x = some c → env.cells.lookup x = some c) ∧ ∀ y ∈ scope.names, y.2 = .free → cl.lookup y.1 = env.cells.lookup y.1 := by
  unfold closureFor
  have key : ∀ (names : List (Str × NameKind)) (acc : List (Str × Addr)), (∀ y ∈ names, y.2 = .free → ∃ c, env.cells.lookup y.1 = some c) → (∀ x c, acc.lookup x = some c → env.cells.lookup x = some c) →
      ∃ cl, (forIn (m := Sem) names acc fun (x : Str × NameKind) r => if (x.2 == .free) = true then (do let a ← cellOf env x.1; pure (ForInStep.yield ((x.1, a) :: r))) else pure (ForInStep.yield r)) = pure cl ∧
        (∀ x c, cl.lookup x = some c → env.cells.lookup x = some c) ∧ (∀ y ∈ names, y.2 = .free → cl.lookup y.1 = env.cells.lookup y.1) ∧ (∀ x, (∃ c, acc.lookup x = some c) → cl.lookup x = env.cells.lookup x) := by
    intro names
    induction names with
    | nil => intro acc _ ha; exact ⟨acc, rfl, ha, fun _ hy => (nomatch hy), fun x ⟨c, e⟩ => by rw [e, ha x c e]⟩
    | cons y r ih =>
      intro acc hn ha
      obtain ⟨n, k⟩ := y
      have hr : ∀ y ∈ r, y.2 = .free → ∃ c, env.cells.lookup y.1 = some c := fun y hy => hn y (List.mem_cons_of_mem _ hy)
      by_cases hk : k = .free
      · subst hk
        obtain ⟨c, hc⟩ := hn (n, .free) List.mem_cons_self rfl
        have ha' : ∀ x c', List.lookup x ((n, c) :: acc) = some c' → env.cells.lookup x = some c' := fun x c' e => by
          rw [List.lookup_cons] at e
          cases hb : x == n with
          | true => rw [hb] at e; cases e; rw [beq_iff_eq.mp hb]; exact hc
          | false => rw [hb] at e; exact ha x c' e
        obtain ⟨cl, e, h1, h2, h3⟩ := ih ((n, c) :: acc) hr ha'
        refine ⟨cl, ?_, h1, fun y hy hf => ?_, fun x hx => ?_⟩
        · rw [List.forIn_cons]
          simp only [cellOf, hc, beq_self_eq_true, if_true]
          exact e
        · rcases List.mem_cons.mp hy with rfl | hy
          · exact h3 n ⟨c, by rw [List.lookup_cons]; simp⟩
          · exact h2 y hy hf
        · refine h3 x ?_
          obtain ⟨c', e'⟩ := hx
          rw [List.lookup_cons]
          cases hb : x == n with
          | true => exact ⟨c, rfl⟩
          | false => exact ⟨c', e'⟩
      · obtain ⟨cl, e, h1, h2, h3⟩ := ih acc hr ha
        refine ⟨cl, ?_, h1, fun y hy hf => ?_, h3⟩
        · rw [List.forIn_cons]
          have hb : (k == NameKind.free) = false := by simpa using hk
          simp only [hb, Bool.false_eq_true, if_false]
          exact e
        · rcases List.mem_cons.mp hy with rfl | hy
          · exact absurd hf hk
          · exact h2 y hy hf
  obtain ⟨cl, e, h1, h2, _⟩ := key scope.names [] h (fun _ _ z => by simp at z)
  refine ⟨cl, ?_, h1, h2⟩
  show (forIn scope.names [] _ >>= fun r => pure r) = pure cl
  have e' : (forIn (m := Sem) scope.names [] fun (x : Str × NameKind) (r : List (Str × Addr)) => match x with | (name, kind) => if (kind == .free) = true then (do let a ← cellOf env name; pure (ForInStep.yield ((name, a) :: r))) else pure (ForInStep.yield r)) = pure cl := e
  first
    | (rw [e']; rfl)
    | (simp only [e']; rfl)
theorem cellsFrom_app : ∀ (names : List (Str × NameKind)) (n : Nat) (acc : List (Str × Addr)), cellsFrom n names acc = cellsFrom n names [] ++ acc
  | [], _, _ => rfl
  | (name, kind) :: r, n, acc => by
    unfold cellsFrom
    split
    · rw [cellsFrom_app r (n + 1) ((name, n) :: acc), cellsFrom_app r (n + 1) [(name, n)], List.append_assoc]; rfl
    · exact cellsFrom_app r n acc
theorem lookup_app {α : Type} {x : Str} : ∀ {l r : List (Str × α)}, (l ++ r).lookup x = match l.lookup x with | some c => some c | none => r.lookup x
  | [], _ => rfl
  | (k, v) :: l, r => by
    rw [List.cons_append, List.lookup_cons, List.lookup_cons]
    cases x == k with
    | true => rfl
    | false => exact lookup_app (l := l)
noncomputable def compEnv (scope : Scope) (cs : List (Str × Addr)) (C : Addr) (env : Env) : Env :=
  { scope := relabel scope env, locals := C, globals := env.globals, cells := cs, qual := env.qual, func := none, code := env.code, frame := env.frame, builtins := env.builtins }
theorem wpAny_compEnv {M : Model} {A : Around} {E : Value → Shared → Prop} {s : Shared} {scope : Scope} {globals : Addr} {cl : List (Str × Addr)} {qual : Str} {env : Env} {Q : Env → Shared → Prop}
    (hQ : ∀ (own : List (Str × Addr)) (s' : Shared), own = cellsFrom (s.heap.objs.size + 1) scope.names [] → s' = { s with heap := s'.heap } → (∀ b o, s.heap.get? b = some o → s'.heap.get? b = some o) →
      s'.heap.Ns s.heap.objs.size (fun _ => none) → (∀ n c, (n, c) ∈ own → s'.heap.IsCell c none ∧ s.heap.objs.size + 1 ≤ c) → (own.Pairwise fun x y => x.2 ≠ y.2) →
      Q { scope := scope, locals := s.heap.objs.size, globals := globals, cells := own ++ cl, qual := qual, func := none, code := env.code, frame := env.frame, builtins := env.builtins } s') :
    wpAny M A (newFunctionEnv scope globals cl [] qual none .none (some env)) Q E s := by
  simp only [newFunctionEnv, Option.isSome_some, if_true]
  refine wpAny_bind (wpAny_alloc ?_)
  refine wpAny_bind (wpAny_layCells _ (fun name kind cells => by cases hkc : kind == NameKind.cell <;> simp [hkc]) _ _ _ _ ?_)
  have ok := cellsFrom_ok scope.names (s.heap.push { cls := .type "dict", data := .dict #[] }) (s.heap.objs.size + 1) [] ⟨fun _ _ hm => (nomatch hm), List.Pairwise.nil⟩ (by rw [Heap.size_push]; exact Nat.le_refl _)
  rw [Heap.size_push] at ok
  rw [show ({ s with heap := s.heap.push { cls := .type "dict", data := .dict #[] } } : Shared).heap.objs.size = s.heap.objs.size + 1 from Heap.size_push ..]
  rw [cellsFrom_app]
  have fin := hQ _ { s with heap := pushCells (s.heap.push { cls := .type "dict", data := .dict #[] }) scope.names } rfl rfl (fun b o e => pushCells_keeps _ _ b o (Heap.get?_push_of_some _ e))
    ((Heap.Ns.new s.heap (.type "dict")).keeps (pushCells_keeps _ _)) ok.empty ok.apart
  exact wpAny_bind (wpAny_pure (wpAny_pure fin))

theorem lookup_relabel_free {env : Env} : ∀ {names : List (Str × NameKind)} {x : Str}, names.lookup x = some .free →
    (names.map fun (n, k) => if (k == NameKind.free && env.scope.kind == .function && env.kindOf n == some .cell) then (n, NameKind.cell) else (n, k)).lookup x = some .cell ∨
    (names.map fun (n, k) => if (k == NameKind.free && env.scope.kind == .function && env.kindOf n == some .cell) then (n, NameKind.cell) else (n, k)).lookup x = some .free
  | [], _, h => by simp at h
  | (n, k) :: r, x, h => by
    have ih := @lookup_relabel_free env r x
    show List.lookup x ((if (k == NameKind.free && env.scope.kind == .function && env.kindOf n == some .cell) = true then (n, NameKind.cell) else (n, k)) :: _) = _ ∨ List.lookup x ((if (k == NameKind.free && env.scope.kind == .function && env.kindOf n == some .cell) = true then (n, NameKind.cell) else (n, k)) :: _) = _
    by_cases hc : (k == NameKind.free && env.scope.kind == .function && env.kindOf n == some .cell) = true
    · rw [if_pos hc]
      cases hx : x == n with
      | true => left; simp [List.lookup_cons, hx]
      | false => simp only [List.lookup_cons, hx] at h ⊢; exact ih h
    · rw [if_neg hc]
      cases hx : x == n with
      | true => simp only [List.lookup_cons, hx] at h ⊢; exact .inr h
      | false => simp only [List.lookup_cons, hx] at h ⊢; exact ih h
theorem lookup_relabel_cell {env : Env} : ∀ {names : List (Str × NameKind)} {x : Str}, (names.map fun (n, k) => if (k == NameKind.free && env.scope.kind == .function && env.kindOf n == some .cell) then (n, NameKind.cell) else (n, k)).lookup x = some .cell ∨
    (names.map fun (n, k) => if (k == NameKind.free && env.scope.kind == .function && env.kindOf n == some .cell) then (n, NameKind.cell) else (n, k)).lookup x = some .free → names.lookup x = some .cell ∨ names.lookup x = some .free
  | [], _, h => by simp at h
  | (n, k) :: r, x, h => by
    have ih := @lookup_relabel_cell env r x
    have h' : List.lookup x ((if (k == NameKind.free && env.scope.kind == .function && env.kindOf n == some .cell) = true then (n, NameKind.cell) else (n, k)) :: (r.map fun (n, k) => if (k == NameKind.free && env.scope.kind == .function && env.kindOf n == some .cell) then (n, NameKind.cell) else (n, k))) = some .cell ∨
      List.lookup x ((if (k == NameKind.free && env.scope.kind == .function && env.kindOf n == some .cell) = true then (n, NameKind.cell) else (n, k)) :: (r.map fun (n, k) => if (k == NameKind.free && env.scope.kind == .function && env.kindOf n == some .cell) then (n, NameKind.cell) else (n, k))) = some .free := h
    clear h
    by_cases hc : (k == NameKind.free && env.scope.kind == .function && env.kindOf n == some .cell) = true
    · have hk : k = .free := by
        rw [Bool.and_eq_true, Bool.and_eq_true] at hc
        exact beq_iff_eq.mp hc.1.1
      subst hk
      rw [if_pos hc] at h'
      cases hx : x == n with
      | true => right; simp [List.lookup_cons, hx]
      | false => simp only [List.lookup_cons, hx] at h' ⊢; exact ih h'
    · rw [if_neg hc] at h'
      cases hx : x == n with
      | true => simp only [List.lookup_cons, hx] at h' ⊢; exact h'
      | false => simp only [List.lookup_cons, hx] at h' ⊢; exact ih h'
theorem lookup_relabel_own {env : Env} : ∀ {names : List (Str × NameKind)} {x : Str}, names.lookup x = some .cell →
    (names.map fun (n, k) => if (k == NameKind.free && env.scope.kind == .function && env.kindOf n == some .cell) then (n, NameKind.cell) else (n, k)).lookup x = some .cell
  | [], _, h => by simp at h
  | (n, k) :: r, x, h => by
    have ih := @lookup_relabel_own env r x
    show List.lookup x ((if (k == NameKind.free && env.scope.kind == .function && env.kindOf n == some .cell) = true then (n, NameKind.cell) else (n, k)) :: _) = _
    by_cases hc : (k == NameKind.free && env.scope.kind == .function && env.kindOf n == some .cell) = true
    · rw [if_pos hc]
      cases hx : x == n with
      | true => simp [List.lookup_cons, hx]
      | false => simp only [List.lookup_cons, hx] at h ⊢; exact ih h
    · rw [if_neg hc]
      cases hx : x == n with
      | true => simp only [List.lookup_cons, hx] at h ⊢; exact h
      | false => simp only [List.lookup_cons, hx] at h ⊢; exact ih h
theorem own_mem {names : List (Str × NameKind)} : ∀ {n : Nat} {acc : List (Str × Addr)} {x : Str} {c : Addr}, (x, c) ∈ cellsFrom n names acc → (x, .cell) ∈ names ∨ (x, c) ∈ acc := by
  induction names with
  | nil => intro n acc x c h; exact .inr h
  | cons y r ih =>
    intro n acc x c h
    obtain ⟨nm, k⟩ := y
    unfold cellsFrom at h
    split at h
    · rename_i hk
      rcases ih h with h | h
      · exact .inl (List.mem_cons_of_mem _ h)
      · rcases List.mem_cons.mp h with e | h
        · cases e
          rw [beq_iff_eq.mp hk]; exact .inl List.mem_cons_self
        · exact .inr h
    · rcases ih h with h | h
      · exact .inl (List.mem_cons_of_mem _ h)
      · exact .inr h
theorem nodup_lookup {names : List (Str × NameKind)} (nd : (names.map (·.1)).Nodup) {x : Str} {k : NameKind} (h : (x, k) ∈ names) : names.lookup x = some k := by
  induction names with
  | nil => cases h
  | cons y r ih =>
    obtain ⟨n, k'⟩ := y
    rw [List.map_cons, List.nodup_cons] at nd
    rw [List.lookup_cons]
    rcases List.mem_cons.mp h with e | hm
    · cases e; simp
    · have hne : x ≠ n := fun e => nd.1 (List.mem_map.mpr ⟨(x, k), hm, e⟩)
      have hb : (x == n) = false := by simpa using hne
      rw [hb]; exact ih nd.2 hm

noncomputable def compCx (X : Cx) (scope : Scope) (Ni : List Str) (cs : List (Str × Addr)) (s₃ : Shared) (H₃ : Hp) (fp : List Addr) (pins : List (Addr × Obj)) : Cx :=
  { X with N := Ni, s₀ := s₃, H₀ := H₃, env := compEnv scope cs s₃.heap.objs.size X.env, outer := X.stack, stack := X.stack, ex := fp, fn := fun y => decide (scope.names.lookup y = some .cell), pn := X.pn ++ pins, xe := fun _ _ => False }
set_option genInjectivity false in
set_option genSizeOf false in
structure CompScope (X : Cx) (scope : Scope) (Ni : List Str) (caps : List (Option Nat)) : Prop where
  kind : scope.kind = .function
  ndn : (scope.names.map (·.1)).Nodup
  free : ∀ y ∈ scope.names, y.2 = .free → X.env.kindOf y.1 = some .cell ∨ X.env.kindOf y.1 = some .free
  nd : Ni.Nodup
  len : caps.length = Ni.length
  cap : ∀ (i : Nat) (y : Str) (j : Nat), Ni[i]? = some y → caps[i]? = some (some j) → X.N[j]? = some y ∧ scope.names.lookup y = some .free
noncomputable def compChk (so : Scope) (No : List Str) (scope : Scope) (Ni : List Str) (caps : List (Option Nat)) : Bool :=
  (scope.kind == .function) && decide ((scope.names.map (·.1)).Nodup) && (scope.names.all fun y => y.2 != .free || so.names.lookup y.1 == some .cell || so.names.lookup y.1 == some .free) &&
  decide Ni.Nodup && (caps.length == Ni.length) && ((Ni.zip caps).all fun p => match p.2 with | none => true | some j => No[j]? == some p.1 && scope.names.lookup p.1 == some .free)
theorem compScope_of {X : Cx} {scope : Scope} {Ni : List Str} {caps : List (Option Nat)} (h : compChk X.env.scope X.N scope Ni caps = true) : CompScope X scope Ni caps := by
  unfold compChk at h
  simp only [Bool.and_eq_true] at h
  obtain ⟨⟨⟨⟨⟨h1, h2⟩, h3⟩, h4⟩, h5⟩, h6⟩ := h
  refine ⟨beq_iff_eq.mp h1, of_decide_eq_true h2, fun y hy hf => ?_, of_decide_eq_true h4, beq_iff_eq.mp h5, fun i y j e1 e2 => ?_⟩
  · have q := List.all_eq_true.mp h3 y hy
    rw [Bool.or_eq_true, Bool.or_eq_true] at q
    rcases q with (q | q) | q
    · rw [hf] at q; simp at q
    · exact .inl (beq_iff_eq.mp q)
    · exact .inr (beq_iff_eq.mp q)
  · have hm : (y, some j) ∈ Ni.zip caps := by
      refine List.mem_of_getElem? (i := i) ?_
      rw [List.getElem?_zip_eq_some]; exact ⟨e1, e2⟩
    have q := List.all_eq_true.mp h6 _ hm
    simp only [Bool.and_eq_true] at q
    exact ⟨beq_iff_eq.mp q.1, beq_iff_eq.mp q.2⟩
noncomputable def capSt (caps : List (Option Nat)) (σ : St) : St := caps.map fun o => match o with | some j => (σ[j]?).getD none | none => none
section
variable {X : Cx}
set_option genInjectivity false in
set_option genSizeOf false in
structure CompAt (X : Cx) (scope : Scope) (own cl : List (Str × Addr)) (s₃ : Shared) : Prop where
  oeq : own = cellsFrom (s₃.heap.objs.size + 1) scope.names []
  apart : own.Pairwise fun x y => x.2 ≠ y.2
  above : ∀ n c, (n, c) ∈ own → s₃.heap.objs.size + 1 ≤ c
  sub : ∀ x c, cl.lookup x = some c → X.env.cells.lookup x = some c
  all : ∀ y ∈ scope.names, y.2 = .free → cl.lookup y.1 = X.env.cells.lookup y.1
theorem CompAt.look {scope : Scope} {own cl : List (Str × Addr)} {s₃ : Shared} (T : CompAt X scope own cl s₃) {x : Str} {c : Addr} (h : (own ++ cl).lookup x = some c) : (x, c) ∈ own ∨ X.env.cells.lookup x = some c := by
  rw [lookup_app] at h
  cases e : own.lookup x with
  | some c' => rw [e] at h; cases h; exact .inl (mem_of_lookup e)
  | none => rw [e] at h; exact .inr (T.sub x c h)
theorem cells_lt {pins : List (Addr × Obj)} {σ : St} {H : Hp} {s : Shared} (I : Inv X pins σ H s) {x : Str} {c : Addr} (h : X.env.cells.lookup x = some c) : c < s.heap.objs.size := by
  obtain ⟨v, o, ho, _⟩ := I.cell x c h
  exact Heap.lt_size ho
theorem comp_ok {scope : Scope} {Ni : List Str} {caps : List (Option Nat)} {own cl : List (Str × Addr)} {pins : List (Addr × Obj)} {σ : St} {H₃ : Hp} {s₃ : Shared} {fp : List Addr}
    (S : CompScope X scope Ni caps) (T : CompAt X scope own cl s₃) (I : Inv X pins σ H₃ s₃) (f : ∀ b ∈ fp, FpOk X pins H₃ b) (hf : ∀ b ∈ fp, b < s₃.heap.objs.size) : (compCx X scope Ni (own ++ cl) s₃ H₃ fp pins).Ok where
  mod := I.ok.mod
  kind := S.kind
  glob := I.ok.glob
  blt := I.ok.blt
  above := Nat.le_refl _
  inj := fun x y c h1 h2 => by
    rcases T.look h1 with a | a
    · rcases T.look h2 with b | b
      · exact name_of_addr T.apart a b
      · exact absurd (Nat.lt_of_lt_of_le (cells_lt I b) (Nat.le_of_succ_le (T.above x c a))) (Nat.lt_irrefl _)
    · rcases T.look h2 with b | b
      · exact absurd (Nat.lt_of_lt_of_le (cells_lt I a) (Nat.le_of_succ_le (T.above y c b))) (Nat.lt_irrefl _)
      · exact I.ok.inj x y c a b
  has := fun x h => by
    have h' := lookup_relabel_cell (env := X.env) (names := scope.names) (x := x) h
    show ∃ c, (own ++ cl).lookup x = some c
    rw [lookup_app]
    cases e : own.lookup x with
    | some c => exact ⟨c, rfl⟩
    | none =>
      rcases h' with h' | h'
      · obtain ⟨c, ec⟩ := cell_has (n := s₃.heap.objs.size + 1) h'
        rw [← T.oeq, e] at ec; cases ec
      · have hm := mem_of_lookup h'
        obtain ⟨c, ec⟩ := I.ok.has x (S.free _ hm rfl)
        exact ⟨c, (T.all _ hm rfl).trans ec⟩
  cab := fun x c h1 h2 => by
    have hk : scope.names.lookup x = some .cell := of_decide_eq_true h1
    obtain ⟨c', ec⟩ := cell_has (n := s₃.heap.objs.size + 1) hk
    rw [← T.oeq] at ec
    have h2' : (own ++ cl).lookup x = some c := h2
    rw [lookup_app, ec] at h2'
    cases h2'
    have := T.above x _ (mem_of_lookup ec)
    show s₃.heap.objs.size ≤ _
    omega
  hd := I.ok.hd
  frames := I.ok.frames
  stk := .inl rfl
  exf := fun b hb => ⟨Nat.ne_of_lt (hf b hb), fun x c h => by
    rcases T.look h with a | a
    · exact fun e => absurd (Nat.lt_of_lt_of_le (hf b hb) (Nat.le_of_succ_le (e ▸ T.above x c a))) (Nat.lt_irrefl _)
    · exact (f b hb).2.2.2.2.1 x c a⟩
  bs := I.bs
  bsz := Nat.le_trans I.ok.bsz I.sz
  noex := fun b o e hb => by
    rcases (f b hb).2.2.2.1 with z | z
    · exact I.ok.noex b o e z
    · have h1 : b < X.base.objs.size := Heap.lt_size e
      have h2 := I.ok.bsz
      exact absurd (Nat.lt_of_lt_of_le h1 (Nat.le_trans h2 z)) (Nat.lt_irrefl _)
  exfs := fun b hb hm => by
    rcases List.mem_cons.mp (I.stkSub b hm) with z | z
    · exact (f b hb).2.1 z
    · exact (f b hb).2.2.1 z
  funs := I.stack
  frf := I.stkFree
theorem comp_start {scope : Scope} {Ni : List Str} {caps : List (Option Nat)} {own cl : List (Str × Addr)} {pins : List (Addr × Obj)} {σ : St} {H₃ : Hp} {s₃ s₄ : Shared} {fp : List Addr}
    (S : CompScope X scope Ni caps) (T : CompAt X scope own cl s₃) (I : Inv X pins σ H₃ s₃) (f : ∀ b ∈ fp, FpOk X pins H₃ b) (hf : ∀ b ∈ fp, b < s₃.heap.objs.size)
    (e4 : s₄ = { s₃ with heap := s₄.heap }) (k : ∀ b o, s₃.heap.get? b = some o → s₄.heap.get? b = some o) (ns : s₄.heap.Ns s₃.heap.objs.size fun _ => none) (oc : ∀ n c, (n, c) ∈ own → s₄.heap.IsCell c none) :
    Inv (compCx X scope Ni (own ++ cl) s₃ H₃ fp pins) [] (capSt caps σ) H₃ s₄ where
  ok := comp_ok S T I f hf
  os := by rw [e4]; rfl
  bare := by rw [e4]; exact I.bare
  base := Un.kept k
  loc := by
    refine ⟨_, ns, fun i x v h1 h2 h3 => ?_⟩
    have h2' : (capSt caps σ)[i]? = some (some v) := h2
    unfold capSt at h2'
    rw [List.getElem?_map] at h2'
    cases ec : caps[i]? with
    | none => rw [ec] at h2'; cases h2'
    | some o =>
      cases o with
      | none => rw [ec] at h2'; cases h2'
      | some j =>
        rw [ec] at h2'
        have h2'' : (σ[j]?).getD none = some v := Option.some.inj h2'
        have hj : σ[j]? = some (some v) := by
          cases e : σ[j]? with
          | none => rw [e] at h2''; cases h2''
          | some z => rw [e] at h2''; exact congrArg some h2''
        obtain ⟨hN, hfr⟩ := S.cap i x j h1 ec
        have hm := mem_of_lookup hfr
        have hk := S.free _ hm rfl
        obtain ⟨m, _, hl⟩ := I.loc
        obtain ⟨u, r, l⟩ := hl j x v hN hj (by rcases hk with z | z; exact .inr (.inl z); exact .inr (.inr z))
        refine ⟨u, r, .inr ⟨lookup_relabel_free hfr, ?_⟩⟩
        rcases l with ⟨z, _⟩ | ⟨_, c, hc, q⟩
        · have z' : X.env.kindOf x = some .local := z
          rcases hk with y | y <;> (have y' : X.env.kindOf x = _ := y; rw [z'] at y'; cases y')
        · refine ⟨c, ?_, q.keeps k⟩
          show (own ++ cl).lookup x = some c
          rw [lookup_app]
          cases eo : own.lookup x with
          | some c' =>
            rw [T.oeq] at eo
            rcases own_mem (mem_of_lookup eo) with y | y
            · have := nodup_lookup S.ndn y
              rw [hfr] at this; cases this
            · cases y
          | none => exact (T.all _ hm rfl).trans hc
  cell := fun x c h => by
    rcases T.look h with a | a
    · exact ⟨_, oc x c a⟩
    · obtain ⟨v, q⟩ := I.cell x c a
      exact ⟨v, q.keeps k⟩
  free := I.hok.fresh (Nat.le_refl _)
  freeC := fun x c h => by
    rcases T.look h with a | a
    · exact I.hok.fresh (by have := T.above x c a; omega)
    · exact I.freeC x c a
  pin := fun p hp => by
    have hp' : p ∈ X.pn ++ pins := by
      have : p ∈ (X.pn ++ pins) ++ [] := hp
      simpa using this
    obtain ⟨h1, h2, h3, h4, h5⟩ := I.pin p hp'
    refine ⟨k _ _ h1, h2, Nat.ne_of_lt (Heap.lt_size h1), fun z => ?_, h5⟩
    rcases List.mem_cons.mp (I.stkSub _ z) with y | y
    · exact h3 y
    · exact h4 y
  hok := I.hok.kept k
  len := by
    show (capSt caps σ).length = Ni.length
    unfold capSt; rw [List.length_map]; exact S.len
theorem comp_end {scope : Scope} {Ni : List Str} {cs : List (Str × Addr)} {pins : List (Addr × Obj)} {σ σ' : St} {H₃ H' : Hp} {s₃ s' : Shared} {fp : List Addr} (I : Inv X pins σ H₃ s₃) (f : ∀ b ∈ fp, FpOk X pins H₃ b)
    (J : Inv (compCx X scope Ni cs s₃ H₃ fp pins) [] σ' H' s') : Inv X pins σ H' s' := by
  have u : Un (frs X.stack) fp H₃ H' s₃.heap s'.heap := J.base
  have q := I.call (g' := s'.gens) (t' := s'.toks) (d' := s'.drawn) (ch := fp) u J.hok J.bare fun b hb => ⟨(f b hb).2.2.2.1, (f b hb).2.1, (f b hb).2.2.2.2.1, (f b hb).2.2.2.2.2⟩
  have e : ({ s₃ with heap := s'.heap, gens := s'.gens, drawn := s'.drawn, toks := s'.toks } : Shared) = s' := by
    have h1 : s'.os = s₃.os := J.os
    cases s'; cases s₃
    simp only at h1
    subst h1; rfl
  rw [e] at q
  exact q
noncomputable def PF (Y : Cx) (ifs : List Expr) (t : TT) : Prop := ∀ (pins : List (Addr × Obj)) (s : Shared) (σ : St) (H : Hp) (Q : Bool → Hp → Prop), Inv Y pins σ H s → t σ H Q →
  wpAny (model Y.prog Y.w) Y.A (forIn ifs true fun c r => if r = true then do let ok ← isTrue c Y.env (eval c Y.env); pure (ForInStep.yield ok) else pure (ForInStep.yield r)) (TP Y pins σ Q) Y.xe s
noncomputable abbrev tYes : TT := fun _ H T => T true H
theorem pf_nil {Y : Cx} : PF Y [] tYes := fun pins s σ H Q I h => wpAny_tests_nil ⟨H, I, h⟩
theorem pf_one {Y : Cx} {c : Expr} {t : TT} (h : PT Y c t) : PF Y [c] t := fun pins s σ H Q I q => wpAny_tests_one (h pins s σ H Q I q)
noncomputable def tComp (wi : TI) (caps : List (Option Nat)) (g : TG) (tf : TT) (te : TE) : TE := fun σ H Q => wi σ H fun J H1 => ∀ D, H1 D = none →
  ∃ W : Nat → Nat → St → Hp → Prop, (∃ m, W 0 m (capSt caps σ) (upd H1 D (.lst []))) ∧ ∀ i m σ' H', W i m σ' H' →
    (J.stop i H' ∧ Q (.ref D) H') ∨ (J.go i H' ∧ ∃ N : St → Hp → Prop, (∀ σ2 H2, N σ2 H2 → ∃ m', m' < m ∧ W (i + 1) m' σ2 H2) ∧
      ∀ x H2, J.yld i H' x H2 → g x σ' H2 fun σ1 H3 => tf σ1 H3 fun b H4 => if b = true then te σ1 H4 fun v H5 => rAppend (.ref D) [v] H5 fun _ H6 => N σ1 H6 else N σ1 H4)

theorem compLoop_own {P : Program} {w : World} {A : Around} {R : Result → Shared → Prop} {s0 : Shared} {elt tg iter : Expr} {tests : List Expr} {sc : Scope} {ps : Pos} {itv acc : Value} {en : Env} (J : Nat → Shared → Prop)
    (turn : ∀ n s, J n s → wpAny (model P w) A (pyNext itv) (fun r s1 => match r with | none => R (.ok .next) s1 | some v => wpAny (model P w) A (letOwnedTupleGo tg itv v) (fun _ s1' => wpAny (model P w) A (assign tg en v) (fun _ s2 =>
      wpAny (model P w) A (forIn tests true fun c r => if r = true then do let ok ← isTrue c en (eval c en); pure (ForInStep.yield ok) else pure (ForInStep.yield r)) (fun ok s3 => if ok = true then wpAny (model P w) A (eval elt en) (fun x s4 =>
        wpAny (model P w) A (call (.builtin "list.append") [acc, x]) (fun _ s5 => ∃ m, m < n ∧ J m s5) (notedBy (model P w) A en fun e s' => R (.error e) s') s4) (notedBy (model P w) A en fun e s' => R (.error e) s') s3
          else ∃ m, m < n ∧ J m s3) (notedBy (model P w) A en fun e s' => R (.error e) s') s2) (notedBy (model P w) A en fun e s' => R (.error e) s') s1') (notedBy (model P w) A en fun e s' => R (.error e) s') s1) (notedBy (model P w) A en fun e s' => R (.error e) s') s)
    (n0 : Nat) (j0 : J n0 s0) : codeAny (model P w) A (.compLoop (.ListComp elt [⟨tg, iter, tests, 0⟩] sc ps) 0 itv acc en) R s0 := by
  refine codeAny_loop rfl J (fun n s hJ => ?_) n0 j0
  show wpAny _ A ((compTurn (.ListComp elt [⟨tg, iter, tests, 0⟩] sc ps) 0 itv acc en).onRaise (fun x => do noteFrame x en; theTreesLotGoes x)) _ _ s
  refine wpAny_noted ?_
  rw [compTurn_list]
  refine wpAny_bind (wpAny_standAt (wpAny_bind (wpAny_mono (turn n s hJ) (fun r s1 h1 => ?_) fun _ _ z => z)))
  cases r with
  | none => exact wpAny_pure h1
  | some v =>
    refine wpAny_bind (wpAny_mono h1 (fun _ s1' h1' => wpAny_bind (wpAny_mono h1' (fun _ s2 h2 => wpAny_bind (wpAny_mono h2 (fun ok s3 h3 => ?_) fun _ _ z => z)) fun _ _ z => z)) fun _ _ z => z)
    cases ok with
    | false => exact wpAny_pure ⟨rfl, h3⟩
    | true =>
      exact wpAny_bind (wpAny_bind (wpAny_mono h3 (fun x s4 h4 => wpAny_bind (wpAny_mono h4 (fun _ s5 h5 => wpAny_pure (wpAny_pure ⟨rfl, h5⟩)) fun _ _ z => z)) fun _ _ z => z))
theorem comp_loop {Y : Cx} {elt iter : Expr} {tg : Expr} {ifs : List Expr} {scope : Scope} {pos : Pos} {it D : Addr} {fp : List Addr} {tn : Nat → Heap → Prop} {J : It} {g : TG} {tf : TT} {te : TE} {Q : VK} {R : Result → Shared → Prop}
    (T : Turn Y.prog Y.w Y.K tg J fp it tn) (hc : Y.calm = true) (gY : PG Y tg g) (hF : PF Y ifs tf) (hE : PE Y elt te) (fpY : ∀ {H' : Hp}, (∀ b ∈ fp, H' b = none) → ∀ b ∈ fp, FpOk Y [] H' b) (hx : ∀ e s, ¬ Y.xe e s)
    {W : Nat → Nat → St → Hp → Prop} (turn : ∀ i m σ' H', W i m σ' H' →
      (J.stop i H' ∧ Q (.ref D) H') ∨ (J.go i H' ∧ ∃ N : St → Hp → Prop, (∀ σ2 H2, N σ2 H2 → ∃ m', m' < m ∧ W (i + 1) m' σ2 H2) ∧
        ∀ x H2, J.yld i H' x H2 → g x σ' H2 fun σ1 H3 => tf σ1 H3 fun b H4 => if b = true then te σ1 H4 fun v H5 => rAppend (.ref D) [v] H5 fun _ H6 => N σ1 H6 else N σ1 H4))
    (fin : ∀ σ' H' s', Inv Y [] σ' H' s' → Q (.ref D) H' → R (.ok .next) s') {m0 : Nat} {σ0 : St} {H0 : Hp} {s0 : Shared} (I0 : Inv Y [] σ0 H0 s0) (st0 : tn 0 s0.heap) (fr0 : ∀ b ∈ fp, H0 b = none) (w0 : W 0 m0 σ0 H0) :
    codeAny (model Y.prog Y.w) Y.A (.compLoop (.ListComp elt [⟨tg, iter, ifs, 0⟩] scope pos) 0 (.ref it) (.ref D) Y.env) R s0 := by
  refine compLoop_own (fun n s' => ∃ i σ' H', Inv Y [] σ' H' s' ∧ tn i s'.heap ∧ (∀ b ∈ fp, H' b = none) ∧ W i n σ' H') ?_ m0 ⟨0, _, _, I0, st0, fr0, w0⟩
  rintro n s5 ⟨i, σ5, H5, I5, st5, fr5, w5⟩
  have noE : ∀ {α : Type} {t : Sem α} {Q1 : α → Shared → Prop} {E2 : Value → Shared → Prop} {s1 : Shared}, wpAny (model Y.prog Y.w) Y.A t Q1 Y.xe s1 → wpAny (model Y.prog Y.w) Y.A t Q1 E2 s1 :=
    fun h => wpAny_mono h (fun _ _ q => q) fun e s z => (hx e s z).elim
  rcases turn i n σ5 H5 w5 with ⟨stop, qn⟩ | ⟨go, N, hN, step⟩
  · refine thn (T.done Y rfl rfl rfl hc i [] s5 σ5 H5 _ I5 (fpY fr5) st5 stop) fun r s6 ⟨hr, I6⟩ => ?_
    subst hr
    exact fin σ5 H5 s6 I6 qn
  · refine thn (T.item Y rfl rfl rfl hc i [] s5 σ5 H5 _ I5 (fpY fr5) st5 go) fun r s6 ⟨u, hr, h6⟩ => ?_
    subst hr
    refine thn h6 fun _ s7 zz => ?_
    obtain ⟨x7, H7, I7, r7, y7, st7, fr7⟩ := zz
    have I7' := I7.pinned (fpY fr7) (T.obj _ _ st7)
    have again : ∀ {σ9 : St} {H9 : Hp} {s9 : Shared}, Inv Y ([] ++ pinsAt fp s7.heap) σ9 H9 s9 → N σ9 H9 → ∃ m, m < n ∧ ∃ i σ' H', Inv Y [] σ' H' s9 ∧ tn i s9.heap ∧ (∀ b ∈ fp, H' b = none) ∧ W i m σ' H' := fun {σ9 H9 s9} I9 n9 => by
      obtain ⟨m', hm, w9⟩ := hN σ9 H9 n9
      refine ⟨m', hm, i + 1, σ9, H9, I9.unpinned, T.keep _ _ _ st7 fun b hb o e => (I9.pin (b, o) (List.mem_append_right _ (List.mem_append_right _ (mem_pinsAt hb e)))).1, fun b hb => ?_, w9⟩
      obtain ⟨o, e, d⟩ := T.obj _ _ st7 b hb
      exact (I9.pin (b, o) (List.mem_append_right _ (List.mem_append_right _ (mem_pinsAt hb e)))).2.1
    refine noE (thn (gY _ s7 σ5 H7 x7 u _ I7' r7 (step x7 _ y7)) fun _ s8 zz => ?_)
    obtain ⟨σ8, H8, I8, q8⟩ := zz
    refine noE (thn (hF _ s8 _ _ _ I8 q8) fun b s9 ⟨H9, I9, q9⟩ => ?_)
    cases b with
    | false => exact again I9 q9
    | true =>
      refine noE (thn (hE _ s9 _ _ _ I9 q9) fun y s10 zz => ?_)
      obtain ⟨v10, H10, I10, r10, q10⟩ := zz
      refine noE (thn (mt_append (X := Y) _ s10 _ _ (.ref D) [v10] (.ref D) [y] _ I10 rfl (.cons r10 .nil) q10) fun _ s11 zz => ?_)
      obtain ⟨v11, H11, I11, _, q11⟩ := zz
      exact again I11 q11
theorem pg_nameC {scope : Scope} {Ni : List Str} {caps : List (Option Nat)} {x : Str} {px : Pos} {gi : Nat} {cs : List (Str × Addr)} {s₃ : Shared} {H₃ : Hp} {fp : List Addr} {pins : List (Addr × Obj)}
    (S : CompScope X scope Ni caps) (hx : scope.names.lookup x = some .local ∨ scope.names.lookup x = some .cell) (hgi : Ni[gi]? = some x) : PG (compCx X scope Ni cs s₃ H₃ fp pins) (.Name x px) (gName gi) := by
  rcases hx with hx | hx
  · exact pg_name S.nd hgi (.inl (lookup_relabel_local hx)) (.inr (lookup_relabel_local hx))
  · refine pg_name S.nd hgi ?_ (.inl (decide_eq_true hx))
    have : (relabel scope X.env).names.lookup x = some .cell := lookup_relabel_own hx
    exact .inr this
theorem comp_core {elt iter : Expr} {tg : Expr} {ifs : List Expr} {scope : Scope} {pos pos' : Pos} {wi : TI} {Ni : List Str} {caps : List (Option Nat)} {g : TG} {tf : TT} {te : TE}
    (hc : X.calm = true) (hi : PI X tg iter wi) (S : CompScope X scope Ni caps) (hG : CompScope X scope Ni caps → ∀ cs s₃ H₃ fp pins, PG (compCx X scope Ni cs s₃ H₃ fp pins) tg g)
    (hF : ∀ cs s₃ H₃ fp pins, PF (compCx X scope Ni cs s₃ H₃ fp pins) ifs tf) (hE : ∀ cs s₃ H₃ fp pins, PE (compCx X scope Ni cs s₃ H₃ fp pins) elt te)
    (hs : ∀ x, foldedSetIterable iter X.env x = pure x)
    {pins : List (Addr × Obj)} {s : Shared} {σ : St} {H : Hp} {Q : VK} (I : Inv X pins σ H s) (h : tComp wi caps g tf te σ H Q) {use : Option (Value → Sem Unit)} {R : Value → Shared → Prop}
    (fin : ∀ (D C : Addr) (H' : Hp) (s' : Shared) (m : Str → Option Value), Inv X pins σ H' s' → Q (.ref D) H' → s'.heap.Ns C m → H' C = none → X.s₀.heap.objs.size ≤ C → C ≠ X.env.locals → (∀ y c, X.env.cells.lookup y = some c → c ≠ C) → (∀ p ∈ X.pn ++ pins, p.1 ≠ C) →
      compPost (model X.prog X.w) X.A X.xe use R (.ref D) C (.ok .next) s') :
    wpAny (model X.prog X.w) X.A (comprehension (.ListComp elt [⟨tg, iter, ifs, 0⟩] scope pos) scope X.env pos' (newList []) false (eval iter X.env) use) R X.xe s := by
  obtain ⟨cl, hcl, hsub, hall⟩ := closureFor_all (env := X.env) (scope := scope) fun y hy hf => I.ok.has y.1 (S.free y hy hf)
  refine wpAny_comprehension_free rfl hs hcl S.kind (fun y hy hl => by obtain ⟨n, k⟩ := y; cases hl; exact nodup_lookup S.ndn hy) (thn (hi pins s σ H _ I h) fun v s1 h1 => thn h1 fun itv s2 h2 => ?_)
  obtain ⟨it, fp, tn, J, H2, e, I2, T, st2, f2, hW⟩ := h2
  subst e
  have I3 : Inv X pins σ (upd H2 s2.heap.objs.size (.lst [])) { s2 with heap := s2.heap.push { cls := .type "list", dict := none, data := .seq ([] : List Value).toArray }, toks := s2.toks } :=
    I2.laid (fun b u e => Heap.get?_push_of_some _ e) (Nat.le_refl _) ⟨Nat.zero_le _, [], _, .nil, Heap.get?_push_size _ rfl⟩
  have hD : H2 s2.heap.objs.size = none := I2.hok.fresh (Nat.le_refl _)
  obtain ⟨W, ⟨m0, w0⟩, turn⟩ := hW s2.heap.objs.size hD
  have st3 : tn 0 (s2.heap.push { cls := .type "list", dict := none, data := .seq ([] : List Value).toArray }) := T.keep _ _ _ st2 fun b _ o e => Heap.get?_push_of_some _ e
  have f3 : ∀ b ∈ fp, FpOk X pins (upd H2 s2.heap.objs.size (.lst [])) b := fun b hb => by
    obtain ⟨o, e, _⟩ := T.obj _ _ st2 b hb
    exact ⟨by rw [upd_ne (Nat.ne_of_lt (Heap.lt_size e))]; exact (f2 b hb).1, (f2 b hb).2⟩
  refine wpAny_newObj_type ?_
  generalize hs3 : ({ s2 with heap := s2.heap.push { cls := .type "list", dict := none, data := .seq ([] : List Value).toArray }, toks := s2.toks } : Shared) = s3 at I3
  have eh : s2.heap.push { cls := .type "list", dict := none, data := .seq ([] : List Value).toArray } = s3.heap := by rw [← hs3]
  rw [eh] at st3
  have hf3 : ∀ b ∈ fp, b < s3.heap.objs.size := fun b hb => by
    obtain ⟨o, e, _⟩ := T.obj _ _ st3 b hb
    exact Heap.lt_size e
  refine wpAny_compEnv fun own s4 eo e4 k4 ns4 oc4 ap4 => ?_
  have T4 : CompAt X scope own cl s3 := ⟨eo, ap4, fun n c hm => (oc4 n c hm).2, hsub, hall⟩
  have I4 := comp_start (Ni := Ni) (caps := caps) S T4 I3 f3 hf3 e4 k4 ns4 fun n c hm => (oc4 n c hm).1
  have st4 : tn 0 s4.heap := T.keep _ _ _ st3 fun b _ o e => k4 b o e
  have fpY : ∀ {H' : Hp}, (∀ b ∈ fp, H' b = none) → ∀ b ∈ fp, FpOk (compCx X scope Ni (own ++ cl) s3 (upd H2 s2.heap.objs.size (.lst [])) fp pins) [] H' b := fun hn b hb =>
    ⟨hn b hb, Nat.ne_of_lt (hf3 b hb), I4.ok.exfs b hb, .inl hb, (I4.ok.exf b hb).2, fun p hp => by
      have hp' : p ∈ X.pn ++ pins := by
        have : p ∈ (X.pn ++ pins) ++ [] := hp
        simpa using this
      exact (f3 b hb).2.2.2.2.2 p hp'⟩
  have loop := comp_loop (Q := Q) (elt := elt) (iter := iter) (scope := scope) (pos := pos) (R := compPost (model X.prog X.w) X.A X.xe use R (.ref s2.heap.objs.size) s3.heap.objs.size) (Y := compCx X scope Ni (own ++ cl) s3 (upd H2 s2.heap.objs.size (.lst [])) fp pins)
    T hc (hG S _ _ _ _ _) (hF _ _ _ _ _) (hE _ _ _ _ _) fpY (fun _ _ z => z) turn (fun σ' H' s' I6 qn => by
      have I6' := comp_end I3 f3 I6
      obtain ⟨m6, ns6, _⟩ := I6.loc
      exact fin _ _ H' s' m6 I6' qn ns6 I6.free I3.sz (Nat.ne_of_gt I3.lt) (fun y c hc' => Nat.ne_of_lt (cells_lt I3 hc')) fun p hp => Nat.ne_of_lt (Heap.lt_size (I3.pin p hp).1)) I4 st4 (fun b hb => (f3 b hb).1) w0
  exact codeAny_compStart_list loop (T.self _ _ _ _ _ st4 loop)
theorem pe_comp {elt iter : Expr} {tg : Expr} {ifs : List Expr} {scope : Scope} {pos : Pos} {wi : TI} {Ni : List Str} {caps : List (Option Nat)} {g : TG} {tf : TT} {te : TE}
    (hc : X.calm = true) (hi : PI X tg iter wi) (S : CompScope X scope Ni caps) (hG : CompScope X scope Ni caps → ∀ cs s₃ H₃ fp pins, PG (compCx X scope Ni cs s₃ H₃ fp pins) tg g)
    (hF : ∀ cs s₃ H₃ fp pins, PF (compCx X scope Ni cs s₃ H₃ fp pins) ifs tf) (hE : ∀ cs s₃ H₃ fp pins, PE (compCx X scope Ni cs s₃ H₃ fp pins) elt te)
    (hs : autoParam (∀ x, foldedSetIterable iter X.env x = pure x) Internal.aut3._auto_1) : PE X (.ListComp elt [⟨tg, iter, ifs, 0⟩] scope pos) (tComp wi caps g tf te) := by
  intro pins s σ H Q I h
  rw [eval_ListComp]
  refine comp_core hc hi S hG hF hE hs I h fun D C H' s' m I' q ns hn hC h1 h2 h3 => ?_
  refine ⟨m, ns, fun h' sb => ?_⟩
  exact ⟨.ref D, H', I'.turned (t' := s'.toks) (it := C) (fun b o hb e => (sb.2 b hb).trans e) hn h1 (.inr hC) h2 h3, rfl, q⟩
theorem ps_setC {i : Nat} {y : Str} {py : Pos} {elt iter : Expr} {tg : Expr} {ifs : List Expr} {scope : Scope} {pos spos : Pos} {wi : TI} {Ni : List Str} {caps : List (Option Nat)} {g : TG} {tf : TT} {te : TE}
    (hN : X.N.Nodup) (hyi : X.N[i]? = some y) (hy : X.env.scope.names.lookup y = some .local) (hc : X.calm = true) (hi : PI X tg iter wi) (S : CompScope X scope Ni caps) (hG : CompScope X scope Ni caps → ∀ cs s₃ H₃ fp pins, PG (compCx X scope Ni cs s₃ H₃ fp pins) tg g)
    (hF : ∀ cs s₃ H₃ fp pins, PF (compCx X scope Ni cs s₃ H₃ fp pins) ifs tf) (hE : ∀ cs s₃ H₃ fp pins, PE (compCx X scope Ni cs s₃ H₃ fp pins) elt te)
    (hsw : autoParam (swapsWith (.ListComp elt [⟨tg, iter, ifs, 0⟩] scope pos) (some (.Name y py)) spos.line X.env = pure true) Internal.aut2._auto_1)
    (hs : autoParam (∀ x, foldedSetIterable iter X.env x = pure x) Internal.aut3._auto_1) : PS X (.Assign [.Name y py] (.ListComp elt [⟨tg, iter, ifs, 0⟩] scope pos) spos) (tAsg (tComp wi caps g tf te) (gName i)) := by
  intro pins s σ H D I h
  rw [exec_Assign_Name_used _ _ _ _ hsw]
  refine wpAny_bind (wpAny_standAt (wpAny_bind ?_))
  show wpAny _ X.A (do let _ ← comprehension (.ListComp elt [⟨tg, iter, ifs, 0⟩] scope pos) scope X.env _ (newList []) false (eval iter X.env) (some (assign (.Name y py) X.env))) _ _ s
  refine wpAny_bind (wpAny_mono (comp_core (R := fun _ s' => SP X pins D .next s') hc hi S hG hF hE hs I h fun L C H' s' m I' q ns hn hC h1 h2 h3 => ?_) (fun _ s' hq => wpAny_pure (wpAny_pure hq)) fun _ _ e => e)
  show wpAny _ X.A (assign (.Name y py) X.env (.ref L)) _ _ _
  refine wpAny_assign_Name (store_ok2 (v := .ref L) I' hN hyi (.inl hy) rfl (fun s2 I2 sb2 => ?_) (.inr hy))
  obtain ⟨a, sb, ha⟩ := sb2
  have hCa : C ≠ a := by
    rcases ha with z | z
    · rw [z]; exact h1
    · exact fun w' => h2 y a z w'.symm
  refine ⟨m, ns.sameBut sb hCa, fun h' sb' => ?_⟩
  exact ⟨_, H', I2.turned (t' := s2.toks) (it := C) (fun b o hb e => (sb'.2 b hb).trans e) hn h1 (.inr hC) h2 h3, q⟩
end
end Internal

namespace My
end My

set_option Elab.async false
set_option linter.all false
set_option maxRecDepth 100000
namespace Internal
open PySem PySem.Spec PyProof.Rows
theorem x_iteB {b : Bool} {A B : Prop} (h1 : b = true → A) (h2 : b = false → B) : if b = true then A else B := by
  cases b with
  | true => rw [if_pos rfl]; exact h1 rfl
  | false => rw [if_neg Bool.false_ne_true]; exact h2 rfl
section
variable {K : PySem.W.Frag} {H : Hp} {Q : VK}
theorem x_isII {i : Int} (q : Q (.bl true) H) : rIsi K [.int i, .ty "int"] H Q := x_isi (t' := .type "int") (cv := .type "int") (b := true) rfl (.int i) (by with_unfolding_all rfl) q
theorem x_isIB {i : Int} (q : Q (.bl false) H) : rIsi K [.int i, .ty "bool"] H Q := x_isi (t' := .type "int") (cv := .type "bool") (b := false) rfl (.int i) (by with_unfolding_all rfl) q
theorem x_isLL {a : Addr} {xs : List V} (h : H a = some (.lst xs)) (q : Q (.bl true) H) : rIsi K [.ref a, .ty "list"] H Q := x_isi (t' := .type "list") (cv := .type "list") (b := true) rfl (.lst h) (by with_unfolding_all rfl) q
end
noncomputable def cell (ns : List Int) (k : Int) : Int := ns.getD k.toNat 0
noncomputable def spCell (K : PySem.W.Frag) : Sp := fun vs H Q _ => ∃ (a : Addr) (ns : List Int) (k : Int), vs = [.ref a, .int k] ∧ SqL K H a (ns.map V.int) ∧ 0 ≤ k ∧ Q (.int (cell ns k)) H
theorem cell_in {ns : List Int} {k : Int} (h0 : 0 ≤ k) (h : k < ((ns.map V.int).length : Int)) : atI (ns.map V.int) k = some (.int (cell ns k)) := by
  rw [List.length_map] at h
  have hk : k.toNat < ns.length := by omega
  have ek : k = ((k.toNat : Nat) : Int) := by omega
  have q : atI (ns.map V.int) ((k.toNat : Nat) : Int) = some (.int ns[k.toNat]) := atI_nat (by rw [List.getElem?_map, List.getElem?_eq_getElem hk]; rfl)
  rw [← ek] at q
  rw [q]; unfold cell; rw [List.getD_eq_getElem?_getD, List.getElem?_eq_getElem hk]; rfl
theorem cell_out {ns : List Int} {k : Int} (h : ¬ k < ((ns.map V.int).length : Int)) : cell ns k = 0 := by
  rw [List.length_map] at h
  unfold cell; rw [List.getD_eq_getElem?_getD, List.getElem?_eq_none (by omega)]; rfl
theorem spCell_i {K : PySem.W.Frag} {a : Addr} {ns : List Int} {k : Int} {H : Hp} {Q : VK} {E : XK} (hS : SqL K H a (ns.map V.int)) (h0 : 0 ≤ k) (q : Q (.int (cell ns k)) H) : spCell K [.ref a, .int k] H Q E := ⟨a, ns, k, rfl, hS, h0, q⟩
noncomputable def spWhole : Sp := fun vs H Q _ => ∃ i : Int, vs = [.int i] ∧ Q (.bl true) H
theorem spWhole_i {a : Int} {H : Hp} {Q : VK} {E : XK} (q : Q (.bl true) H) : spWhole [.int a] H Q E := ⟨a, rfl, q⟩
noncomputable def IsQ (H : Hp) (a : Addr) (q : Rat) : Prop := H a = some (.tup [.int q.num, .int (q.den : Int)])
noncomputable def NewQ (H : Hp) (Q : VK) (q : Rat) : Prop := ∀ p H', Same H H' → IsQ H' p q → Q (.ref p) H'
theorem szL {i : Int} {n : Nat} (hn : 200 ≤ n) (h1 : -1606938044258990275541962092341162602522202993782792835301376 < i) (h2 : i < 1606938044258990275541962092341162602522202993782792835301376) : sz i ≤ n := Nat.le_trans (sz200 h1 h2) hn
end Internal

set_option Elab.async false
set_option linter.all false
set_option maxRecDepth 100000
namespace Internal
open PySem PySem.Spec PyProof.Rows
section
variable {σ : St} {H : Hp} {Q : VK} {D : Ends} {ta tb tc te to : TE} {t u : TS} {K : PySem.W.Frag}
noncomputable def ForK (J : It) (g : TG) (tb : TS) : TS := fun D σ H => ∃ W : Nat → Nat → St → Hp → Prop, (∃ m, W 0 m σ H) ∧ ∀ i m σ H, W i m σ H →
  (J.stop i H ∧ D.nx σ H) ∨ (J.go i H ∧ ∃ N : St → Hp → Prop, (∀ σ' H', N σ' H' → ∃ m', m' < m ∧ W (i + 1) m' σ' H') ∧ ∀ x H', J.yld i H x H' → g x σ H' fun σ2 H2 => tb { D with nx := N, ct := N, bk := D.nx } σ2 H2)
theorem x_for {wi : TI} {g : TG} {tb : TS} (q : wi σ H fun J H1 => ForK J g tb D σ H1) : tFor wi g tb D σ H := q
noncomputable def rRng1 (R : It → Hp → Prop) (vs : List V) (H : Hp) : Prop := ∃ j : Int, vs = [.int j] ∧ -(2 ^ 62) ≤ j ∧ j < 2 ^ 62 ∧ R (Itr 0 j.toNat) H
noncomputable def rItL (K : PySem.W.Frag) (R : It → Hp → Prop) (x : V) (H : Hp) : Prop := ∃ a, x = .ref a ∧ (∃ xs, SqL K H a xs) ∧ R (Itl K a) H
theorem x_rng1 {tr : TA} {R : It → Hp → Prop} (q : tr σ H (rRng1 R)) : iRng1 tr σ H R := q
theorem x_itL {R : It → Hp → Prop} (q : te σ H (rItL K R)) : iList K te σ H R := q
theorem x_rngk1 {R : It → Hp → Prop} {j : Int} (h1 : -4611686018427387904 ≤ j) (h2 : j < 4611686018427387904) (q : R (Itr 0 j.toNat) H) : rRng1 R [.int j] H := ⟨j, rfl, h1, h2, q⟩
theorem x_itk {R : It → Hp → Prop} {a : Addr} {xs : List V} (h : SqL K H a xs) (q : R (Itl K a) H) : rItL K R (.ref a) H := ⟨a, rfl, ⟨xs, h⟩, q⟩
theorem x_forR {lo : Int} {n : Nat} {g : TG} {tb : TS} (Pv : Nat → St → Hp → Prop) (h0 : Pv 0 σ H)
    (hs : ∀ i σ H, i < n → Pv i σ H → g (.int (lo + i)) σ H fun σ2 H2 => tb { D with nx := Pv (i + 1), ct := Pv (i + 1), bk := D.nx } σ2 H2) (hd : ∀ σ H, Pv n σ H → D.nx σ H) : ForK (Itr lo n) g tb D σ H := for_range Pv h0 hs hd
theorem x_forL {a : Addr} {xs : List V} {g : TG} {tb : TS} (Pv : Nat → St → Hp → Prop) (h0 : Pv 0 σ H) (hl : ∀ i σ H, i ≤ xs.length → Pv i σ H → SqL K H a xs)
    (hs : ∀ i x σ H, xs[i]? = some x → Pv i σ H → g x σ H fun σ2 H2 => tb { D with nx := Pv (i + 1), ct := Pv (i + 1), bk := D.nx } σ2 H2) (hd : ∀ σ H, Pv xs.length σ H → D.nx σ H) : ForK (Itl K a) g tb D σ H := for_list Pv h0 hl hs hd
theorem x_bm {T : String} {r : V → List V → Hp → VK → Prop} {tr : TA} (q : to σ H fun x H1 => tyV K T x H1 ∧ tr σ H1 fun xs H2 => r x xs H2 Q) : tBM K T r to tr σ H Q := q
theorem x_tyL {l : Addr} {xs : List V} {A : Prop} (h : H l = some (.lst xs)) (q : A) : tyV K "list" (.ref l) H ∧ A := ⟨.inl ⟨rfl, xs, SqL.of h⟩, q⟩
theorem x_append {l : Addr} {xs : List V} {y : V} (h : H l = some (.lst xs)) (hl : xs.length < sizeLine) (q : Q .non (upd H l (.lst (xs ++ [y])))) : rAppend (.ref l) [y] H Q := ⟨l, xs, y, rfl, rfl, h, hl, q⟩
theorem x_setL {l : Addr} {xs : List V} {k : Int} {j : Nat} {v : V} {R : Hp → Prop} (h : H l = some (.lst xs)) (e : ixN xs.length k = some j) (q : R (upd H l (.lst (xs.set j v)))) : rSetL (.ref l) (.int k) v H R := ⟨l, xs, k, j, rfl, rfl, h, e, q⟩
theorem x_listOf {a : Addr} {xs : List V} (h : SqL K H a xs) (q : ∀ l, H l = none → Q (.ref l) (upd H l (.lst xs))) : rListOf K [.ref a] H Q := ⟨a, xs, rfl, .inl h, q⟩
theorem x_ixLs {a : Addr} {xs : List V} {i : Int} {v : V} (h : H a = some (.lst xs)) (e : atI xs i = some v) (q : Q v H) : rIx K (.ref a) (.int i) H Q := x_ixL (.of h) e q
noncomputable def rPart (R : Option Int → Hp → Prop) (x : V) (H : Hp) : Prop := ∃ i, x = .int i ∧ R (some i) H
theorem x_part {R : Option Int → Hp → Prop} (q : te σ H (rPart R)) : tPart te σ H R := q
theorem x_partI {R : Option Int → Hp → Prop} {i : Int} (q : R (some i) H) : rPart R (.int i) H := ⟨i, rfl, q⟩
theorem x_cut {a : Addr} {xs : List V} {lo hi : Option Int} (h : SqL K H a xs) (q : ∀ p, H p = none → Q (.ref p) (upd H p (.lst (cutV xs lo hi)))) : rSlL K (.ref a) lo hi H Q := ⟨a, xs, rfl, h, q⟩
end
theorem Same.fresh {H H' : Hp} {l : Addr} (g : Same H H') (h : H' l = none) : H l = none := by
  cases e : H l with
  | none => rfl
  | some o => rw [g l o e] at h; cases h
theorem small_of {n : Nat} (h : n ≤ 100000) : n < sizeLine := Nat.lt_of_le_of_lt h (by decide)
theorem small_le {n : Nat} (h : n ≤ 100000) : n ≤ sizeLine := Nat.le_of_lt (small_of h)
noncomputable def But (l : Addr) (H H' : Hp) : Prop := ∀ b, b ≠ l → H' b = H b
theorem But.upd {H : Hp} {l : Addr} {o : HO} : But l H (Internal.upd H l o) := fun _ h => upd_ne h
theorem But.at {l : Addr} {H H' : Hp} (g : But l H H') {a : Addr} {o : HO} (h : H a = some o) (n : a ≠ l) : H' a = some o := by rw [g a n]; exact h
theorem But.same {l : Addr} {H0 H H' : Hp} (g : But l H H') (e : Same H0 H) (h : H0 l = none) : Same H0 H' := fun b o q => by rw [g b (ne_of_none q h)]; exact e b o q
noncomputable def LBut (l : Addr) (H H' : Hp) : Prop := But l H H' ∧ ∃ xs, H l = some (.lst xs)
theorem LBut.tup {l : Addr} {H H' : Hp} (g : LBut l H H') {a : Addr} {xs : List V} (h : H a = some (.tup xs)) : H' a = some (.tup xs) := by
  obtain ⟨ys, e⟩ := g.2
  exact g.1.at h (ne_of h e (by intro z; cases z))
theorem LBut.lst {l : Addr} {H H' : Hp} (g : LBut l H H') {a : Addr} {o : HO} (h : H a = some o) (n : a ≠ l) : H' a = some o := g.1.at h n
theorem LBut.same {l : Addr} {H0 H H' : Hp} (g : LBut l H H') (e : Same H0 H) (h : H0 l = none) : Same H0 H' := g.1.same e h
theorem Same.at {H H' : Hp} (e : Same H H') {a : Addr} {o : HO} (h : H a = some o) : H' a = some o := e a o h
theorem SqL.keep {K : PySem.W.Frag} {H H' : Hp} {a : Addr} {xs : List V} (h : SqL K H a xs) (e : Same H H') : SqL K H' a xs := e.seq h
theorem Same.after {H H1 H2 : Hp} (b : Same H1 H2) (a : Same H H1) : Same H H2 := a.trans b
theorem Same.none {H H' : Hp} {l : Addr} (h : H' l = none) (g : Same H H') : H l = none := g.fresh h
theorem ne_new {H : Hp} {a b : Addr} {o : HO} (h' : H b = none) (h : H a = some o) : a ≠ b := ne_of_none h h'
theorem ne_new' {H : Hp} {a b : Addr} {o : HO} (h' : H b = none) (h : H a = some o) : b ≠ a := (ne_of_none h h').symm
section
variable {σ : St} {H : Hp} {Q : VK} {D : Ends} {t u : TS} {K : PySem.W.Frag}
theorem x_tupN {xs : List V} (hl : xs.length ≤ 100000) (q : ∀ p H', H p = none → Same H H' → H' p = some (.tup xs) → Q (.ref p) H') : rTup Q xs H := ⟨small_le hl, fun p hp => q p _ hp (Same.new hp _) upd_same⟩
theorem x_lstN {xs : List V} (hl : xs.length ≤ 100000) (q : ∀ p H', H p = none → Same H H' → H' p = some (.lst xs) → Q (.ref p) H') : rLst Q xs H := ⟨small_le hl, fun p hp => q p _ hp (Same.new hp _) upd_same⟩
theorem x_appN {l : Addr} {xs : List V} {y : V} (h : H l = some (.lst xs)) (hl : xs.length ≤ 100000) (q : ∀ H', LBut l H H' → H' l = some (.lst (xs ++ [y])) → Q .non H') : rAppend (.ref l) [y] H Q :=
  x_append h (small_of hl) (q _ ⟨But.upd, xs, h⟩ upd_same)
theorem x_setN {l : Addr} {xs : List V} {k : Int} {j : Nat} {v : V} {R : Hp → Prop} (h : H l = some (.lst xs)) (e : ixN xs.length k = some j) (q : ∀ H', LBut l H H' → H' l = some (.lst (xs.set j v)) → R H') : rSetL (.ref l) (.int k) v H R :=
  x_setL h e (q _ ⟨But.upd, xs, h⟩ upd_same)
theorem x_listOfN {a : Addr} {xs : List V} (h : SqL K H a xs) (q : ∀ p H', H p = none → Same H H' → H' p = some (.lst xs) → Q (.ref p) H') : rListOf K [.ref a] H Q := x_listOf h fun p hp => q p _ hp (Same.new hp _) upd_same
theorem x_cutN {a : Addr} {xs : List V} {lo hi : Option Int} (h : SqL K H a xs) (q : ∀ p H', H p = none → Same H H' → H' p = some (.lst (cutV xs lo hi)) → Q (.ref p) H') : rSlL K (.ref a) lo hi H Q := x_cut h fun p hp => q p _ hp (Same.new hp _) upd_same
theorem x_midS (i : Nat) (P : V → Hp → Prop) (q : t { D with nx := fun σ' H' => ∃ v, σ' = σ.set i (some v) ∧ P v H' } σ H) (r : ∀ v H', P v H' → u D (σ.set i (some v)) H') : tMid t u D σ H :=
  ⟨_, q, fun σ' H' ⟨v, e, p⟩ => by subst e; exact r v H' p⟩
end
theorem ixN_lt {n : Nat} {k : Int} (h0 : 0 ≤ k) (h : k < n) : ixN n k = some k.toNat := by unfold ixN; rw [if_pos h0, if_pos h]
theorem atI_lt {α : Type} {xs : List α} {k : Int} {v : α} (h0 : 0 ≤ k) (h : xs[k.toNat]? = some v) : atI xs k = some v := by
  have e : k = (k.toNat : Int) := by omega
  rw [e]; exact atI_nat h
end Internal

set_option Elab.async false
set_option linter.all false
set_option maxRecDepth 100000
namespace Internal
open PySem PySem.Spec PyProof.Rows
section
variable {X : Cx} {pins : List (Addr × Obj)} {σ : St} {H : Hp} {s : Shared} {h' : Heap}
theorem Inv.turnedL {t' : Nat} {fp : List Addr} (I : Inv X pins σ H s) (k : ∀ b o, b ∉ fp → s.heap.get? b = some o → h'.get? b = some o) (f : ∀ b ∈ fp, FpOk X pins H b) : Inv X pins σ H { s with heap := h', toks := t' } := by
  have nit : ∀ b u, H b = some u → b ∉ fp := fun b u e z => by rw [(f b z).1] at e; cases e
  refine I.step (g' := s.gens) (d' := s.drawn) (ch := fp) (fun b hb => ⟨(f b hb).2.2.2.1, (f b hb).2.1, (f b hb).2.2.2.2.1, (f b hb).2.2.2.2.2⟩) (fun b o _ _ hc e _ => k b o hc e) (fun b o _ _ hc e _ => ⟨o.slots, k b o hc e⟩) (fun _ _ _ _ n => n)
    (fun b o hc e => ⟨o, k b o hc e⟩) (fun _ _ e => e) (fun _ _ _ e => e) (fun b ps e => ⟨#[], by rw [e]; simp⟩) (fun m hm => ?_) (fun b u e => ?_) I.bare
  · obtain ⟨o, es, ep, ho, r⟩ := hm
    exact ⟨o, es, ep, k _ o (fun z => (f _ z).2.1 rfl) ho, r⟩
  · refine (I.hok b u e).stay (fun c v hc q => k c v ?_ q) (fun _ q => q) fun _ _ q => q
    rcases hc with z | z
    · rw [z]; exact nit b u e
    · exact nit c _ z
theorem Inv.turnedNew {t' : Nat} {fp : List Addr} {p : Addr} {o : HO} (I : Inv X pins σ H s) (k : ∀ b o, b ∉ fp → s.heap.get? b = some o → h'.get? b = some o) (f : ∀ b ∈ fp, FpOk X pins H b) (hp : s.heap.objs.size ≤ p) (new : ObjOk X.prog X.w (upd H p o) h' p o) :
    Inv X pins σ (upd H p o) { s with heap := h', toks := t' } := by
  have nit : ∀ b u, H b = some u → b ∉ fp := fun b u e z => by rw [(f b z).1] at e; cases e
  have hn : H p = none := I.hok.fresh hp
  refine I.step (g' := s.gens) (d' := s.drawn) (ch := fp) (fun b hb => ⟨(f b hb).2.2.2.1, (f b hb).2.1, (f b hb).2.2.2.2.1, (f b hb).2.2.2.2.2⟩) (fun b o _ _ hc e _ => k b o hc e) (fun b o _ _ hc e _ => ⟨o.slots, k b o hc e⟩) (fun b u _ e n => ?_)
    (fun b o hc e => ⟨o, k b o hc e⟩) (fun b xs e => by rw [upd_ne (ne_of_none e hn)]; exact e) (fun b u v e => by rw [upd_ne (ne_of_none e hn)]; exact e) (fun b ps e => ⟨#[], by rw [upd_ne (ne_of_none e hn), e]; simp⟩) (fun m hm => ?_) (fun b u e => ?_) I.bare
  · rw [upd_ne (Nat.ne_of_lt (Nat.lt_of_lt_of_le (Heap.lt_size e) hp))]; exact n
  · obtain ⟨o, es, ep, ho, r⟩ := hm
    exact ⟨o, es, ep, k _ o (fun z => (f _ z).2.1 rfl) ho, r⟩
  · by_cases hb : b = p
    · subst hb; rw [upd_same] at e; cases e; exact new
    · rw [upd_ne hb] at e
      refine (I.hok b u e).stay (fun c v hc q => k c v ?_ q) (fun c q => by rw [upd_ne (ne_of_none q hn)]; exact q) fun c xs q => by rw [upd_ne (ne_of_none q hn)]; exact q
      rcases hc with z | z
      · rw [z]; exact nit b u e
      · exact nit c _ z
end
theorem tup2 {P : Program} {w : World} {H : Hp} {h : Heap} {p : Addr} {x y : V} {u v : Value} (e : h.get? p = some { cls := .type "tuple", data := .seq #[u, v] }) (r1 : RelV x u) (r2 : RelV y v) : ObjOk P w H h p (.tup [x, y]) :=
  ⟨small_le (by simp), [u, v], .cons r1 (.cons r2 .nil), _, e, rfl, _, rfl⟩
noncomputable def Itn (K : PySem.W.Frag) (a : Addr) : It :=
  ⟨fun i H => ∃ xs x, SqL K H a xs ∧ xs[i]? = some x, fun i H v H' => ∃ p x, H p = none ∧ v = .ref p ∧ (∀ xs, SqL K H a xs → xs[i]? = some x) ∧ H' = upd H p (.tup [.int i, x]), fun i H => ∃ xs, SqL K H a xs ∧ xs.length ≤ i⟩
theorem turn_enum {P : Program} {w : World} {K : PySem.W.Frag} {es : List Expr} {kx : Nat} {tp : Pos} (a e it : Addr) (hne : e ≠ it) : Turn P w K (.Tuple es kx tp) (Itn K a) [e, it] e (fun i h => (∃ old, IsEnum h e it i old) ∧ h.IsListIter it a i) where
  mem := by simp
  obj := fun i h st b hb => by
    obtain ⟨⟨old, h1⟩, o, h2, c, d⟩ := st
    rcases List.mem_cons.mp hb with z | z
    · subst z; exact ⟨_, h1, fun v z => by cases z⟩
    · have e : b = it := by simpa using z
      subst e
      exact ⟨o, h2, fun v z => by rw [d] at z; cases z⟩
  keep := fun i h h' st k => by
    obtain ⟨⟨old, h1⟩, h2⟩ := st
    exact ⟨⟨old, k e (by simp) _ h1⟩, h2.at fun o q => k it (by simp) o q⟩
  item := by
    intro X hP hw hK hc i pins s σ H E I hf st hg
    subst hP hw hK
    obtain ⟨⟨old, he⟩, hit⟩ := st
    obtain ⟨xs, x, hq, hx⟩ := hg
    obtain ⟨its, rv, p, hz⟩ := I.list hq
    obtain ⟨u, hu, ru⟩ := rv.get hx
    refine wpAny_pyNext_enum_item he hit p.isList (x := u) (by simpa using hu) hne fun h1 eo it1 tp1 sz1 k1 => ?_
    refine ⟨_, rfl, wpAny_letOwnedTupleGo_enum eo fun h2 e2 sb2 => ?_⟩
    have hes : e ≠ s.heap.objs.size := Nat.ne_of_lt (Heap.lt_size he)
    have sb2' : Heap.SameBut e h1 h2 := sb2
    have t2 : h2.get? s.heap.objs.size = some { cls := .type "tuple", data := .seq #[.int i s.toks, u] } := (sb2'.2 _ (Ne.symm hes)).trans tp1
    have k2 : ∀ b o, b ∉ [e, it] → s.heap.get? b = some o → h2.get? b = some o := fun b o hb q => by
      have n1 : b ≠ e := fun z => hb (by simp [z])
      have n2 : b ≠ it := fun z => hb (by simp [z])
      exact (sb2'.2 b n1).trans (k1 b o n1 n2 q)
    have I2 : Inv X pins σ (upd H s.heap.objs.size (.tup [.int i, x])) { s with heap := h2, toks := s.toks + 1 } := I.turnedNew k2 hf (Nat.le_refl _) (tup2 t2 ⟨_, rfl⟩ ru)
    have hn : H s.heap.objs.size = none := I.hok.fresh (Nat.le_refl _)
    refine ⟨.ref s.heap.objs.size, _, I2, rfl, ⟨_, x, hn, rfl, fun ys hy => by rw [I.list_inj hy hq]; exact hx, rfl⟩, ⟨⟨_, e2⟩, it1.at fun o q => (sb2'.2 it (Ne.symm hne)).trans q⟩, fun b hb => ?_⟩
    have hbs : b ≠ s.heap.objs.size := by
      rcases List.mem_cons.mp hb with z | z
      · rw [z]; exact hes
      · have e : b = it := by simpa using z
        subst e
        obtain ⟨o, q, _⟩ := hit
        exact Nat.ne_of_lt (Heap.lt_size q)
    rw [upd_ne hbs]
    exact (hf b hb).1
  done := by
    intro X hP hw hK hc i pins s σ H E I hf st hg
    subst hP hw hK
    obtain ⟨⟨old, he⟩, hit⟩ := st
    obtain ⟨xs, hq, hx⟩ := hg
    obtain ⟨its, rv, p, hz⟩ := I.list hq
    have hl := rv.length
    refine wpAny_pyNext_enum_end (I.ok.hd hc) he hit p.isList (by simp; omega) fun h1 eb => ⟨rfl, I.turnedL (t' := s.toks) (fp := [e, it]) (fun b o hb q => eb b o (fun z => hb (by simp [z])) q) hf⟩
  self := fun _ _ _ _ _ st h => by
    obtain ⟨⟨old, he⟩, _⟩ := st
    exact wpAny_pyIter_enum he h
noncomputable def Itz (K : PySem.W.Frag) (a b : Addr) : It :=
  ⟨fun i H => ∃ xs ys x y, SqL K H a xs ∧ SqL K H b ys ∧ xs[i]? = some x ∧ ys[i]? = some y, fun i H v H' => ∃ p x y, H p = none ∧ v = .ref p ∧ (∀ xs, SqL K H a xs → xs[i]? = some x) ∧ (∀ ys, SqL K H b ys → ys[i]? = some y) ∧ H' = upd H p (.tup [x, y]),
    fun i H => ∃ xs ys, SqL K H a xs ∧ SqL K H b ys ∧ (xs.length ≤ i ∨ ys.length ≤ i)⟩
section
variable {X : Cx} {es : List Expr} {kx : Nat} {tp : Pos}
noncomputable def rEnum (K : PySem.W.Frag) (R : It → Hp → Prop) (vs : List V) (H : Hp) : Prop := ∃ a, vs = [.ref a] ∧ (∃ xs, SqL K H a xs) ∧ R (Itn K a) H
noncomputable def rZip (K : PySem.W.Frag) (R : It → Hp → Prop) (vs : List V) (H : Hp) : Prop := ∃ a b, vs = [.ref a, .ref b] ∧ (∃ xs, SqL K H a xs) ∧ (∃ ys, SqL K H b ys) ∧ R (Itz K a b) H
noncomputable abbrev iEnum (K : PySem.W.Frag) (ta : TA) : TI := fun σ H R => ta σ H (rEnum K R)
noncomputable abbrev iZip (K : PySem.W.Frag) (ta : TA) : TI := fun σ H R => ta σ H (rZip K R)
theorem pi_enum {a : Expr} {ta : TA} {p pos : Pos} (hg : Gl X "enumerate") (hm : X.mg "enumerate" = none) (ha : PA X [a] ta) (hs : autoParam (starEach [a] X.env = [(false, eval a X.env)]) Internal.aut2._auto_1) : PI X (.Tuple es kx tp) (.Call (.Name "enumerate" p) [a] [] pos) (iEnum X.K ta) := by
  intro pins s σ H R I h
  refine Call_ (ld_blt I hg hm boot_enumerate (PyProof.Rows.callWith_type1 (thn (ha pos pins s σ H _ I h) fun us s1 ⟨vs, H1, I1, r1, q1⟩ => ?_) hs rfl))
  obtain ⟨l, e, ⟨xs, hq⟩, q⟩ := q1
  subst e
  obtain ⟨u, rfl, r⟩ := vals1 r1
  cases r
  obtain ⟨its, rv, pl, hz⟩ := I1.list hq
  refine call_enumerate_list pl.isList fun h1 e1 i1 sz1 k1 => ?_
  refine wpAny_pyIter_enum e1 ?_
  have I2 : Inv X pins σ H1 { s1 with heap := h1, toks := s1.toks } := I1.kept k1
  refine ⟨s1.heap.objs.size + 1, [s1.heap.objs.size + 1, s1.heap.objs.size], _, _, H1, rfl, I2, turn_enum l _ _ (Nat.succ_ne_self _), ⟨⟨_, e1⟩, i1⟩, fun b hb => ?_, q⟩
  have hb' : s1.heap.objs.size ≤ b := by
    simp only [List.mem_cons, List.not_mem_nil, or_false] at hb
    rcases hb with rfl | rfl <;> omega
  exact I1.fpOk hb' (I1.hok.fresh hb')
end
section
variable {X : Cx}
theorem Inv.walk {pins : List (Addr × Obj)} {σ : St} {H : Hp} {s : Shared} {a : Addr} {xs : List V} (I : Inv X pins σ H s) (hq : SqL X.K H a xs) : ∃ its : List Value, Vals xs its ∧ s.heap.IsList a its.toArray ∧ its.length = xs.length ∧ a < s.heap.objs.size := by
  obtain ⟨its, rv, pl, hz⟩ := I.list hq
  obtain ⟨o, e, _⟩ := id pl.isList
  exact ⟨its, rv, pl.isList, rv.length.symm, Heap.lt_size e⟩
noncomputable def sumI (ns : List Int) : Int := ns.foldl (· + ·) 0
theorem sumI_snoc (ns : List Int) (n : Int) : sumI (ns ++ [n]) = sumI ns + n := by unfold sumI; rw [List.foldl_append]; rfl
theorem preSum_sumI (ns : List Int) : ∀ j, j ≤ ns.length → preSum (fun i => ns.getD i 0) j = sumI (ns.take j)
  | 0, _ => rfl
  | j + 1, h => by
    have hj : j < ns.length := by omega
    rw [preSum, preSum_sumI ns j (by omega), List.take_succ_eq_append_getElem hj, sumI_snoc]
    simp [List.getD, hj]
noncomputable def rSum (K : PySem.W.Frag) : List V → Hp → VK → Prop := fun xs H Q => ∃ a ns, xs = [.ref a] ∧ SqL K H a (List.map V.int ns) ∧ Q (.int (sumI ns)) H
theorem int_at {ns : List Int} {its : List Value} {i : Nat} {v : Value} (rv : Vals (ns.map V.int) its) (h : its.toArray[i]? = some v) : ∃ t, v = .int (ns.getD i 0) t := by
  have hl := rv.length
  rw [List.length_map] at hl
  have hi : i < ns.length := by
    have := (Array.getElem?_eq_some_iff.mp h).1
    simp at this; omega
  obtain ⟨u, hu, r⟩ := rv.get (show (ns.map V.int)[i]? = some (.int (ns.getD i 0)) by simp [List.getD, hi])
  have : v = u := by
    have h' : its[i]? = some v := by simpa using h
    rw [hu] at h'; exact (Option.some.inj h').symm
  obtain ⟨t, rfl⟩ := r
  exact ⟨t, this⟩
theorem call_sumU (hc : X.calm = true) : CallR X (.builtin "sum") (rSum X.K) := by
  intro pins s σ H xs us Q I r h
  obtain ⟨a, ns, rfl, hq, q⟩ := h
  obtain ⟨u, rfl, r1⟩ := vals1 r
  cases r1
  obtain ⟨its, rv, pl, hl, hlt⟩ := I.walk hq
  refine call_sum_walkAnyS (wpAny_pyIter_list pl ?_)
  have hne : a ≠ s.heap.objs.size := Nat.ne_of_lt hlt
  refine ⟨_, _, _, _, _, _, _, fun i => ns.getD i 0, rfl, (Walks.list (prog := X.prog) (w := X.w) (A := X.A.in1) (I.ok.hd hc) s.heap.objs.size a hne its.toArray).toS, ⟨⟨_, Heap.get?_push_size _ rfl, rfl, rfl⟩, pl.at fun o e => Heap.get?_push_of_some _ e⟩, fun b hb => ?_, fun i v hv => int_at rv hv, fun s' t' hm => ?_⟩
  · rw [Heap.size_push]
    simp only [List.mem_cons, List.not_mem_nil, or_false] at hb
    rcases hb with rfl | rfl
    · exact Nat.lt_succ_self _
    · exact Nat.lt_succ_of_lt hlt
  · have hn : (its.toArray).size = ns.length := by rw [List.length_map] at hl; simpa using hl
    rw [hn, preSum_sumI ns _ (Nat.le_refl _), List.take_length]
    have hg : s'.gens = s.gens := by have := hm.gens; first | exact this | exact this.symm
    have hd := hm.drawn
    have ho := hm.os
    have I1 : Inv X pins σ H { s with heap := s'.heap, toks := s'.toks } := I.kept fun b o e => hm.heap b o (fun z => by
      simp only [List.mem_cons, List.not_mem_nil, or_false] at z
      subst z
      exact absurd (Heap.lt_size e) (Nat.lt_irrefl _)) (Heap.get?_push_of_some _ e)
    have e : ({ s with heap := s'.heap, toks := s'.toks } : Shared) = s' := by
      cases s'; cases s
      simp only at hg hd ho
      subst hg hd ho; rfl
    rw [e] at I1
    exact ⟨.int (sumI ns), H, I1, ⟨t', rfl⟩, q⟩
end
end Internal

set_option Elab.async false
set_option linter.all false
set_option maxRecDepth 100000
namespace Internal
open PySem PySem.Spec PyProof.Rows

noncomputable def Bare (er : Addr) (s : Shared) : Prop := ∃ o, s.heap.objs[er]? = some o ∧ o.dict = none
set_option genInjectivity false in
set_option genSizeOf false in
structure Fly (P : Program) (w : World) (outer : List Env) (H : Hp) (s : Shared) (H' : Hp) (er C t : Addr) (B : Heap) (s' : Shared) : Prop where
  os : s'.os = s.os
  bare : AllBare s'.gens
  un : Un (frs outer) [] H H' s.heap s'.heap
  hok : HOk P w H' s'.heap
  fly : Heap.FlyingW B outer er (.ref C) (.ref t) s'.heap
  old : ∀ b o, s.heap.get? b = some o → H b = none → b ∉ frs outer → B.get? b = some o
  has : ∀ b o, s.heap.get? b = some o → b ∉ frs outer → ∃ u, B.get? b = some u
  trk : ∀ b o u, H' b = some o → s'.heap.get? b = some u → B.get? b = some u
  nod : Bare er s'
noncomputable def CXF (P : Program) (w : World) : CXT := fun outer H s E e s' => ∃ er C t B H', e = .ref er ∧ Fly P w outer H s H' er C t B s' ∧ E (.ref C) none H'
theorem nox_F {P : Program} {w : World} : NoX (CXF P w) := fun _ _ _ _ _ ⟨_, _, _, _, _, _, _, h⟩ => h

section
variable {P : Program} {w : World} {outer : List Env} {H H' : Hp} {s s' : Shared} {er C t : Addr} {B h : Heap}
noncomputable def IsExc (er C : Addr) (h : Heap) : Prop := ∃ oe : Obj, PySem.W.InstAt h er oe C none
noncomputable def ExcAt (er C : Addr) : HO := .ext (IsExc er C)
end

noncomputable def bmV : List Value := [.type "ValueError", .type "Exception", .type "BaseException", .type "object"]
theorem exc_class {prog : Program} {w : World} {A : Around} {E : Value → Shared → Prop} {s : Shared} {K : PySem.W.Frag} {er C : Addr} {oe : Obj} {Q : Option Value → Shared → Prop}
    (ga : PySem.W.findIn K (.ref C) "__getattribute__" = some (some (.builtin "BaseException.__getattribute__"))) (gn : PySem.W.findIn K (.ref C) "__getattr__" = some none)
    (hf : PySem.W.findObj K C none "__class__" = some (.bind (.builtin "getset_descriptor.__get__") (.builtin "object.__class__"))) (mo : PySem.W.mroIn K C (.type "object") = some true) (be : PySem.W.mroIn K C (.type "BaseException") = some true)
    (X : K.In s.heap) (i : PySem.W.InstAt s.heap er oe C none) (q : Q (some (.ref C)) { s with toks := s.toks + 1 }) : wpAny (model prog w) A (getAttr? (.ref er) "__class__") Q E s := by
  obtain ⟨hh, g, d, t, os⟩ := s
  have L0 := i.type (M := model prog w)
  have L1 := PySem.W.looks_findIn (M := model prog w) X ga
  have Internal' := PySem.W.looks_findIn (M := model prog w) X gn
  have L3 := PySem.W.looks_find (M := model prog w) X i hf
  have L4 := PySem.W.looks_mroIn (M := model prog w) X be
  have f3 := PySem.F.attr_ValueError.ga.bind (.ref er)
  unfold getAttr? getAttrBy? getAttrBy
  refine wpAny_bind (wpAny_mkText (wpAny_bind (wpAny_attempt (wpAny_holding (wpAny_bind (L0.at (wpAny_bind (L1.at ?_))))))))
  show wpAny _ _ (getAttrByItsOwn _ _ _ _ _ _) _ _ _
  unfold getAttrByItsOwn hookBefore
  refine wpAny_bind (Internal'.at ?_)
  refine wpAny_bind (wpAny_attempt (wpAny_holding ?_))
  show wpAny _ _ (boundAndCalled _ _ _) _ _ _
  unfold boundAndCalled
  rw [f3]
  refine wpAny_bind (wpAny_pure ?_)
  refine wpAny_call (codeAny_call_builtin PySem.F.attr_ValueError.ga.plain PySem.F.entry_bexc_ga ?_)
  have hk : builtinKind "BaseException.__getattribute__" = some .slot := by decide +kernel
  have hsp : splitId "BaseException.__getattribute__" = some ("BaseException", "__getattribute__") := by decide +kernel
  simp only [checkBuiltinCall, hk, hsp]
  unfold isInstance
  refine wpAny_bind (wpAny_bind (L0.at (L4.at ?_)))
  simp only [Bool.not_true, Bool.false_eq_true, if_false]
  have ha := PySem.F.args_bexc_ga (.ref er) (.str "__class__" t)
  unfold argsOk at ha
  refine wpAny_of_eq (a := ()) ha ?_
  show wpAny _ _ (Builtin.«object.__getattribute__» _) _ _ _
  unfold Builtin.«object.__getattribute__»
  refine wpAny_bind (wpAny_pure ?_)
  refine wpAny_bind (wpAny_pure ?_)
  refine wpAny_bind (L0.at ?_)
  refine wpAny_bind (L3.at ?_)
  show wpAny _ _ (Builtin.ObjectAttr.bindTo _ _ _ _) _ _ _
  unfold Builtin.ObjectAttr.bindTo
  refine wpAny_bind (wpAny_holding (wpAny_call (PySem.W.class_get X i mo ?_)))
  exact wpAny_pure (PySem.W.handed_on rfl (wpAny_pure q))
noncomputable def errOk (K : PySem.W.Frag) (C : Addr) : Bool := PySem.W.excIn K C bmV "ValueError.__new__" && (PySem.W.findIn K (.ref C) "__getattribute__" == some (some (.builtin "BaseException.__getattribute__"))) && (PySem.W.findIn K (.ref C) "__getattr__" == some none) && (PySem.W.mroIn K C (.type "BaseException") == some true) && (PySem.W.clsIn K C).isSome && (PySem.W.findIn K (.ref C) "__class__" == some (some (.builtin "object.__class__"))) &&
  (PySem.W.specialIn K (.builtin "object.__class__") "__get__" == some (some (.builtin "getset_descriptor.__get__"))) && (PySem.W.takesIn K (.builtin "object.__class__") == some true) && (PySem.W.mroIn K C (.type "object") == some true)
theorem kitx_err {K : PySem.W.Frag} {er C : Addr} (h : errOk K C = true) : PySem.W.KitX K (.ref er) (.ref C) (IsExc er C) := by
  unfold errOk at h
  simp only [Bool.and_eq_true, beq_iff_eq] at h
  obtain ⟨⟨⟨⟨⟨⟨⟨⟨_, ga⟩, gn⟩, be⟩, cl⟩, fa⟩, sn⟩, tk⟩, mo⟩ := h
  obtain ⟨cd, hc⟩ := Option.isSome_iff_exists.mp cl
  have there : ∃ o : Obj, K.lookup C = some o ∧ o.data = .cls cd := by
    unfold PySem.W.clsIn at hc
    split at hc
    · rename_i lk; cases hc; exact ⟨_, lk, rfl⟩
    · cases hc
  obtain ⟨o, lk, dt⟩ := there
  refine ⟨fun M h _ ⟨oe, i⟩ => i.type, fun M h X _ A Q E s k q => ?_, fun h tp dd its n sl X e => ?_, fun {prog w A E Q s} X ⟨oe, i⟩ q => ?_⟩
  · have g := k _ _ (X _ _ lk)
    obtain ⟨oc, od, oda, osl⟩ := o
    simp only at dt
    subst dt
    unfold isType loadHead
    exact wpAny_bind (wpAny_loadPart g (wpAny_pure q))
  · rw [Bool.eq_false_iff]
    intro z
    have ec : C = tp := Value.ref.inj (beq_iff_eq.mp z)
    subst ec
    have g := X _ _ lk
    rw [e] at g; cases g; cases dt
  · have hf : PySem.W.findObj K C none "__class__" = some (.bind (.builtin "getset_descriptor.__get__") (.builtin "object.__class__")) := by
      unfold PySem.W.findObj
      rw [hc, Option.bind_some, fa, Option.bind_some]
      simp [sn, tk]
    exact exc_class ga gn hf mo be X i q
noncomputable abbrev Cx.inH (X : Cx) (er : Addr) : Cx := { X with A := X.A.mark (some (.ref er)), calm := false, xe := fun _ _ => False }
section
variable {X : Cx} {pins : List (Addr × Obj)} {σ : St} {H H' : Hp} {s s' : Shared}
noncomputable def Ends.gone (D : Ends) (i : Nat) : Ends := ⟨fun σ H => D.nx (σ.set i none) H, D.rt, fun σ H => D.bk (σ.set i none) H, fun σ H => D.ct (σ.set i none) H⟩
end

noncomputable def rIsiU (K : PySem.W.Frag) : List V → Hp → VK → Prop := fun xs H Q => (∃ er C c cv b, xs = [.ref er, c] ∧ RelV c cv ∧ H er = some (ExcAt er C) ∧ errOk K C = true ∧ PySem.W.kitOne K (.ref C) cv = some b ∧ Q (.bl b) H) ∨ rIsi K xs H Q
theorem call_isiU {X : Cx} : CallR X (.builtin "isinstance") (rIsiU X.K) := by
  refine CallR.or ?_ call_isinst
  intro pins s σ H xs us Q I r h
  obtain ⟨er, C, c, cv, b, rfl, rc, he, ok, hk, q⟩ := h
  obtain ⟨u, w', rfl, r1, r2⟩ := vals2 r
  obtain rfl : u = Value.ref er := r1
  have ie : IsExc er C s.heap := (I.hok er _ he).1
  have ec : w' = cv := by
    cases c with
    | ty n => exact (show w' = _ from r2).trans (show cv = _ from rc).symm
    | ref a => exact (show w' = _ from r2).trans (show cv = _ from rc).symm
    | non => exact (show w' = _ from r2).trans (show cv = _ from rc).symm
    | bl b => exact (show w' = _ from r2).trans (show cv = _ from rc).symm
    | _ => obtain ⟨_, rfl⟩ := rc; simp [PySem.W.kitOne, PySem.W.kitCls] at hk
  subst ec
  exact PySem.W.kia_one (kitx_err ok) I.kIn ie hk (by intro z; cases z) fun tk => ⟨.bl b, H, I.tok tk, rfl, q⟩
theorem x_isU {K : PySem.W.Frag} {xs : List V} {H : Hp} {Q : VK} (q : rIsi K xs H Q) : rIsiU K xs H Q := .inr q
end Internal

set_option Elab.async false
set_option linter.all false
set_option maxRecDepth 100000
namespace Internal
open PySem PySem.Spec PyProof.Rows
section
variable {X : Cx}
theorem get_listL : PGet X (rIxL X.K) := by
  intro pins s σ H x y v u Q I rx ry h
  obtain ⟨p, xs, i, z, rfl, rfl, hq, he, q⟩ := h
  cases rx
  obtain ⟨t, rfl⟩ := ry
  obtain ⟨its, r, pl, hz⟩ := I.list hq
  obtain ⟨j, h1, h2, h3, h4, h5⟩ := atI_get he
  obtain ⟨w, ew, rw'⟩ := r.get h2
  have hl := r.length
  have hn := line63
  have fin : EP X pins σ Q w s := ⟨z, H, I, rw', q⟩
  by_cases h0 : 0 ≤ i
  · have hj : i.toNat = j := by
      rw [seqIndex_of h0 h5] at h1
      exact Option.some.inj h1
    exact wpAny_getItem_list pl.isList h0 (by omega) (by rw [hj]; simpa using ew) fin
  · have hj : (i + (its.toArray.size : Int)).toNat = j := by
      rw [seqIndex_neg (by omega) h4] at h1
      rw [List.size_toArray, ← hl]
      exact Option.some.inj h1
    exact wpAny_getItem_list_neg pl.isList (by omega) (by rw [List.size_toArray] <;> omega) (by omega) (by rw [hj]; simpa using ew) fin
end
noncomputable def Src (J : It) (P : Hp → Prop) (n : Nat) (Y : Nat → V → Hp → Prop) : Prop :=
  (∀ i H, P H → i < n → J.go i H) ∧ (∀ H, P H → J.stop n H) ∧ ∀ i H x H', P H → i < n → J.yld i H x H' → Same H H' ∧ Y i x H'
theorem lt_some {α : Type} {xs : List α} {i : Nat} (h : i < xs.length) : ∃ x, xs[i]? = some x := ⟨xs[i], by simp [h]⟩
theorem src_list {K : PySem.W.Frag} {a : Addr} {xs : List V} : Src (Itl K a) (fun H => SqL K H a xs) xs.length (fun i x _ => xs[i]? = some x) :=
  ⟨fun i H h hi => by obtain ⟨x, hx⟩ := lt_some hi; exact ⟨xs, x, h, hx⟩, fun H h => ⟨xs, h, Nat.le_refl _⟩, fun i H x H' h hi ⟨q, r⟩ => by subst q; exact ⟨Same.refl _, r xs h⟩⟩
theorem src_range {lo : Int} {n : Nat} : Src (Itr lo n) (fun _ => True) n (fun i x _ => x = .int (lo + i)) :=
  ⟨fun i H e hi => hi, fun H e => Nat.le_refl _, fun i H x H' e hi ⟨q, r⟩ => by subst q; exact ⟨Same.refl _, r⟩⟩
theorem src_enum {K : PySem.W.Frag} {a : Addr} {xs : List V} : Src (Itn K a) (fun H => SqL K H a xs) xs.length (fun i x H => ∃ p v, x = .ref p ∧ xs[i]? = some v ∧ H p = some (.tup [.int i, v])) :=
  ⟨fun i H h hi => by obtain ⟨x, hx⟩ := lt_some hi; exact ⟨xs, x, h, hx⟩, fun H h => ⟨xs, h, Nat.le_refl _⟩, fun i H x H' h hi ⟨p, v, hp, q, r, z⟩ => by subst z; exact ⟨Same.new hp _, p, v, q, r xs h, upd_same⟩⟩
section
variable {σ : St} {H : Hp} {Q : VK} {D : Ends} {ta tb tc te to ti : TE} {t u : TS} {K : PySem.W.Frag}
theorem x_forS {J : It} {P : Hp → Prop} {n : Nat} {Y : Nat → V → Hp → Prop} {g : TG} {tb : TS} (S : Src J P n Y) (Pv : Nat → St → Hp → Prop) (h0 : Pv 0 σ H) (hk : ∀ i σ H, Pv i σ H → P H)
    (hs : ∀ i x σ H H', i < n → Pv i σ H → Same H H' → Y i x H' → g x σ H' fun σ2 H2 => tb { D with nx := Pv (i + 1), ct := Pv (i + 1), bk := D.nx } σ2 H2) (hd : ∀ σ H, Pv n σ H → D.nx σ H) : ForK J g tb D σ H := by
  refine ⟨fun i m σ H => m = n - i ∧ i ≤ n ∧ Pv i σ H, ⟨n, by simp, Nat.zero_le _, h0⟩, ?_⟩
  rintro i m σ H ⟨rfl, hi, p⟩
  by_cases hlt : i < n
  · refine .inr ⟨S.1 i H (hk i σ H p) hlt, Pv (i + 1), fun σ' H' q => ⟨n - (i + 1), by omega, rfl, hlt, q⟩, fun x H' y => ?_⟩
    obtain ⟨e, y'⟩ := S.2.2 i H x H' (hk i σ H p) hlt y
    exact hs i x σ H H' hlt p e y'
  · have : i = n := by omega
    subst this
    exact .inl ⟨S.2.1 H (hk i σ H p), hd σ H p⟩
noncomputable def CompK (J : It) (caps : List (Option Nat)) (g : TG) (tf : TT) (te : TE) (σ : St) (Q : VK) (H1 : Hp) : Prop := ∀ D, H1 D = none →
  ∃ W : Nat → Nat → St → Hp → Prop, (∃ m, W 0 m (capSt caps σ) (upd H1 D (.lst []))) ∧ ∀ i m σ' H', W i m σ' H' →
    (J.stop i H' ∧ Q (.ref D) H') ∨ (J.go i H' ∧ ∃ N : St → Hp → Prop, (∀ σ2 H2, N σ2 H2 → ∃ m', m' < m ∧ W (i + 1) m' σ2 H2) ∧
      ∀ x H2, J.yld i H' x H2 → g x σ' H2 fun σ1 H3 => tf σ1 H3 fun b H4 => if b = true then te σ1 H4 fun v H5 => rAppend (.ref D) [v] H5 fun _ H6 => N σ1 H6 else N σ1 H4)
theorem x_comp {wi : TI} {caps : List (Option Nat)} {g : TG} {tf : TT} {te : TE} (q : wi σ H fun J H1 => CompK J caps g tf te σ Q H1) : tComp wi caps g tf te σ H Q := q
noncomputable def CompN (H : Hp) (Sv : St → Prop) (Pv : Nat → List V → Hp → Prop) (D : Addr) (i : Nat) (σ' : St) (H' : Hp) : Prop := Sv σ' ∧ Same H H' ∧ ∃ vs, H' D = some (.lst vs) ∧ vs.length ≤ i ∧ Pv i vs H'
theorem x_compS {J : It} {P : Hp → Prop} {n : Nat} {Y : Nat → V → Hp → Prop} {caps : List (Option Nat)} {g : TG} {tf : TT} {te : TE} (S : Src J P n Y) (e0 : ∀ H', Same H H' → P H') (Sv : St → Prop) (Pv : Nat → List V → Hp → Prop) (hc : Sv (capSt caps σ)) (h0 : ∀ H', Same H H' → Pv 0 [] H')
    (hs : ∀ i x D vs σ' H' H2, i < n → H D = none → Sv σ' → Same H H' → H' D = some (.lst vs) → vs.length ≤ i → Pv i vs H' → Same H' H2 → Y i x H2 → g x σ' H2 fun σ1 H3 => tf σ1 H3 fun b H4 => if b = true then te σ1 H4 fun v H5 => rAppend (.ref D) [v] H5 fun _ H6 => CompN H Sv Pv D (i + 1) σ1 H6 else CompN H Sv Pv D (i + 1) σ1 H4)
    (hq : ∀ D H' vs, H D = none → Same H H' → H' D = some (.lst vs) → vs.length ≤ n → Pv n vs H' → Q (.ref D) H') : CompK J caps g tf te σ Q H := by
  intro D hD
  refine ⟨fun i m σ' H' => m = n - i ∧ i ≤ n ∧ CompN H Sv Pv D i σ' H', ⟨n, by simp, Nat.zero_le _, hc, Same.new hD _, [], upd_same, Nat.le_refl _, h0 _ (Same.new hD _)⟩, ?_⟩
  rintro i m σ' H' ⟨rfl, hi, sv, e, vs, hv, hl, p⟩
  by_cases hlt : i < n
  · refine .inr ⟨S.1 i H' (e0 _ e) hlt, CompN H Sv Pv D (i + 1), fun σ2 H2 q => ⟨n - (i + 1), by omega, rfl, hlt, q⟩, fun x H2 y => ?_⟩
    obtain ⟨e', y'⟩ := S.2.2 i H' x H2 (e0 _ e) hlt y
    exact hs i x D vs σ' H' H2 hlt hD sv e hv hl p e' y'
  · have : i = n := by omega
    subst this
    exact .inl ⟨S.2.1 H' (e0 _ e), hq D H' vs hD e hv hl p⟩
theorem x_compS1 {J : It} {P : Hp → Prop} {n : Nat} {Y : Nat → V → Hp → Prop} {caps : List (Option Nat)} {g : TG} {tf : TT} {te : TE} {rest : St} (S : Src J P n Y) (e0 : ∀ H', Same H H' → P H') (hc : capSt caps σ = none :: rest) (Pv : Nat → List V → Hp → Prop) (h0 : ∀ H', Same H H' → Pv 0 [] H')
    (hs : ∀ i x D vs o H' H2, i < n → H D = none → Same H H' → H' D = some (.lst vs) → vs.length ≤ i → Pv i vs H' → Same H' H2 → Y i x H2 → g x (o :: rest) H2 fun σ1 H3 => tf σ1 H3 fun b H4 => if b = true then te σ1 H4 fun v H5 => rAppend (.ref D) [v] H5 fun _ H6 => CompN H (fun σ' => ∃ o, σ' = o :: rest) Pv D (i + 1) σ1 H6 else CompN H (fun σ' => ∃ o, σ' = o :: rest) Pv D (i + 1) σ1 H4)
    (hq : ∀ D H' vs, H D = none → Same H H' → H' D = some (.lst vs) → vs.length ≤ n → Pv n vs H' → Q (.ref D) H') : CompK J caps g tf te σ Q H :=
  x_compS S e0 (fun σ' => ∃ o, σ' = o :: rest) Pv ⟨_, hc⟩ h0 (fun i x D vs σ' H' H2 a1 a2 ⟨o, a3⟩ a4 a5 a6 a7 a8 a9 => by subst a3; exact hs i x D vs o H' H2 a1 a2 a4 a5 a6 a7 a8 a9) hq
theorem x_compS2 {J : It} {P : Hp → Prop} {n : Nat} {Y : Nat → V → Hp → Prop} {caps : List (Option Nat)} {g : TG} {tf : TT} {te : TE} {rest : St} (S : Src J P n Y) (e0 : ∀ H', Same H H' → P H') (hc : capSt caps σ = none :: none :: rest) (Pv : Nat → List V → Hp → Prop) (h0 : ∀ H', Same H H' → Pv 0 [] H')
    (hs : ∀ i x D vs o o' H' H2, i < n → H D = none → Same H H' → H' D = some (.lst vs) → vs.length ≤ i → Pv i vs H' → Same H' H2 → Y i x H2 → g x (o :: o' :: rest) H2 fun σ1 H3 => tf σ1 H3 fun b H4 => if b = true then te σ1 H4 fun v H5 => rAppend (.ref D) [v] H5 fun _ H6 => CompN H (fun σ' => ∃ o o', σ' = o :: o' :: rest) Pv D (i + 1) σ1 H6 else CompN H (fun σ' => ∃ o o', σ' = o :: o' :: rest) Pv D (i + 1) σ1 H4)
    (hq : ∀ D H' vs, H D = none → Same H H' → H' D = some (.lst vs) → vs.length ≤ n → Pv n vs H' → Q (.ref D) H') : CompK J caps g tf te σ Q H :=
  x_compS S e0 (fun σ' => ∃ o o', σ' = o :: o' :: rest) Pv ⟨_, _, hc⟩ h0 (fun i x D vs σ' H' H2 a1 a2 ⟨o, o', a3⟩ a4 a5 a6 a7 a8 a9 => by subst a3; exact hs i x D vs o o' H' H2 a1 a2 a4 a5 a6 a7 a8 a9) hq
theorem x_enumk {R : It → Hp → Prop} {a : Addr} {xs : List V} (h : SqL K H a xs) (q : R (Itn K a) H) : rEnum K R [.ref a] H := ⟨a, rfl, ⟨xs, h⟩, q⟩
theorem x_gTup {a : Addr} {xs : List V} {n : Nat} {t : TGs} {R : St → Hp → Prop} (h : H a = some (.tup xs)) (hn : xs.length = n) (q : t xs σ H R) : gTup K n t (.ref a) σ H R := ⟨a, xs, rfl, SqT.of h, hn, q⟩
theorem x_gCons {v : V} {r : List V} {t : TG} {u : TGs} {R : St → Hp → Prop} (q : t v σ H fun σ' H' => u r σ' H' R) : gCons t u (v :: r) σ H R := ⟨v, r, rfl, q⟩
theorem x_gNil {R : St → Hp → Prop} (q : R σ H) : gNil [] σ H R := ⟨rfl, q⟩
theorem x_ip {f : Int → Int → Int} {i j : Int} (q : Q (.int (f i j)) H) : ipI f (.int i) (.int j) H Q := ⟨i, j, rfl, rfl, q⟩
theorem x_augS {tget : V → V → Hp → VK → Prop} {tip : TIp} {tset : TSet} (q : to σ H fun o H1 => ti σ H1 fun i H2 => tget o i H2 fun x H3 => te σ H3 fun y H4 => tip x y H4 fun z H5 => tset o i z H5 fun H6 => D.nx σ H6) : tAugS to ti te tget tip tset D σ H := q
theorem x_getL {a : Addr} {xs : List V} {i : Int} {v : V} (h : SqL K H a xs) (e : atI xs i = some v) (q : Q v H) : rIxL K (.ref a) (.int i) H Q := ⟨a, xs, i, v, rfl, rfl, h, e, q⟩
theorem x_rep0 {l : Addr} {x : V} {k : Int} (h : H l = some (.lst [x])) (h0 : 0 ≤ k) (h1 : k ≤ 100000) (q : ∀ p H', H p = none → Same H H' → H' p = some (.lst (List.replicate k.toNat x)) → Q (.ref p) H') : rMulU (.ref l) (.int k) H Q :=
  .inr ⟨l, k, [x], rfl, rfl, h, by omega, by omega, by have := small_le (n := k.toNat) (by omega); simpa using this, fun p hp => by
    have e : (List.replicate k.toNat [x]).flatten = List.replicate k.toNat x := by
      generalize k.toNat = n
      induction n with
      | zero => rfl
      | succ n ih => rw [List.replicate_succ, List.flatten_cons, ih, List.replicate_succ]; rfl
    rw [e]
    exact q p _ hp (Same.new hp _) upd_same⟩
theorem x_sum {a : Addr} {ns : List Int} (h : SqL K H a (ns.map V.int)) (q : Q (.int (sumI ns)) H) : rSum K [.ref a] H Q := ⟨a, ns, rfl, h, q⟩
end
theorem x_iteNY {p : Prop} [Decidable p] {A B : Prop} (h : p) (b : B) : if (!decide p) = true then A else B := by rw [decide_eq_true h]; exact x_iteF b
section
variable {α : Type} {f : α → List V}
noncomputable def IsTs (f : α → List V) (H : Hp) : List V → List α → Prop
  | [], [] => True
  | v :: vs, x :: xs => (∃ a, v = .ref a ∧ H a = some (.tup (f x))) ∧ IsTs f H vs xs
  | _, _ => False
noncomputable def Tups (H H' : Hp) : Prop := ∀ a xs, H a = some (.tup xs) → H' a = some (.tup xs)
theorem Same.tups {H H' : Hp} (e : Same H H') : Tups H H' := fun a xs h => e a _ h
theorem LBut.tups {l : Addr} {H H' : Hp} (e : LBut l H H') : Tups H H' := fun a xs h => e.tup h
theorem IsTs.keep {H H' : Hp} (e : Tups H H') : ∀ {vs : List V} {xs : List α}, IsTs f H vs xs → IsTs f H' vs xs
  | [], [], _ => trivial
  | _ :: _, _ :: _, ⟨⟨a, q, h⟩, r⟩ => ⟨⟨a, q, e a _ h⟩, r.keep e⟩
theorem IsTs.same {H H' : Hp} {vs : List V} {xs : List α} (h : IsTs f H vs xs) (e : Same H H') : IsTs f H' vs xs := h.keep e.tups
theorem IsTs.but {l : Addr} {H H' : Hp} {vs : List V} {xs : List α} (h : IsTs f H vs xs) (e : LBut l H H') : IsTs f H' vs xs := h.keep e.tups
theorem Same.isTs {H H' : Hp} {vs : List V} {xs : List α} (e : Same H H') (h : IsTs f H vs xs) : IsTs f H' vs xs := h.keep e.tups
theorem LBut.isTs {l : Addr} {H H' : Hp} {vs : List V} {xs : List α} (e : LBut l H H') (h : IsTs f H vs xs) : IsTs f H' vs xs := h.keep e.tups
theorem IsTs.length {H : Hp} : ∀ {vs : List V} {xs : List α}, IsTs f H vs xs → vs.length = xs.length
  | [], [], _ => rfl
  | _ :: _, _ :: _, ⟨_, r⟩ => by rw [List.length_cons, List.length_cons, r.length]
theorem IsTs.app {H : Hp} {a : Addr} {x : α} (h : H a = some (.tup (f x))) : ∀ {vs : List V} {xs : List α}, IsTs f H vs xs → IsTs f H (vs ++ [.ref a]) (xs ++ [x])
  | [], [], _ => ⟨⟨a, rfl, h⟩, trivial⟩
  | _ :: _, _ :: _, ⟨q, r⟩ => ⟨q, r.app h⟩
theorem IsTs.cat {H : Hp} {ws : List V} {ys : List α} (h : IsTs f H ws ys) : ∀ {vs : List V} {xs : List α}, IsTs f H vs xs → IsTs f H (vs ++ ws) (xs ++ ys)
  | [], [], _ => h
  | _ :: _, _ :: _, ⟨q, r⟩ => ⟨q, IsTs.cat h r⟩
theorem IsTs.get {H : Hp} : ∀ {vs : List V} {xs : List α} {i : Nat} {v : V}, IsTs f H vs xs → vs[i]? = some v → ∃ a x, v = .ref a ∧ xs[i]? = some x ∧ H a = some (.tup (f x))
  | _ :: _, x :: _, 0, _, ⟨⟨a, q, h⟩, _⟩, e => by cases e; exact ⟨a, x, q, rfl, h⟩
  | _ :: _, _ :: _, i + 1, _, ⟨_, r⟩, e => by obtain ⟨a, x, q, e', h⟩ := r.get (i := i) e; exact ⟨a, x, q, e', h⟩
theorem IsTs.getI {H : Hp} {vs : List V} {xs : List α} {i : Nat} {x : α} (h : IsTs f H vs xs) (e : xs[i]? = some x) : ∃ a, vs[i]? = some (.ref a) ∧ H a = some (.tup (f x)) := by
  have hi : i < vs.length := by rw [h.length]; exact (List.getElem?_eq_some_iff.mp e).1
  obtain ⟨v, hv⟩ := lt_some hi
  obtain ⟨a, y, q, e', h'⟩ := h.get hv
  rw [e] at e'; cases e'
  exact ⟨a, by rw [hv, q], h'⟩
end
noncomputable def vec (n : Nat) (f : Nat → Int) : List Int := (List.range n).map f
theorem vec_len {n : Nat} {f : Nat → Int} : (vec n f).length = n := by simp [vec]
theorem vec_get {n i : Nat} {f : Nat → Int} (h : i < n) : (vec n f)[i]? = some (f i) := by simp [vec, h]
theorem vec_congr {n : Nat} {f g : Nat → Int} (h : ∀ i, i < n → f i = g i) : vec n f = vec n g := by
  unfold vec; exact List.map_congr_left fun i hi => h i (List.mem_range.mp hi)
theorem vec_set {n j : Nat} {f : Nat → Int} {v : Int} : (vec n f).set j v = vec n (fun i => if i = j then v else f i) := by
  refine List.ext_getElem? fun i => ?_
  rw [List.getElem?_set]
  by_cases hi : i < n
  · rw [vec_get hi, vec_get hi, vec_len]
    by_cases e : j = i
    · subst e; simp [hi]
    · rw [if_neg e, if_neg (Ne.symm e)]
  · have h1 : (vec n f)[i]? = none := by rw [List.getElem?_eq_none_iff, vec_len]; omega
    have h2 : ∀ g, (vec n g)[i]? = none := fun g => by rw [List.getElem?_eq_none_iff, vec_len]; omega
    rw [h1, h2, vec_len]
    by_cases e : j = i
    · subst e; simp [hi]
    · rw [if_neg e]
theorem vec_succ {n : Nat} {f : Nat → Int} : vec (n + 1) f = vec n f ++ [f n] := by unfold vec; rw [List.range_succ, List.map_append]; rfl
theorem vec_rep {n : Nat} {c : Int} : List.replicate n (V.int c) = (vec n fun _ => c).map V.int := by
  refine List.ext_getElem? fun i => ?_
  rw [List.getElem?_replicate, List.getElem?_map]
  by_cases hi : i < n
  · rw [vec_get hi, if_pos hi]; rfl
  · have h2 : (vec n fun _ => c)[i]? = none := by rw [List.getElem?_eq_none_iff, vec_len]; omega
    rw [h2, if_neg hi]; rfl
theorem ints_at {ns : List Int} {k : Int} {v : Int} (h0 : 0 ≤ k) (h : ns[k.toNat]? = some v) : atI (ns.map V.int) k = some (.int v) := atI_lt h0 (by rw [List.getElem?_map, h]; rfl)
theorem vec_at {n : Nat} {f : Nat → Int} {k : Int} (h0 : 0 ≤ k) (h : k < n) : atI ((vec n f).map V.int) k = some (.int (f k.toNat)) := ints_at h0 (vec_get (by omega))
theorem ints_set {ns : List Int} {j : Nat} {v : Int} : (ns.map V.int).set j (.int v) = (ns.set j v).map V.int := by rw [List.map_set]
theorem vec_put {n j : Nat} {f : Nat → Int} {v : Int} : ((vec n f).map V.int).set j (.int v) = (vec n (fun i => if i = j then v else f i)).map V.int := by rw [ints_set, vec_set]
theorem ixN_vec {n : Nat} {f : Nat → Int} {k : Int} (h0 : 0 ≤ k) (h : k < n) : ixN ((vec n f).map V.int).length k = some k.toNat := by
  rw [List.length_map, vec_len]; exact ixN_lt h0 h
theorem rep_ints {K : PySem.W.Frag} {H : Hp} : ∀ ns : List Int, RepAll K H (ns.map V.int) (ns.map PyData.int)
  | [] => .nil
  | n :: ns => .cons (.int n) (rep_ints ns)
theorem depth_ints : ∀ ns : List Int, PyData.depthAll (ns.map PyData.int) = 0
  | [] => by simp [PyData.depthAll]
  | n :: ns => by rw [List.map_cons, PyData.depthAll, depth_ints ns]; simp [PyData.depth]
theorem lay_ints : ∀ ns : List Int, PyData.canLayAll0 (ns.map PyData.int) = true
  | [] => by simp [PyData.canLayAll0]
  | n :: ns => by rw [List.map_cons, PyData.canLayAll0, lay_ints ns]; simp [PyData.canLay0]
theorem depth_list {ds : List PyData} : (PyData.list ds).depth = PyData.depthAll ds + 1 := by simp [PyData.depth]; try omega
section
variable {H : Hp} {Q : VK} {K : PySem.W.Frag}
theorem eqv_intsT {ns ms : List Int} (h : ns = ms) : PyData.eqv (.list (ns.map PyData.int)) (.list (ms.map PyData.int)) = true := by
  subst h; exact PySem.SeqAt.eqv_refl _ (by rw [PyData.canLay0]; exact lay_ints ns)
theorem x_eqInts {a b : Addr} {ns ms : List Int} (h1 : SqL K H a (ns.map V.int)) (h2 : SqL K H b (ms.map V.int)) (e : ns = ms) (q : Q (.bl true) H) : rEqU K (.ref a) (.ref b) H Q :=
  x_eqD (.lst h1 (rep_ints ns)) (.lst h2 (rep_ints ms)) (by rw [depth_list, depth_ints]; omega) (by rw [eqv_intsT e]; exact q)
theorem x_neInts {a b : Addr} {ns ms : List Int} (h1 : SqL K H a (ns.map V.int)) (h2 : SqL K H b (ms.map V.int)) (e : ns = ms) (q : Q (.bl false) H) : rNeU K (.ref a) (.ref b) H Q :=
  x_neD (.lst h1 (rep_ints ns)) (.lst h2 (rep_ints ms)) (by rw [depth_list, depth_ints]; omega) (by rw [eqv_intsT e]; exact q)
end
end Internal

set_option Elab.async false
set_option linter.all false
set_option maxRecDepth 100000
namespace Internal
open PySem PySem.Spec PyProof.Rows
section
variable {σ : St} {H : Hp} {Q : VK} {D : Ends} {K : PySem.W.Frag}
theorem x_getVec {l : Addr} {n : Nat} {f : Nat → Int} {k : Int} (h : H l = some (.lst ((vec n f).map V.int))) (h0 : 0 ≤ k) (h1 : k < n) (q : Q (.int (f k.toNat)) H) : rIxL K (.ref l) (.int k) H Q := x_getL (.of h) (vec_at h0 h1) q
theorem x_ixVec {l : Addr} {n : Nat} {f : Nat → Int} {k : Int} (h : H l = some (.lst ((vec n f).map V.int))) (h0 : 0 ≤ k) (h1 : k < n) (q : Q (.int (f k.toNat)) H) : rIx K (.ref l) (.int k) H Q := x_ixLs h (vec_at h0 h1) q
theorem x_setVec {l : Addr} {n : Nat} {f : Nat → Int} {k v : Int} {R : Hp → Prop} (h : H l = some (.lst ((vec n f).map V.int))) (h0 : 0 ≤ k) (h1 : k < n)
    (q : ∀ H', LBut l H H' → H' l = some (.lst ((vec n fun i => if i = k.toNat then v else f i).map V.int)) → R H') : rSetL (.ref l) (.int k) (.int v) H R := by
  refine x_setN h (ixN_vec h0 h1) fun H' b e => q H' b ?_
  rw [e, vec_put]
theorem x_ixTs {a : Addr} {xs : List V} {i : Int} {v : V} (h : H a = some (.tup xs)) (e : atI xs i = some v) (q : Q v H) : rIx K (.ref a) (.int i) H Q := x_ixT (.of h) e q
theorem x_repVec {l : Addr} {c k : Int} (h : H l = some (.lst [.int c])) (h0 : 0 ≤ k) (h1 : k ≤ 100000) (q : ∀ p H', H p = none → Same H H' → H' p = some (.lst ((vec k.toNat fun _ => c).map V.int)) → Q (.ref p) H') : rMulU (.ref l) (.int k) H Q :=
  x_rep0 h h0 h1 fun p H' a b c => q p H' a b (by rw [c, vec_rep])
end
noncomputable def NewL (H : Hp) (Q : VK) (ns : List Int) : Prop := ∀ p H', H p = none → Same H H' → H' p = some (.lst (ns.map V.int)) → Q (.ref p) H'
set_option genInjectivity false in
set_option genSizeOf false in
structure Due where
  p : Int
  q : Int
  r : Int
  a : Int
noncomputable def dueV (d : Due) : List V := [.int d.p, .int d.q, .int d.r, .int d.a]
noncomputable def DueOk (n : Int) (d : Due) : Prop := 0 ≤ d.p ∧ d.p < n ∧ 0 ≤ d.q ∧ d.q < n ∧ d.p ≠ d.q ∧ 0 ≤ d.r ∧ d.r < 3 ∧ 0 ≤ d.a ∧ d.a ≤ 100000000000000
noncomputable def IsSh (K : PySem.W.Frag) (H : Hp) (a : Addr) (ds : List Due) : Prop := ∃ vs, SqL K H a vs ∧ IsTs dueV H vs ds
theorem IsSh.same {K : PySem.W.Frag} {H H' : Hp} {a : Addr} {ds : List Due} (h : IsSh K H a ds) (e : Same H H') : IsSh K H' a ds := by
  obtain ⟨vs, h1, h2⟩ := h; exact ⟨vs, e.seq h1, h2.same e⟩
theorem Same.isSh {K : PySem.W.Frag} {H H' : Hp} {a : Addr} {ds : List Due} (e : Same H H') (h : IsSh K H a ds) : IsSh K H' a ds := h.same e
theorem IsSh.of {K : PySem.W.Frag} {H : Hp} {a : Addr} {vs : List V} {ds : List Due} (h : H a = some (.lst vs)) (t : IsTs dueV H vs ds) : IsSh K H a ds := ⟨vs, .of h, t⟩
noncomputable def NewS (H : Hp) (Q : VK) (ds : List Due) : Prop := ∀ p H' vs, H p = none → Same H H' → H' p = some (.lst vs) → IsTs dueV H' vs ds → Q (.ref p) H'
noncomputable def owesF (ds : List Due) (m : Nat) : Int := ds.foldl (fun (s : Int) (d : Due) => if d.p = (m : Int) then s + d.a else s) 0
noncomputable def claimsF (ds : List Due) (m : Nat) : Int := ds.foldl (fun (s : Int) (d : Due) => if d.q = (m : Int) then s + d.a else s) 0
noncomputable def netsF (ds : List Due) (m : Nat) : Int := claimsF ds m - owesF ds m
theorem owesF_snoc (ds : List Due) (d : Due) (m : Nat) : owesF (ds ++ [d]) m = if d.p = (m : Int) then owesF ds m + d.a else owesF ds m := by unfold owesF; rw [List.foldl_append]; rfl
theorem claimsF_snoc (ds : List Due) (d : Due) (m : Nat) : claimsF (ds ++ [d]) m = if d.q = (m : Int) then claimsF ds m + d.a else claimsF ds m := by unfold claimsF; rw [List.foldl_append]; rfl
theorem take_snoc {α : Type} {xs : List α} {i : Nat} {x : α} (h : xs[i]? = some x) : xs.take (i + 1) = xs.take i ++ [x] := by
  obtain ⟨hi, rfl⟩ := List.getElem?_eq_some_iff.mp h
  exact List.take_succ_eq_append_getElem hi
noncomputable def spNets (K : PySem.W.Frag) : Sp := fun vs H Q _ => ∃ n a ds, vs = [.int n, .ref a] ∧ IsSh K H a ds ∧ 0 ≤ n ∧ n ≤ 1000 ∧ (∀ d ∈ ds, DueOk n d) ∧ NewL H Q (vec n.toNat (netsF ds))
section
variable {K : PySem.W.Frag} {H : Hp} {Q : VK} {E : XK} {n : Int} {a : Addr} {ds : List Due}
theorem spNets_i (h : IsSh K H a ds) (h0 : 0 ≤ n) (h1 : n ≤ 1000) (hd : ∀ d ∈ ds, DueOk n d) (q : ∀ p H', H p = none → Same H H' → H' p = some (.lst ((vec n.toNat (netsF ds)).map V.int)) → Q (.ref p) H') : spNets K [.int n, .ref a] H Q E := ⟨n, a, ds, rfl, h, h0, h1, hd, q⟩
end
noncomputable def spDrawn (K : PySem.W.Frag) : Sp := fun vs H Q _ => ∃ (a : Addr) (ns : List Int) (k seed : Int), vs = [.ref a, .int k, .int seed] ∧ SqL K H a (ns.map V.int) ∧ 0 ≤ k ∧ k ≤ 1000 ∧ 0 ≤ seed ∧ seed ≤ 1000000000 ∧ ∀ i, 1 ≤ i → i ≤ 1000000000000000 → Q (.int i) H
theorem spDrawn_i {K : PySem.W.Frag} {a : Addr} {ns : List Int} {k seed : Int} {H : Hp} {Q : VK} {E : XK} (h : SqL K H a (ns.map V.int)) (h0 : 0 ≤ k) (h1 : k ≤ 1000) (s0 : 0 ≤ seed) (s1 : seed ≤ 1000000000) (q : ∀ i, 1 ≤ i → i ≤ 1000000000000000 → Q (.int i) H) : spDrawn K [.ref a, .int k, .int seed] H Q E :=
  ⟨a, ns, k, seed, rfl, h, h0, h1, s0, s1, q⟩
noncomputable def spAmount : Sp := fun vs H Q _ => ∃ (i seed : Int), vs = [.int i, .int seed] ∧ 1 ≤ i ∧ i ≤ 1000000000000000 ∧ 0 ≤ seed ∧ seed < 1000000000 ∧ ∀ x, 0 ≤ x → x ≤ 1000000000000 → Q (.int x) H
theorem spAmount_i {i seed : Int} {H : Hp} {Q : VK} {E : XK} (h0 : 1 ≤ i) (h1 : i ≤ 1000000000000000) (s0 : 0 ≤ seed) (s1 : seed < 1000000000) (q : ∀ x, 0 ≤ x → x ≤ 1000000000000 → Q (.int x) H) : spAmount [.int i, .int seed] H Q E := ⟨i, seed, rfl, h0, h1, s0, s1, q⟩
noncomputable def spDue : Sp := fun vs H Q _ => ∃ (i n seed : Int), vs = [.int i, .int n, .int seed] ∧ 1 ≤ i ∧ i ≤ 1000000000000000 ∧ 2 ≤ n ∧ n ≤ 1000 ∧ 0 ≤ seed ∧ seed < 1000000000 ∧ ∀ p H' d, H p = none → Same H H' → H' p = some (.tup (dueV d)) → DueOk n d ∧ d.a ≤ 1000000000000 → Q (.ref p) H'
theorem spDue_i {i n seed : Int} {H : Hp} {Q : VK} {E : XK} (h0 : 1 ≤ i) (h1 : i ≤ 1000000000000000) (n0 : 2 ≤ n) (n1 : n ≤ 1000) (s0 : 0 ≤ seed) (s1 : seed < 1000000000) (q : ∀ p H' d, H p = none → Same H H' → H' p = some (.tup (dueV d)) → DueOk n d ∧ d.a ≤ 1000000000000 → Q (.ref p) H') : spDue [.int i, .int n, .int seed] H Q E :=
  ⟨i, n, seed, rfl, h0, h1, n0, n1, s0, s1, q⟩
noncomputable def spSheet (K : PySem.W.Frag) : Sp := fun vs H Q _ => ∃ (a : Addr) (ns : List Int) (n most : Int), vs = [.ref a, .int n, .int most] ∧ SqL K H a (ns.map V.int) ∧ ns.length ≤ 63 ∧ 1 ≤ n ∧ n ≤ 1000 ∧ 0 ≤ most ∧ most ≤ 64 ∧
  ∀ p H' vs ds, H p = none → Same H H' → H' p = some (.lst vs) → IsTs dueV H' vs ds → (∀ d ∈ ds, DueOk n d ∧ d.a ≤ 1000000000000) → ds.length ≤ 64 → (n = 1 → ds = []) → Q (.ref p) H'
theorem spSheet_i {K : PySem.W.Frag} {a : Addr} {ns : List Int} {n most : Int} {H : Hp} {Q : VK} {E : XK} (h : SqL K H a (ns.map V.int)) (hn : ns.length ≤ 63) (n0 : 1 ≤ n) (n1 : n ≤ 1000) (s0 : 0 ≤ most) (s1 : most ≤ 64)
    (q : ∀ p H' vs ds, H p = none → Same H H' → H' p = some (.lst vs) → IsTs dueV H' vs ds → (∀ d ∈ ds, DueOk n d ∧ d.a ≤ 1000000000000) → ds.length ≤ 64 → (n = 1 → ds = []) → Q (.ref p) H') : spSheet K [.ref a, .int n, .int most] H Q E := ⟨a, ns, n, most, rfl, h, hn, n0, n1, s0, s1, q⟩
noncomputable def spWholes (K : PySem.W.Frag) : Sp := fun vs H Q _ => ∃ (a : Addr) (ns : List Int) (n : Int), vs = [.ref a, .int n] ∧ H a = some (.lst (ns.map V.int)) ∧ Q (.bl (decide ((ns.length : Int) = n))) H
theorem spWholes_i {K : PySem.W.Frag} {a : Addr} {ns : List Int} {n : Int} {H : Hp} {Q : VK} {E : XK} (h : H a = some (.lst (ns.map V.int))) (q : Q (.bl (decide ((ns.length : Int) = n))) H) : spWholes K [.ref a, .int n] H Q E := ⟨a, ns, n, rfl, h, q⟩
end Internal

set_option Elab.async false
set_option linter.all false
set_option maxRecDepth 100000
namespace Internal
open PySem PySem.Spec PyProof.Rows
noncomputable def Rows (H : Hp) (as : List Addr) (k : Nat) (F : Nat → Nat → Int) : Prop := as.Nodup ∧ ∀ i a, as[i]? = some a → H a = some (.lst ((vec k (F i)).map V.int))
section
variable {H H' : Hp} {as bs : List Addr} {k : Nat} {F G : Nat → Nat → Int} {K : PySem.W.Frag} {Q : VK}
theorem nodup_get {i j : Nat} {a : Addr} (n : as.Nodup) (h : as[i]? = some a) (h' : as[j]? = some a) : i = j := by
  obtain ⟨hi, e⟩ := List.getElem?_eq_some_iff.mp h
  obtain ⟨hj, e'⟩ := List.getElem?_eq_some_iff.mp h'
  exact (List.getElem_inj n).mp (e.trans e'.symm)
end
noncomputable def spAmountsOf (K : PySem.W.Frag) : Sp := fun vs H Q _ => ∃ a ds, vs = [.ref a] ∧ IsSh K H a ds ∧ ds.length ≤ 1000 ∧ NewL H Q (ds.map Due.a)
theorem spAmountsOf_i {K : PySem.W.Frag} {a : Addr} {ds : List Due} {H : Hp} {Q : VK} {E : XK} (h : IsSh K H a ds) (h1 : ds.length ≤ 1000) (q : ∀ p H', H p = none → Same H H' → H' p = some (.lst ((ds.map Due.a).map V.int)) → Q (.ref p) H') : spAmountsOf K [.ref a] H Q E := ⟨a, ds, rfl, h, h1, q⟩
noncomputable def withF (ds : List Due) (m : Nat → Int) : List Due := ds.mapIdx fun i d => ⟨d.p, d.q, d.r, m i⟩
theorem withF_len {ds : List Due} {m : Nat → Int} : (withF ds m).length = ds.length := by simp [withF]
theorem withF_get {ds : List Due} {m : Nat → Int} {i : Nat} {d : Due} (h : ds[i]? = some d) : (withF ds m)[i]? = some ⟨d.p, d.q, d.r, m i⟩ := by simp [withF, h]
theorem withF_snoc {ds : List Due} {m : Nat → Int} {i : Nat} {d : Due} (h : ds[i]? = some d) : (withF ds m).take (i + 1) = (withF ds m).take i ++ [⟨d.p, d.q, d.r, m i⟩] := take_snoc (withF_get h)
noncomputable def spWith (K : PySem.W.Frag) : Sp := fun vs H Q _ => ∃ (a b : Addr) (ds : List Due) (ms : List Int), vs = [.ref a, .ref b] ∧ IsSh K H a ds ∧ SqL K H b (List.map V.int ms) ∧ ds.length ≤ ms.length ∧ ds.length ≤ 1000 ∧ NewS H Q (withF ds fun i => ms.getD i 0)
theorem spWith_i {K : PySem.W.Frag} {a b : Addr} {ds : List Due} {ms : List Int} {H : Hp} {Q : VK} {E : XK} (h : IsSh K H a ds) (h' : SqL K H b (ms.map V.int)) (hl : ds.length ≤ ms.length) (h1 : ds.length ≤ 1000)
    (q : ∀ p H' vs, H p = none → Same H H' → H' p = some (.lst vs) → IsTs dueV H' vs (withF ds fun i => ms.getD i 0) → Q (.ref p) H') : spWith K [.ref a, .ref b] H Q E := ⟨a, b, ds, ms, rfl, h, h', hl, h1, q⟩
theorem getD_get {ms : List Int} {i : Nat} (h : i < ms.length) : ms[i]? = some (ms.getD i 0) := by rw [List.getD_eq_getElem?_getD, List.getElem?_eq_getElem h]; rfl
end Internal

set_option linter.all false
namespace My
noncomputable def sumTo (f : Nat → Int) : Nat → Int
  | 0 => 0
  | n + 1 => sumTo f n + f n
section
variable (ch : Nat → Bool) (x : Nat → Int) (L : Int)
noncomputable def rest : Nat → Int
  | 0 => L
  | i + 1 => if ch i = true ∧ rest i > 0 then rest i - 1 else rest i
noncomputable def more (i : Nat) : Int := if ch i = true ∧ rest ch L i > 0 then x i + 1 else x i
noncomputable def cnt : Nat → Int
  | 0 => 0
  | i + 1 => if ch i = true then cnt i + 1 else cnt i
variable {ch x L}
end
end My

set_option Elab.async false
set_option linter.all false
set_option maxRecDepth 100000
namespace Internal
open PySem PySem.Spec PyProof.Rows
theorem sumI_vec (f : Nat → Int) : ∀ n, sumI (vec n f) = My.sumTo f n
  | 0 => rfl
  | n + 1 => by rw [vec_succ, sumI_snoc, sumI_vec f n]; rfl
noncomputable def bls (n : Nat) (ch : Nat → Bool) : List V := (List.range n).map fun i => V.bl (ch i)
theorem bls_succ {n : Nat} {ch : Nat → Bool} : bls (n + 1) ch = bls n ch ++ [.bl (ch n)] := by unfold bls; rw [List.range_succ, List.map_append]; rfl
theorem bls_len {n : Nat} {ch : Nat → Bool} : (bls n ch).length = n := by simp [bls]
theorem bls_get {n i : Nat} {ch : Nat → Bool} (h : i < n) : (bls n ch)[i]? = some (.bl (ch i)) := by simp [bls, h]
theorem vec_of (ms : List Int) : ms = vec ms.length fun i => ms.getD i 0 := by
  refine List.ext_getElem? fun i => ?_
  by_cases h : i < ms.length
  · rw [vec_get h]; exact getD_get h
  · rw [List.getElem?_eq_none (by omega), List.getElem?_eq_none (by rw [vec_len]; omega)]
theorem snoc_ints {ns : List Int} {c : Int} : ns.map V.int ++ [.int c] = (ns ++ [c]).map V.int := by rw [List.map_append]; rfl
end Internal

set_option Elab.async false
set_option linter.all false
set_option maxRecDepth 100000
namespace Internal
open PySem PySem.Spec PyProof.Rows
noncomputable abbrev TEr := St → Hp → VK → (Addr → Hp → Prop) → Prop
noncomputable abbrev TTr := Ends → (Addr → St → Hp → Prop) → St → Hp → Prop
section
variable {X : Cx} {pos : Pos}
noncomputable abbrev tExprR (te : TEr) : TTr := fun D Eh σ H => te σ H (fun _ H2 => D.nx σ H2) fun C H2 => Eh C σ H2
noncomputable abbrev tIfR (c : TT) (t u : TTr) : TTr := fun D Eh σ H => c σ H fun b H1 => if b = true then t D Eh σ H1 else u D Eh σ H1
noncomputable abbrev tNilR : TTr := fun D _ σ H => D.nx σ H
end
section
variable {σ : St} {H : Hp} {Q : VK} {D : Ends} {K : PySem.W.Frag} {Eh : Addr → Hp → Prop} {Eg : Addr → St → Hp → Prop}
end
end Internal

set_option Elab.async false
set_option linter.all false
set_option maxRecDepth 100000
namespace Internal
open PySem PySem.Spec PyProof.Rows
end Internal

set_option Elab.async false
set_option linter.all false
set_option maxRecDepth 100000
namespace Internal
open PySem PySem.Spec PyProof.Rows
theorem BT.range : bootBuiltins "range" = some (.type "range") := by decide +kernel
section
variable {X : Cx}
theorem flat_ints : ∀ ns : List Int, (ns.map V.int).all flatV = true
  | [] => rfl
  | n :: ns => by rw [List.map_cons, List.all_cons, flat_ints ns]; rfl
noncomputable def rIndex : V → List V → Hp → VK → Prop := fun x vs H Q => ∃ (l : Addr) (ns : List Int) (k : Int) (j : Nat), x = .ref l ∧ vs = [.int k] ∧ H l = some (.lst (ns.map V.int)) ∧ ns[j]? = some k ∧ (∀ m, m < j → ns[m]? ≠ some k) ∧ ns.length ≤ 100000 ∧ Q (.int j) H
theorem mt_index : MtM X "list.index" rIndex := by
  intro pins s σ H x vs v us Q I rx rv h
  obtain ⟨l, ns, k, j, rfl, rfl, hH, hj, hno, hz, q⟩ := h
  cases rx
  obtain ⟨u, rfl, ru⟩ := rv.one
  obtain ⟨z, its, n, r, hl, e⟩ := I.lstM hH
  have hjl : j < ns.length := (List.getElem?_eq_some_iff.mp hj).1
  have hil : its.length = ns.length := by have := r.length; rw [List.length_map] at this; exact this.symm
  have at' : ∀ m (hm : m < its.length), eqU (.int k) its[m] = (ns[m]'(by omega) == k) := fun m hm => by
    obtain ⟨w, hw, rw'⟩ := r.get (show (ns.map V.int)[m]? = some (.int (ns[m]'(by omega))) by simp [show m < ns.length by omega])
    have : its[m] = w := by
      rw [List.getElem?_eq_getElem hm] at hw; exact Option.some.inj hw
    rw [this, eqU_of rw' rfl]; rfl
  refine call_meets F.slot_list_index ⟨_, e, rfl⟩ F.entry_list_index (F.args_list_index_2 _ _) (SeqAt.list_indexAt l its.toArray n none #[] u (eqU (.int k)) j (by simp; omega) (by omega) ?_ (fun m hm hlt => ?_)) ⟨e, fun y hy => mem_eqAt ru rfl r (flat_ints ns) y (by simpa using hy), ⟨.int j, H, I.tok _, ⟨_, rfl⟩, q⟩⟩
  · have := at' j (by omega)
    simp only [List.getElem_toArray]
    rw [this]
    have e' : ns[j] = k := by rw [List.getElem?_eq_getElem hjl] at hj; exact Option.some.inj hj
    rw [e']; simp
  · have hm' : m < its.length := by simpa using hm
    simp only [List.getElem_toArray]
    rw [at' m hm']
    have : ns[m]'(by omega) ≠ k := fun z => hno m hlt (by rw [List.getElem?_eq_getElem (by omega), z])
    simp [this]
noncomputable def rRange : List V → Hp → VK → Prop := fun vs H Q => ∃ j : Int, vs = [.int j] ∧ ∀ p, H p = none → Q (.ref p) (upd H p (.rng 0 j))
theorem call_rangeV : CallR X (.type "range") rRange := by
  intro pins s σ H xs us Q I r h
  obtain ⟨j, rfl, q⟩ := h
  obtain ⟨u, rfl, t, rfl⟩ := vals1 r
  refine call_range_1 ?_
  have J : Inv X pins σ (upd H s.heap.objs.size (.rng 0 j)) { s with heap := s.heap.push { cls := .type "range", data := .fields #[.int 0 s.toks, .int j t, .int 1 (s.toks + 1)] }, toks := s.toks + 1 + 1 } := I.laid (fun b o e => Heap.get?_push_of_some _ e) (Nat.le_refl _) ⟨_, _, _, Heap.get?_push_size _ rfl⟩
  exact ⟨.ref s.heap.objs.size, _, J, rfl, q _ (I.hok.fresh (Nat.le_refl _))⟩
theorem vec_cons {n : Nat} {f : Nat → Int} : vec (n + 1) f = f 0 :: vec n fun i => f (i + 1) := by unfold vec; rw [List.range_succ_eq_map, List.map_cons, List.map_map]; rfl
theorem vals_of : ∀ {us : List Value} {f : Nat → Int}, (∀ (i : Nat) (v : Value), us[i]? = some v → ∃ t, v = Value.int (f i) t) → Vals ((vec us.length f).map V.int) us
  | [], f, _ => .nil
  | u :: us, f, h => by
    rw [List.length_cons, vec_cons, List.map_cons]
    exact .cons (h 0 u rfl) (vals_of fun i v e => h (i + 1) v e)
noncomputable def rListRng : List V → Hp → VK → Prop := fun vs H Q => ∃ (p : Addr) (j : Int), vs = [.ref p] ∧ H p = some (.rng 0 j) ∧ 0 ≤ j ∧ j ≤ 100000 ∧ ∀ l, H l = none → Q (.ref l) (upd H l (.lst ((vec j.toNat fun i => (i : Int)).map V.int)))
theorem call_list_rng (hc : X.calm = true) : CallR X (.type "list") rListRng := by
  intro pins s σ H xs us Q I r h
  obtain ⟨p, j, rfl, hp, j0, j1, q⟩ := h
  obtain ⟨u, rfl, r1⟩ := vals1 r
  cases r1
  obtain ⟨t, u, v, e⟩ := I.hok p _ hp
  refine call_list_range (n := j.toNat) (I.ok.hd hc) (a := 0) (b := j) (c := 1) (t := t) (u := u) (v := v) e (small_one (by omega) (by omega) (by omega) (by omega)) (by rw [rangeSize_one]; split <;> omega) (by omega) fun h' tk acc c' k e' it => ?_
  have hv : Vals ((vec j.toNat fun i => (i : Int)).map V.int) acc.toList := by
    have := vals_of (us := acc.toList) (f := fun i => (i : Int)) fun i v hv => by
      obtain ⟨t', h'⟩ := it.2 i v (by simpa using hv)
      exact ⟨t', by rw [h']; congr 1; omega⟩
    rw [show acc.toList.length = j.toNat by simpa using it.1] at this
    exact this
  have J : Inv X pins σ (upd H s.heap.objs.size (.lst ((vec j.toNat fun i => (i : Int)).map V.int))) { s with heap := h', toks := tk } := I.laid k (Nat.le_refl _) ⟨by rw [List.length_map, vec_len]; exact small_le (by omega), acc.toList, c', hv, e'⟩
  exact ⟨.ref s.heap.objs.size, _, J, rfl, q _ (I.hok.fresh (Nat.le_refl _))⟩
end
section
variable {H : Hp} {Q : VK} {K : PySem.W.Frag}
theorem in_ints {i : Int} : ∀ ns : List Int, inV (.int i) (ns.map V.int) = decide (i ∈ ns)
  | [] => by simp [inV]
  | n :: ns => by
    have ih := in_ints (i := i) ns
    unfold inV at ih ⊢
    rw [List.map_cons, List.any_cons, ih]
    show ((n == i) || _) = _
    by_cases h : n = i
    · subst h; simp
    · have : ¬ i = n := fun z => h z.symm
      simp [h, this]
theorem x_in {a : Addr} {ns : List Int} {i : Int} (h : SqL K H a (ns.map V.int)) (q : Q (.bl (decide (i ∈ ns))) H) : rIn K false (.int i) (.ref a) H Q :=
  ⟨a, _, rfl, .inl h, rfl, flat_ints ns, by rw [if_neg Bool.false_ne_true, in_ints]; exact q⟩
theorem x_notIn {a : Addr} {ns : List Int} {i : Int} (h : SqL K H a (ns.map V.int)) (q : Q (.bl (!decide (i ∈ ns))) H) : rIn K true (.int i) (.ref a) H Q :=
  ⟨a, _, rfl, .inl h, rfl, flat_ints ns, by rw [if_pos rfl, in_ints]; exact q⟩
theorem x_rangeN {j : Int} (q : ∀ p H', H p = none → Same H H' → H' p = some (.rng 0 j) → Q (.ref p) H') : rRange [.int j] H Q := ⟨j, rfl, fun p hp => q p _ hp (Same.new hp _) upd_same⟩
theorem x_listRng {p : Addr} {j : Int} (h : H p = some (.rng 0 j)) (j0 : 0 ≤ j) (j1 : j ≤ 100000) (q : ∀ l H', H l = none → Same H H' → H' l = some (.lst ((vec j.toNat fun i => (i : Int)).map V.int)) → Q (.ref l) H') : rListRng [.ref p] H Q := ⟨p, j, rfl, h, j0, j1, fun l hl => q l _ hl (Same.new hl _) upd_same⟩
theorem x_index {l : Addr} {ns : List Int} {k : Int} {j : Nat} (h : H l = some (.lst (ns.map V.int))) (hj : ns[j]? = some k) (hno : ∀ m, m < j → ns[m]? ≠ some k) (hz : ns.length ≤ 100000) (q : Q (.int j) H) : rIndex (.ref l) [.int k] H Q := ⟨l, ns, k, j, rfl, rfl, h, hj, hno, hz, q⟩
end
noncomputable def optV : Option Nat → V
  | none => .non
  | some i => .int i
noncomputable def optL (n : Nat) (w : Nat → Option Nat) : List V := (List.range n).map fun m => optV (w m)
theorem optL_len {n : Nat} {w : Nat → Option Nat} : (optL n w).length = n := by simp [optL]
theorem optL_get {n i : Nat} {w : Nat → Option Nat} (h : i < n) : (optL n w)[i]? = some (optV (w i)) := by simp [optL, h]
theorem optL_congr {n : Nat} {w v : Nat → Option Nat} (h : ∀ i, i < n → w i = v i) : optL n w = optL n v := by
  unfold optL; exact List.map_congr_left fun i hi => by rw [h i (List.mem_range.mp hi)]
theorem optL_set {n j : Nat} {w : Nat → Option Nat} {o : Option Nat} : (optL n w).set j (optV o) = optL n fun m => if m = j then o else w m := by
  refine List.ext_getElem? fun i => ?_
  rw [List.getElem?_set]
  by_cases hi : i < n
  · rw [optL_get hi, optL_get hi, optL_len]
    by_cases e : j = i
    · subst e; simp [hi]
    · rw [if_neg e, if_neg (Ne.symm e)]
  · have h2 : ∀ v, (optL n v)[i]? = none := fun v => by rw [List.getElem?_eq_none_iff, optL_len]; omega
    rw [h2, h2, optL_len]
    by_cases e : j = i
    · subst e; simp [hi]
    · rw [if_neg e]
theorem optL_rep {n : Nat} : List.replicate n V.non = optL n fun _ => none := by
  refine List.ext_getElem? fun i => ?_
  rw [List.getElem?_replicate]
  by_cases hi : i < n
  · rw [optL_get hi, if_pos hi]; rfl
  · rw [if_neg hi, List.getElem?_eq_none (by rw [optL_len]; omega)]
theorem bls_rep {n : Nat} {b : Bool} : List.replicate n (V.bl b) = bls n fun _ => b := by
  refine List.ext_getElem? fun i => ?_
  rw [List.getElem?_replicate]
  by_cases hi : i < n
  · rw [bls_get hi, if_pos hi]
  · rw [if_neg hi, List.getElem?_eq_none (by rw [bls_len]; omega)]
noncomputable def useful (g : Nat → Bool) (m : Nat) (d : Due) : Prop := d.p = (m : Int) ∧ 0 < d.a ∧ g d.p.toNat = true ∧ g d.q.toNat = true
noncomputable instance {g : Nat → Bool} {m : Nat} {d : Due} : Decidable (useful g m d) := by unfold useful; infer_instance
noncomputable def onwF (ds : List Due) (g : Nat → Bool) : Nat → Nat → Option Nat
  | 0, _ => none
  | i + 1, m => match ds[i]? with
    | some d => if useful g m d then some i else onwF ds g i m
    | none => onwF ds g i m
theorem onwF_succ {ds : List Due} {g : Nat → Bool} {i : Nat} {d : Due} (h : ds[i]? = some d) (m : Nat) : onwF ds g (i + 1) m = if useful g m d then some i else onwF ds g i m := by rw [onwF, h]
theorem onwF_some {ds : List Due} {g : Nat → Bool} {m j : Nat} : ∀ {i : Nat}, onwF ds g i m = some j → ∃ d, ds[j]? = some d ∧ useful g m d
  | 0, h => nomatch h
  | i + 1, h => by
    rw [onwF] at h
    cases e : ds[i]? with
    | none => rw [e] at h; exact onwF_some h
    | some d =>
      rw [e] at h
      simp only at h
      split at h
      · rename_i u; cases h; exact ⟨d, e, u⟩
      · exact onwF_some h
theorem onwF_none {ds : List Due} {g : Nat → Bool} {m : Nat} : ∀ {i : Nat}, onwF ds g i m = none → ∀ k d, k < i → ds[k]? = some d → ¬ useful g m d
  | 0, _, _, _, hk, _ => absurd hk (Nat.not_lt_zero _)
  | i + 1, h, k, d, hk, hd => by
    rw [onwF] at h
    by_cases e : k = i
    · subst e
      rw [hd] at h
      simp only at h
      split at h
      · cases h
      · assumption
    · cases e' : ds[i]? with
      | none => rw [e'] at h; exact onwF_none h k d (by omega) hd
      | some d' =>
        rw [e'] at h
        simp only at h
        split at h
        · cases h
        · exact onwF_none h k d (by omega) hd
theorem x_repOpt {H : Hp} {Q : VK} {l : Addr} {k : Int} (h : H l = some (.lst [.non])) (h0 : 0 ≤ k) (h1 : k ≤ 100000) (q : ∀ p H', H p = none → Same H H' → H' p = some (.lst (optL k.toNat fun _ => none)) → Q (.ref p) H') : rMulU (.ref l) (.int k) H Q :=
  x_rep0 h h0 h1 fun p H' a b c => q p H' a b (by rw [c, optL_rep])
theorem x_repBl {H : Hp} {Q : VK} {l : Addr} {k : Int} {c : Bool} (h : H l = some (.lst [.bl c])) (h0 : 0 ≤ k) (h1 : k ≤ 100000) (q : ∀ p H', H p = none → Same H H' → H' p = some (.lst (bls k.toNat fun _ => c)) → Q (.ref p) H') : rMulU (.ref l) (.int k) H Q :=
  x_rep0 h h0 h1 fun p H' a b c => q p H' a b (by rw [c, bls_rep])
noncomputable def spAmong (K : PySem.W.Frag) : Sp := fun vs H Q _ => ∃ (a b : Addr) (ds : List Due) (n : Nat) (g : Nat → Bool), vs = [.ref a, .ref b] ∧ IsSh K H a ds ∧ SqL K H b (bls n g) ∧ n ≤ 100 ∧ ds.length ≤ 1000 ∧ (∀ d ∈ ds, DueOk n d) ∧ ∀ p H', H p = none → Same H H' → H' p = some (.lst (optL n (onwF ds g ds.length))) → Q (.ref p) H'
theorem spAmong_i {K : PySem.W.Frag} {a b : Addr} {ds : List Due} {n : Nat} {g : Nat → Bool} {H : Hp} {Q : VK} {E : XK} (h : IsSh K H a ds) (h' : SqL K H b (bls n g)) (hn : n ≤ 100) (hl : ds.length ≤ 1000) (hd : ∀ d ∈ ds, DueOk n d) (q : ∀ p H', H p = none → Same H H' → H' p = some (.lst (optL n (onwF ds g ds.length))) → Q (.ref p) H') : spAmong K [.ref a, .ref b] H Q E := ⟨a, b, ds, n, g, rfl, h, h', hn, hl, hd, q⟩
theorem x_isNone {A : Prop} (q : A) : V.non = V.non ∧ A := ⟨rfl, q⟩
theorem optV_non {o : Option Nat} : decide (optV o = V.non) = o.isNone := by cases o with | none => rfl | some i => simp [optV]
noncomputable def goF (ds : List Due) : Nat → Nat → Bool
  | 0, _ => true
  | t + 1, m => (onwF ds (goF ds t) ds.length m).isSome
noncomputable def wayF (ds : List Due) : Nat → Nat → Option Nat
  | 0, _ => none
  | t + 1, m => onwF ds (goF ds t) ds.length m
noncomputable def spWays (K : PySem.W.Frag) : Sp := fun vs H Q _ => ∃ (n : Int) (a : Addr) (ds : List Due), vs = [.int n, .ref a] ∧ IsSh K H a ds ∧ 1 ≤ n ∧ n ≤ 100 ∧ ds.length ≤ 1000 ∧ (∀ d ∈ ds, DueOk n d) ∧ ∀ p H', H p = none → Same H H' → H' p = some (.lst (optL n.toNat (wayF ds n.toNat))) → Q (.ref p) H'
theorem spWays_i {K : PySem.W.Frag} {n : Int} {a : Addr} {ds : List Due} {H : Hp} {Q : VK} {E : XK} (h : IsSh K H a ds) (h0 : 1 ≤ n) (h1 : n ≤ 100) (hl : ds.length ≤ 1000) (hd : ∀ d ∈ ds, DueOk n d) (q : ∀ p H', H p = none → Same H H' → H' p = some (.lst (optL n.toNat (wayF ds n.toNat))) → Q (.ref p) H') : spWays K [.int n, .ref a] H Q E := ⟨n, a, ds, rfl, h, h0, h1, hl, hd, q⟩
theorem nodup_le : ∀ (n : Nat) (L : List Nat), L.Nodup → (∀ x ∈ L, x < n) → L.length ≤ n
  | 0, L, _, h => by
    cases L with
    | nil => exact Nat.le_refl _
    | cons x xs => exact absurd (h x (by simp)) (Nat.not_lt_zero _)
  | n + 1, L, nd, h => by
    have h1 : (L.erase n).length ≤ n := nodup_le n (L.erase n) (nd.erase n) fun x hx => by
      have hm := nd.mem_erase_iff.mp hx
      have := h x hm.2
      have := hm.1
      omega
    have h2 := List.length_erase (a := n) (l := L)
    split at h2 <;> omega
theorem chain_of {ds : List Due} {n : Nat} {f : Nat → Int} (hd : ∀ d ∈ ds, DueOk n d) (hf : ∀ d ∈ ds, 0 < d.a → f d.p.toNat < f d.q.toNat) : ∀ (t m : Nat), m < n → goF ds t m = true → ∃ L : List Nat, L.length = t + 1 ∧ L.Nodup ∧ (∀ x ∈ L, x < n ∧ f m ≤ f x)
  | 0, m, hm, _ => ⟨[m], rfl, by simp, fun x hx => by rw [List.mem_singleton.mp hx]; exact ⟨hm, Int.le_refl _⟩⟩
  | t + 1, m, hm, h => by
    cases e : onwF ds (goF ds t) ds.length m with
    | none => rw [goF, e] at h; cases h
    | some j =>
      obtain ⟨d, hdj, u1, u2, u3, u4⟩ := onwF_some e
      have dm := List.mem_of_getElem? hdj
      obtain ⟨p0, p1, q0, q1, _⟩ := hd d dm
      have lt := hf d dm u2
      rw [show d.p.toNat = m by omega] at lt
      obtain ⟨L, hl, hn, hx⟩ := chain_of hd hf t d.q.toNat (by omega) u4
      refine ⟨m :: L, by rw [List.length_cons, hl], List.nodup_cons.mpr ⟨fun z => ?_, hn⟩, fun x hx' => ?_⟩
      · have := (hx m z).2; omega
      · rcases List.mem_cons.mp hx' with z | z
        · rw [z]; exact ⟨hm, Int.le_refl _⟩
        · have := hx x z; exact ⟨this.1, by omega⟩
theorem way_none {ds : List Due} {n : Nat} {f : Nat → Int} (hn : 1 ≤ n) (hd : ∀ d ∈ ds, DueOk n d) (hf : ∀ d ∈ ds, 0 < d.a → f d.p.toNat < f d.q.toNat) (m : Nat) (hm : m < n) : wayF ds n m = none := by
  obtain ⟨t, rfl⟩ : ∃ t, n = t + 1 := ⟨n - 1, by omega⟩
  cases e : wayF ds (t + 1) m with
  | none => rfl
  | some j =>
    have g : goF ds (t + 1) m = true := by rw [wayF] at e; rw [goF, e]; rfl
    obtain ⟨L, hl, hnd, hx⟩ := chain_of hd hf (t + 1) m hm g
    have := nodup_le (t + 1) L hnd fun x hx' => (hx x hx').1
    omega
set_option genInjectivity false in
set_option genSizeOf false in
structure Lined (n : Nat) (ds : List Due) (ls : List Int) : Prop where
  nd : ls.Nodup
  lt : ∀ x ∈ ls, 0 ≤ x ∧ x < n
  up : ∀ d ∈ ds, 0 < d.a → ∀ j : Nat, ls[j]? = some d.q → ∃ i : Nat, i < j ∧ ls[i]? = some d.p
theorem x_eqNilF {K : PySem.W.Frag} {H : Hp} {Q : VK} {a b : Addr} {ns : List Int} (h1 : SqL K H a (ns.map V.int)) (h2 : SqL K H b []) (hne : ns ≠ []) (q : Q (.bl false) H) : rEqU K (.ref a) (.ref b) H Q := by
  refine x_eqD (.lst h1 (rep_ints ns)) (.lst h2 .nil) (by rw [depth_list, depth_ints]; omega) ?_
  cases ns with
  | nil => exact absurd rfl hne
  | cons n ns =>
    have : PyData.eqv (.list ((n :: ns).map PyData.int)) (.list []) = false := by simp [PyData.eqv, PyData.eqvAll]
    rw [this]; exact q
theorem first_at {ls : List Int} {x : Int} {j : Nat} (nd : ls.Nodup) (h : ls[j]? = some x) : ∀ m, m < j → ls[m]? ≠ some x := fun m hm e => by
  obtain ⟨hj, ej⟩ := List.getElem?_eq_some_iff.mp h
  obtain ⟨hm', em⟩ := List.getElem?_eq_some_iff.mp e
  have := (List.getElem_inj nd).mp (em.trans ej.symm)
  omega
end Internal

set_option Elab.async false
set_option linter.all false
set_option maxRecDepth 100000
namespace Internal
open PySem
theorem onwF_congr {ds : List Due} {n : Nat} {g g' : Nat → Bool} (hd : ∀ d ∈ ds, DueOk n d) (h : ∀ m, m < n → g m = g' m) (m : Nat) : ∀ i, onwF ds g i m = onwF ds g' i m
  | 0 => rfl
  | i + 1 => by
    rw [onwF, onwF]
    cases e : ds[i]? with
    | none => exact onwF_congr hd h m i
    | some d =>
      obtain ⟨p0, p1, q0, q1, _⟩ := hd d (List.mem_of_getElem? e)
      have e1 : useful g m d ↔ useful g' m d := by unfold useful; rw [h d.p.toNat (by omega), h d.q.toNat (by omega)]
      simp only
      by_cases u : useful g m d
      · rw [if_pos u, if_pos (e1.mp u)]
      · rw [if_neg u, if_neg (fun z => u (e1.mpr z))]; exact onwF_congr hd h m i
theorem goF_down {ds : List Due} {t m : Nat} (h : goF ds (t + 1) m = true) : goF ds t m = true := by
  rw [goF] at h
  cases e : onwF ds (goF ds t) ds.length m with
  | none => rw [e] at h; cases h
  | some j =>
    obtain ⟨d, _, u1, _, u3, _⟩ := onwF_some e
    rwa [show d.p.toNat = m by omega] at u3
noncomputable def cntG (n : Nat) (g : Nat → Bool) : Nat := ((List.range n).filter g).length
theorem cntG_succ {n : Nat} {g : Nat → Bool} : cntG (n + 1) g = cntG n g + if g n = true then 1 else 0 := by
  unfold cntG
  rw [List.range_succ, List.filter_append, List.length_append]
  congr 1
  by_cases h : g n = true
  · rw [if_pos h]; simp [h]
  · rw [if_neg h]; simp [h]
theorem cntG_le {n : Nat} {p q : Nat → Bool} (h : ∀ m, m < n → q m = true → p m = true) : cntG n q ≤ cntG n p := by
  induction n with
  | zero => exact Nat.le_refl _
  | succ n ih =>
    have := ih fun m hm => h m (by omega)
    have hn := h n (by omega)
    rw [cntG_succ, cntG_succ]
    by_cases e : q n = true
    · rw [if_pos e, if_pos (hn e)]; omega
    · rw [if_neg e]; split <;> omega
theorem cntG_lt {n : Nat} {p q : Nat → Bool} (h : ∀ m, m < n → q m = true → p m = true) (hx : ∃ m, m < n ∧ p m = true ∧ q m = false) : cntG n q < cntG n p := by
  induction n with
  | zero => obtain ⟨m, hm, _⟩ := hx; omega
  | succ n ih =>
    obtain ⟨m, hm, h1, h2⟩ := hx
    rw [cntG_succ, cntG_succ]
    by_cases e : m = n
    · subst e
      have := cntG_le (n := m) fun k hk => h k (by omega)
      rw [if_pos h1, if_neg (by rw [h2]; decide)]; omega
    · have := ih (fun k hk => h k (by omega)) ⟨m, by omega, h1, h2⟩
      have hn := h n (by omega)
      by_cases e : q n = true
      · rw [if_pos e, if_pos (hn e)]; omega
      · rw [if_neg e]; split <;> omega
theorem cntG_all {n : Nat} : cntG n (fun _ => true) = n := by
  induction n with
  | zero => rfl
  | succ n ih => rw [cntG_succ, ih, if_pos rfl]
theorem goF_rest {ds : List Due} {n : Nat} (hd : ∀ d ∈ ds, DueOk n d) : ∀ t, (∀ m, m < n → goF ds t m = goF ds (t + 1) m) ∨ cntG n (goF ds (t + 1)) + (t + 1) ≤ n
  | 0 => by
    by_cases s : ∀ m, m < n → goF ds 0 m = goF ds 1 m
    · exact .inl s
    · refine .inr ?_
      have : cntG n (goF ds 1) < cntG n (goF ds 0) := cntG_lt (fun m _ => goF_down) (Classical.byContradiction fun z => s fun m hm => by
        cases e : goF ds 1 m with
        | true => exact goF_down e
        | false => exact absurd ⟨m, hm, rfl, e⟩ z)
      have e0 : cntG n (goF ds 0) = n := cntG_all
      show cntG n (goF ds 1) + 1 ≤ n
      omega
  | t + 1 => by
    rcases goF_rest hd t with s | c
    · refine .inl fun m hm => ?_
      show (onwF ds (goF ds t) ds.length m).isSome = (onwF ds (goF ds (t + 1)) ds.length m).isSome
      rw [onwF_congr hd s m ds.length]
    · by_cases s : ∀ m, m < n → goF ds (t + 1) m = goF ds (t + 2) m
      · exact .inl s
      · refine .inr ?_
        have : cntG n (goF ds (t + 2)) < cntG n (goF ds (t + 1)) := cntG_lt (fun m _ => goF_down) (Classical.byContradiction fun z => s fun m hm => by
          cases e : goF ds (t + 2) m with
          | true => exact goF_down e
          | false =>
            cases e' : goF ds (t + 1) m with
            | false => rfl
            | true => exact absurd ⟨m, hm, e', e⟩ z)
        show cntG n (goF ds (t + 2)) + (t + 2) ≤ n
        omega
theorem way_on {ds : List Due} {n m j : Nat} (hd : ∀ d ∈ ds, DueOk n d) (hm : m < n) (h : wayF ds n m = some j) : ∃ d, ds[j]? = some d ∧ d.p = (m : Int) ∧ 0 < d.a ∧ ∃ k, wayF ds n d.q.toNat = some k := by
  obtain ⟨t, rfl⟩ : ∃ t, n = t + 1 := ⟨n - 1, by omega⟩
  have hg : goF ds (t + 1) m = true := by rw [wayF] at h; rw [goF, h]; rfl
  obtain ⟨d, hdj, u1, u2, u3, u4⟩ := onwF_some (show onwF ds (goF ds t) ds.length m = some j from h)
  obtain ⟨p0, p1, q0, q1, _⟩ := hd d (List.mem_of_getElem? hdj)
  refine ⟨d, hdj, u1, u2, ?_⟩
  have st : ∀ m, m < t + 1 → goF ds t m = goF ds (t + 1) m := by
    rcases goF_rest hd t with s | c
    · exact s
    · have : 0 < cntG (t + 1) (goF ds (t + 1)) := by
        have e0 : cntG (t + 1) (fun _ => false) = 0 := by unfold cntG; simp
        have := cntG_lt (n := t + 1) (p := goF ds (t + 1)) (q := fun _ => false) (fun _ _ z => by cases z) ⟨m, hm, hg, rfl⟩
        omega
      omega
  have hq : goF ds (t + 1) d.q.toNat = true := by rw [← st _ (by omega)]; exact u4
  have hq' : (wayF ds (t + 1) d.q.toNat).isSome = true := hq
  exact Option.isSome_iff_exists.mp hq'
noncomputable def nextM (ds : List Due) (n m : Nat) : Nat := match wayF ds n m with
  | some j => match ds[j]? with
    | some d => d.q.toNat
    | none => 0
  | none => 0
noncomputable def dueOn (ds : List Due) (n m : Nat) : Int := match wayF ds n m with
  | some j => j
  | none => 0
theorem next_ok {ds : List Due} {n m : Nat} (hd : ∀ d ∈ ds, DueOk n d) (hm : m < n) (h : wayF ds n m ≠ none) : ∃ j d, wayF ds n m = some j ∧ ds[j]? = some d ∧ d.p = (m : Int) ∧ 0 < d.a ∧ d.q = (nextM ds n m : Int) ∧ nextM ds n m < n ∧ wayF ds n (nextM ds n m) ≠ none ∧ dueOn ds n m = (j : Int) := by
  cases e : wayF ds n m with
  | none => exact absurd e h
  | some j =>
    obtain ⟨d, hdj, hp, ha, k, hk⟩ := way_on hd hm e
    obtain ⟨p0, p1, q0, q1, _⟩ := hd d (List.mem_of_getElem? hdj)
    have en : nextM ds n m = d.q.toNat := by unfold nextM; rw [e]; simp only; rw [hdj]
    have ed : dueOn ds n m = (j : Int) := by unfold dueOn; rw [e]
    exact ⟨j, d, rfl, hdj, hp, ha, by rw [en]; omega, by rw [en]; omega, by rw [en, hk]; exact Option.some_ne_none k, ed⟩
noncomputable def goL (ds : List Due) (n i : Nat) : List Nat := (List.range i).filter fun m => (wayF ds n m).isSome
theorem goL_succ {ds : List Due} {n i : Nat} : goL ds n (i + 1) = goL ds n i ++ if (wayF ds n i).isSome = true then [i] else [] := by
  unfold goL
  rw [List.range_succ, List.filter_append]
  congr 1
  by_cases h : (wayF ds n i).isSome = true
  · rw [if_pos h]; simp [h]
  · rw [if_neg h]; simp [h]
theorem mem_goL {ds : List Due} {n i m : Nat} : m ∈ goL ds n i ↔ m < i ∧ (wayF ds n m).isSome = true := by unfold goL; simp
set_option genInjectivity false in
set_option genSizeOf false in
structure Walked (ds : List Due) (n : Nat) (ms : List Nat) (x : Nat) : Prop where
  nd : ms.Nodup
  ok : ∀ m ∈ ms, m < n ∧ wayF ds n m ≠ none
  at' : x < n ∧ wayF ds n x ≠ none
  nx : ∀ (i m : Nat), ms[i]? = some m → nextM ds n m = (ms ++ [x])[i + 1]?.getD 0
theorem Walked.step {ds : List Due} {n : Nat} {ms : List Nat} {x : Nat} (hd : ∀ d ∈ ds, DueOk n d) (W : Walked ds n ms x) (hx : x ∉ ms) : Walked ds n (ms ++ [x]) (nextM ds n x) := by
  obtain ⟨j, d, h1, h2, h3, h4, h5, h6, h7, h8⟩ := next_ok hd W.at'.1 W.at'.2
  refine ⟨List.nodup_append.mpr ⟨W.nd, by simp, fun a ha b hb e => hx (by rw [List.mem_singleton] at hb; subst hb; subst e; exact ha)⟩, fun m hm => ?_, ⟨h6, h7⟩, fun i m hm => ?_⟩
  · rcases List.mem_append.mp hm with h | h
    · exact W.ok m h
    · rw [List.mem_singleton.mp h]; exact W.at'
  · by_cases hi : i < ms.length
    · have e := W.nx i m (by rw [List.getElem?_append_left hi] at hm; exact hm)
      rw [e, List.getElem?_append_left (l₁ := ms ++ [x]) (l₂ := [nextM ds n x]) (by rw [List.length_append]; show _ < _ + 1; omega)]
    · have hil : i = ms.length := by
        have := (List.getElem?_eq_some_iff.mp hm).1
        rw [List.length_append] at this
        have : i < ms.length + 1 := this
        omega
      subst hil
      rw [List.getElem?_append_right (Nat.le_refl _), Nat.sub_self] at hm
      cases hm
      rw [List.getElem?_append_right (by rw [List.length_append]; exact Nat.le_refl _)]
      simp
noncomputable def natI (ms : List Nat) : List Int := ms.map fun m : Nat => (m : Int)
theorem natI_app (ms ks : List Nat) : natI (ms ++ ks) = natI ms ++ natI ks := by unfold natI; rw [List.map_append]
theorem natI_mem {ms : List Nat} {x : Nat} : (x : Int) ∈ natI ms ↔ x ∈ ms := by
  unfold natI
  rw [List.mem_map]
  exact ⟨fun ⟨y, hy, e⟩ => by rwa [show x = y by omega], fun h => ⟨x, h, rfl⟩⟩
theorem natI_len {ms : List Nat} : (natI ms).length = ms.length := by unfold natI; rw [List.length_map]
theorem natI_get {ms : List Nat} {i m : Nat} (h : ms[i]? = some m) : (natI ms)[i]? = some (m : Int) := by unfold natI; rw [List.getElem?_map, h]; rfl
noncomputable def RingOf (ds : List Due) (n : Nat) (rs : List Int) : Prop := (rs = [] ∧ ∀ m, m < n → wayF ds n m = none) ∨ ∃ ms : List Nat, ms ≠ [] ∧ ms.Nodup ∧ (∀ m ∈ ms, m < n ∧ wayF ds n m ≠ none) ∧ rs = ms.map (dueOn ds n) ∧ ∀ (i m : Nat), ms[i]? = some m → nextM ds n m = ms[(i + 1) % ms.length]?.getD 0
theorem Walked.ring {ds : List Due} {n : Nat} {ms : List Nat} {x j : Nat} (W : Walked ds n ms x) (hj : ms[j]? = some x) : RingOf ds n ((ms.drop j).map (dueOn ds n)) := by
  have hjl : j < ms.length := (List.getElem?_eq_some_iff.mp hj).1
  refine .inr ⟨ms.drop j, fun z => ?_, W.nd.sublist (List.drop_sublist ..), fun m hm => W.ok m (List.mem_of_mem_drop hm), rfl, fun i m hm => ?_⟩
  · have := congrArg List.length z
    rw [List.length_drop, List.length_nil] at this; omega
  · rw [List.getElem?_drop] at hm
    have hl := (List.getElem?_eq_some_iff.mp hm).1
    rw [W.nx (j + i) m hm, List.length_drop]
    by_cases e : j + i + 1 < ms.length
    · rw [List.getElem?_append_left e, Nat.mod_eq_of_lt (by omega), List.getElem?_drop]; rfl
    · have e1 : j + i + 1 = ms.length := by omega
      rw [e1, List.getElem?_append_right (Nat.le_refl _), Nat.sub_self, show i + 1 = ms.length - j by omega, Nat.mod_self, List.getElem?_drop, Nat.add_zero, hj]; rfl
noncomputable def spRing (K : PySem.W.Frag) : Sp := fun vs H Q _ => ∃ (n : Int) (a : Addr) (ds : List Due), vs = [.int n, .ref a] ∧ IsSh K H a ds ∧ 1 ≤ n ∧ n ≤ 100 ∧ ds.length ≤ 1000 ∧ (∀ d ∈ ds, DueOk n d) ∧ ∀ p H' rs, H p = none → Same H H' → H' p = some (.lst (List.map V.int rs)) → RingOf ds n.toNat rs → Q (.ref p) H'
theorem spRing_i {K : PySem.W.Frag} {n : Int} {a : Addr} {ds : List Due} {H : Hp} {Q : VK} {E : XK} (h : IsSh K H a ds) (h0 : 1 ≤ n) (h1 : n ≤ 100) (hl : ds.length ≤ 1000) (hd : ∀ d ∈ ds, DueOk n d) (q : ∀ p H' rs, H p = none → Same H H' → H' p = some (.lst (List.map V.int rs)) → RingOf ds n.toNat rs → Q (.ref p) H') : spRing K [.int n, .ref a] H Q E := ⟨n, a, ds, rfl, h, h0, h1, hl, hd, q⟩
theorem cut_from {ms : List Int} {j : Nat} (h : j ≤ ms.length) : cutV (ms.map V.int) (some (j : Int)) none = (ms.drop j).map V.int := by
  unfold cutV
  rw [HT.sIx_nat, HT.sIx_none, List.length_map, Nat.min_eq_left h, ← List.map_drop, List.take_of_length_le (by rw [List.length_map, List.length_drop]; exact Nat.le_refl _)]
end Internal

set_option Elab.async false
set_option linter.all false
set_option maxRecDepth 100000
namespace Internal
open PySem
noncomputable def swapD (d : Due) : Due := ⟨d.q, d.p, d.r, d.a⟩
noncomputable def revS (ds : List Due) : List Due := ds.map swapD
theorem rev_rev (ds : List Due) : revS (revS ds) = ds := by
  unfold revS
  rw [List.map_map, show swapD ∘ swapD = id from rfl, List.map_id]
theorem rev_ok {n : Int} {ds : List Due} (hd : ∀ d ∈ ds, DueOk n d) : ∀ d ∈ revS ds, DueOk n d := by
  intro d h
  obtain ⟨c, hc, rfl⟩ := List.mem_map.mp h
  obtain ⟨p0, p1, q0, q1, pq, r0, r1, a0, a1⟩ := hd c hc
  exact ⟨q0, q1, p0, p1, fun z => pq z.symm, r0, r1, a0, a1⟩
noncomputable def Closed (ds : List Due) (S : Nat → Prop) : Prop := ∀ m, S m → ∃ d ∈ ds, d.p = (m : Int) ∧ 0 < d.a ∧ S d.q.toNat
theorem goF_step {ds : List Due} {t m : Nat} : goF ds (t + 1) m = true ↔ ∃ d ∈ ds, d.p = (m : Int) ∧ 0 < d.a ∧ goF ds t m = true ∧ goF ds t d.q.toNat = true := by
  rw [goF]
  constructor
  · intro h
    cases e : onwF ds (goF ds t) ds.length m with
    | none => rw [e] at h; cases h
    | some j =>
      obtain ⟨d, hd, u1, u2, u3, u4⟩ := onwF_some e
      rw [show d.p.toNat = m by omega] at u3
      exact ⟨d, List.mem_of_getElem? hd, u1, u2, u3, u4⟩
  · rintro ⟨d, hd, u1, u2, u3, u4⟩
    cases e : onwF ds (goF ds t) ds.length m with
    | some j => rfl
    | none =>
      obtain ⟨k, hk, ek⟩ := List.getElem_of_mem hd
      exact absurd ⟨u1, u2, by rw [show d.p.toNat = m by omega]; exact u3, u4⟩ (onwF_none e k d hk (by rw [List.getElem?_eq_getElem hk, ek]))
theorem goF_closed {ds : List Due} {S : Nat → Prop} (h : Closed ds S) : ∀ t m, S m → goF ds t m = true
  | 0, _, _ => rfl
  | t + 1, m, s => by
    obtain ⟨d, hd, u1, u2, u3⟩ := h m s
    exact goF_step.mpr ⟨d, hd, u1, u2, goF_closed h t m s, goF_closed h t _ u3⟩
theorem way_go {ds : List Due} {n m : Nat} (hn : 1 ≤ n) : wayF ds n m ≠ none ↔ goF ds n m = true := by
  obtain ⟨t, rfl⟩ : ∃ t, n = t + 1 := ⟨n - 1, by omega⟩
  show _ ↔ (wayF ds (t + 1) m).isSome = true
  cases wayF ds (t + 1) m <;> simp
theorem Walked.comes {ds : List Due} {n : Nat} (hd : ∀ d ∈ ds, DueOk n d) : ∀ (k : Nat) (ms : List Nat) (x : Nat), n < ms.length + k → Walked ds n ms x → ∃ (ms' : List Nat) (x' j : Nat), Walked ds n ms' x' ∧ ms'[j]? = some x'
  | 0, ms, x, hk, W => by
    have := nodup_le n ms W.nd fun y hy => (W.ok y hy).1
    omega
  | k + 1, ms, x, hk, W => by
    by_cases hx : x ∈ ms
    · obtain ⟨i, hi, ei⟩ := List.getElem_of_mem hx
      exact ⟨ms, x, i, W, by rw [List.getElem?_eq_getElem hi, ei]⟩
    · exact Walked.comes hd k _ _ (by rw [List.length_append]; show n < _ + 1 + k; omega) (W.step hd hx)
set_option genInjectivity false in
set_option genSizeOf false in
structure Round (ds : List Due) (n : Nat) (ms : List Nat) : Prop where
  ne : ms ≠ []
  nd : ms.Nodup
  ok : ∀ m ∈ ms, m < n ∧ wayF ds n m ≠ none
  nx : ∀ (i m : Nat), ms[i]? = some m → nextM ds n m = ms[(i + 1) % ms.length]?.getD 0
theorem RingOf.cases {ds : List Due} {n : Nat} {rs : List Int} (h : RingOf ds n rs) : (rs = [] ∧ ∀ m, m < n → wayF ds n m = none) ∨ ∃ ms, Round ds n ms ∧ rs = ms.map (dueOn ds n) := by
  rcases h with h | ⟨ms, h1, h2, h3, h4, h5⟩
  · exact .inl h
  · exact .inr ⟨ms, ⟨h1, h2, h3, h5⟩, h4⟩
theorem round_of {ds : List Due} {n m : Nat} (hd : ∀ d ∈ ds, DueOk n d) (hm : m < n) (h : wayF ds n m ≠ none) : ∃ ms, Round ds n ms := by
  obtain ⟨ms, x, j, W, hj⟩ := Walked.comes hd (n + 1) [] m (by show n < 0 + (n + 1); omega) ⟨List.nodup_nil, (fun _ h => nomatch h), ⟨hm, h⟩, fun i m h => nomatch h⟩
  rcases (W.ring hj).cases with ⟨_, z⟩ | ⟨ms, r, _⟩
  · exact absurd (z x W.at'.1) W.at'.2
  · exact ⟨ms, r⟩
theorem Round.back {ds : List Due} {n : Nat} {ms : List Nat} (R : Round ds n ms) {m : Nat} (h : m ∈ ms) : ∃ m' ∈ ms, nextM ds n m' = m := by
  obtain ⟨i, hi, ei⟩ := List.getElem_of_mem h
  have ei' : ms[i]? = some m := by rw [List.getElem?_eq_getElem hi, ei]
  have key : ∃ j, j < ms.length ∧ (j + 1) % ms.length = i := by
    by_cases e : i = 0
    · exact ⟨ms.length - 1, by omega, by rw [show ms.length - 1 + 1 = ms.length by omega, Nat.mod_self, e]⟩
    · exact ⟨i - 1, by omega, by rw [show i - 1 + 1 = i by omega, Nat.mod_eq_of_lt hi]⟩
  obtain ⟨j, hj, ej⟩ := key
  obtain ⟨m', hm'⟩ := lt_some hj
  exact ⟨m', List.mem_of_getElem? hm', by rw [R.nx j m' hm', ej, ei']; rfl⟩
theorem Round.closed {ds : List Due} {n : Nat} {ms : List Nat} (hd : ∀ d ∈ ds, DueOk n d) (R : Round ds n ms) : Closed (revS ds) fun m => m ∈ ms := by
  intro m hm
  obtain ⟨m', h', e⟩ := R.back hm
  obtain ⟨j, d, w1, w2, w3, w4, w5, w6, w7, w8⟩ := next_ok hd (R.ok m' h').1 (R.ok m' h').2
  refine ⟨swapD d, List.mem_map.mpr ⟨d, List.mem_of_getElem? w2, rfl⟩, by show d.q = _; rw [w5, e], w4, ?_⟩
  show d.p.toNat ∈ ms
  rwa [show d.p.toNat = m' by omega]
theorem way_rev {ds : List Due} {n : Nat} (hd : ∀ d ∈ ds, DueOk n d) {m : Nat} (hm : m < n) (h : wayF ds n m ≠ none) : ∃ m, m < n ∧ goF (revS ds) n m = true := by
  obtain ⟨ms, R⟩ := round_of hd hm h
  obtain ⟨x, hx⟩ := List.exists_mem_of_ne_nil _ R.ne
  exact ⟨x, (R.ok x hx).1, goF_closed (R.closed hd) n x hx⟩
theorem rev_way {ds : List Due} {n : Nat} (hd : ∀ d ∈ ds, DueOk n d) {m : Nat} (hm : m < n) (h : goF (revS ds) n m = true) : ∃ m, m < n ∧ wayF ds n m ≠ none := by
  obtain ⟨x, hx, g⟩ := way_rev (rev_ok hd) hm ((way_go (by omega)).mpr h)
  rw [rev_rev] at g
  exact ⟨x, hx, (way_go (by omega)).mpr g⟩
noncomputable def restL (ds : List Due) (n t : Nat) : List Nat := (List.range n).filter fun m => goF (revS ds) t m
theorem restL_len {ds : List Due} {n t : Nat} : (restL ds n t).length ≤ n := by
  have := List.length_filter_le (fun m => goF (revS ds) t m) (List.range n)
  rwa [List.length_range] at this
noncomputable def paidF (ds : List Due) (rs : List Int) (m : Int) : Bool := ds.any fun d => decide (0 < d.a ∧ d.q = m ∧ d.p ∈ rs)
theorem paidF_iff {ds : List Due} {rs : List Int} {m : Int} : paidF ds rs m = true ↔ ∃ d ∈ ds, 0 < d.a ∧ d.q = m ∧ d.p ∈ rs := by unfold paidF; simp
theorem restL_zero {ds : List Due} {n : Nat} : natI (restL ds n 0) = vec n fun i => (i : Int) := by
  unfold restL natI
  rw [show (fun m => goF (revS ds) 0 m) = fun _ => true from rfl, List.filter_eq_self.mpr (fun a _ => rfl)]
  rfl
theorem restL_succ {ds : List Due} {n t : Nat} (hd : ∀ d ∈ ds, DueOk n d) : restL ds n (t + 1) = (restL ds n t).filter fun m : Nat => paidF ds (natI (restL ds n t)) (m : Int) := by
  unfold restL
  rw [List.filter_filter]
  refine List.filter_congr fun m hm => ?_
  rw [Bool.eq_iff_iff, goF_step, Bool.and_eq_true, paidF_iff]
  constructor
  · rintro ⟨d, h, u1, u2, u3, u4⟩
    obtain ⟨c, hc, rfl⟩ := List.mem_map.mp h
    obtain ⟨p0, p1, q0, q1, _⟩ := hd c hc
    refine ⟨⟨c, hc, u2, u1, ?_⟩, u3⟩
    rw [show c.p = (c.p.toNat : Int) by omega]
    exact natI_mem.mpr (List.mem_filter.mpr ⟨List.mem_range.mpr (by omega), u4⟩)
  · rintro ⟨⟨c, hc, u1, u2, u3⟩, u4⟩
    obtain ⟨p0, p1, q0, q1, _⟩ := hd c hc
    rw [show c.p = (c.p.toNat : Int) by omega] at u3
    exact ⟨swapD c, List.mem_map.mpr ⟨c, hc, rfl⟩, u2, u1, u4, (List.mem_filter.mp (natI_mem.mp u3)).2⟩
noncomputable def Left (es : List Due) (ls : List Int) (ds : List Due) : Prop := ls.length = es.length ∧ ds = withF es fun i => ls.getD i 0
theorem Left.get {es : List Due} {ls : List Int} {ds : List Due} (L : Left es ls ds) {i : Nat} {e : Due} (h : es[i]? = some e) : ∃ a, ls[i]? = some a ∧ ds[i]? = some ⟨e.p, e.q, e.r, a⟩ := by
  have hi : i < es.length := (List.getElem?_eq_some_iff.mp h).1
  refine ⟨ls.getD i 0, getD_get (by rw [L.1]; exact hi), ?_⟩
  rw [L.2]; exact withF_get h
theorem Left.len {es : List Due} {ls : List Int} {ds : List Due} (L : Left es ls ds) : ds.length = es.length := by rw [L.2, withF_len]
theorem Left.self (ds : List Due) : Left ds (ds.map Due.a) ds := by
  refine ⟨List.length_map .., ?_⟩
  unfold withF
  refine List.ext_getElem? fun i => ?_
  rw [List.getElem?_mapIdx]
  cases e : ds[i]? with
  | none => rfl
  | some d =>
    have : (ds.map Due.a).getD i 0 = d.a := by rw [List.getD_eq_getElem?_getD, List.getElem?_map, e]; rfl
    show some d = some (⟨d.p, d.q, d.r, (ds.map Due.a).getD i 0⟩ : Due)
    rw [this]
noncomputable def spPaid (K : PySem.W.Frag) : Sp := fun vs H Q _ => ∃ (m : Int) (r a l : Addr) (rs ls : List Int) (xs : List V) (es ds : List Due), vs = [.int m, .ref r, .ref a, .ref l] ∧ H r = some (.lst (rs.map V.int)) ∧ H a = some (.lst xs) ∧ IsTs dueV H xs es ∧ H l = some (.lst (ls.map V.int)) ∧ Left es ls ds ∧ es.length ≤ 1000 ∧ Q (.bl (paidF ds rs m)) H
theorem spPaid_i {K : PySem.W.Frag} {m : Int} {r a l : Addr} {rs ls : List Int} {xs : List V} {es ds : List Due} {H : Hp} {Q : VK} {E : XK} (h1 : H r = some (.lst (rs.map V.int))) (h2 : H a = some (.lst xs)) (h3 : IsTs dueV H xs es) (h4 : H l = some (.lst (ls.map V.int))) (L : Left es ls ds) (hl : es.length ≤ 1000) (q : Q (.bl (paidF ds rs m)) H) : spPaid K [.int m, .ref r, .ref a, .ref l] H Q E := ⟨m, r, a, l, rs, ls, xs, es, ds, rfl, h1, h2, h3, h4, L, hl, q⟩
noncomputable def spRingless (K : PySem.W.Frag) : Sp := fun vs H Q _ => ∃ (n : Int) (a l : Addr) (ls : List Int) (xs : List V) (es ds : List Due), vs = [.int n, .ref a, .ref l] ∧ H a = some (.lst xs) ∧ IsTs dueV H xs es ∧ H l = some (.lst (ls.map V.int)) ∧ Left es ls ds ∧ es.length ≤ 1000 ∧ 1 ≤ n ∧ n ≤ 100 ∧ (∀ d ∈ ds, DueOk n d) ∧ ∀ H', Same H H' → Q (.bl (decide (restL ds n.toNat n.toNat = []))) H'
theorem spRingless_i {K : PySem.W.Frag} {n : Int} {a l : Addr} {ls : List Int} {xs : List V} {es ds : List Due} {H : Hp} {Q : VK} {E : XK} (h2 : H a = some (.lst xs)) (h3 : IsTs dueV H xs es) (h4 : H l = some (.lst (ls.map V.int))) (L : Left es ls ds) (hl : es.length ≤ 1000) (n0 : 1 ≤ n) (n1 : n ≤ 100) (hd : ∀ d ∈ ds, DueOk n d) (q : ∀ H', Same H H' → Q (.bl (decide (restL ds n.toNat n.toNat = []))) H') : spRingless K [.int n, .ref a, .ref l] H Q E := ⟨n, a, l, ls, xs, es, ds, rfl, h2, h3, h4, L, hl, n0, n1, hd, q⟩
end Internal

set_option Elab.async false
set_option linter.all false
set_option maxRecDepth 100000
namespace Internal
open PySem PySem.Spec PyProof.Rows
section
variable {X : Cx}
noncomputable def rMinL (K : PySem.W.Frag) : List V → Hp → VK → Prop := fun xs H Q => ∃ a ns, xs = [.ref a] ∧ SqL K H a (List.map V.int ns) ∧ ns ≠ [] ∧ ∀ x, x ∈ ns → (∀ y ∈ ns, x ≤ y) → Q (.int x) H
theorem call_minL (hc : X.calm = true) : CallR X (.builtin "min") (rMinL X.K) := by
  intro pins s σ H xs us Q I r h
  obtain ⟨a, ns, rfl, hq, hne0, q⟩ := h
  obtain ⟨u, rfl, r1⟩ := vals1 r
  cases r1
  obtain ⟨its, rv, pl, hl, hlt⟩ := I.walk hq
  refine call_min_walkS (wpAny_pyIter_list pl ?_)
  have hne : a ≠ s.heap.objs.size := Nat.ne_of_lt hlt
  have hn : (its.toArray).size = ns.length := by rw [List.length_map] at hl; simpa using hl
  have hpos : 0 < ns.length := List.length_pos_iff.mpr hne0
  refine ⟨_, _, _, _, _, _, _, _, rfl, (Walks.list (prog := X.prog) (w := X.w) (A := X.A.in1) (I.ok.hd hc) s.heap.objs.size a hne its.toArray).toS, ⟨⟨_, Heap.get?_push_size _ rfl, rfl, rfl⟩, pl.at fun o e => Heap.get?_push_of_some _ e⟩, fun b hb => ?_, by rw [hn]; exact hpos, CmpOf.ints_lt (fun i => ns.getD i 0) (fun i v hv => int_at rv hv), fun v s' hv hm => ?_⟩
  · rw [Heap.size_push]
    simp only [List.mem_cons, List.not_mem_nil, or_false] at hb
    rcases hb with rfl | rfl
    · exact Nat.lt_succ_self _
    · exact Nat.lt_succ_of_lt hlt
  · obtain ⟨t, rfl⟩ := int_at rv hv
    obtain ⟨b1, b2⟩ := argBest_lt (fun i => ns.getD i 0) (its.toArray.size - 1)
    rw [hn] at b1 b2 ⊢
    have hg : s'.gens = s.gens := by have := hm.gens; first | exact this | exact this.symm
    have hd := hm.drawn
    have ho := hm.os
    have I1 : Inv X pins σ H { s with heap := s'.heap, toks := s'.toks } := I.kept fun b o e => hm.heap b o (fun z => by
      simp only [List.mem_cons, List.not_mem_nil, or_false] at z
      subst z
      exact absurd (Heap.lt_size e) (Nat.lt_irrefl _)) (Heap.get?_push_of_some _ e)
    have e : ({ s with heap := s'.heap, toks := s'.toks } : Shared) = s' := by
      cases s'; cases s
      simp only at hg hd ho
      subst hg hd ho; rfl
    rw [e] at I1
    refine ⟨.int (ns.getD (argBest (fun i j => decide (ns.getD i 0 < ns.getD j 0)) (ns.length - 1)) 0), H, I1, ⟨t, rfl⟩, q _ ?_ fun y hy => ?_⟩
    · exact List.mem_of_getElem? (getD_get (by omega))
    · obtain ⟨i, hi, ei⟩ := List.getElem_of_mem hy
      have := b2 i (by omega)
      rwa [show ns.getD i 0 = y by rw [List.getD_eq_getElem?_getD, List.getElem?_eq_getElem hi, ei]; rfl] at this
end
theorem x_minL {K : PySem.W.Frag} {H : Hp} {Q : VK} {a : Addr} {ns : List Int} (h : SqL K H a (ns.map V.int)) (ne : ns ≠ []) (q : ∀ x, x ∈ ns → (∀ y ∈ ns, x ≤ y) → Q (.int x) H) : rMinL K [.ref a] H Q := ⟨a, ns, rfl, h, ne, q⟩
theorem x_neNilT {K : PySem.W.Frag} {H : Hp} {Q : VK} {a b : Addr} {ns : List Int} (h1 : SqL K H a (ns.map V.int)) (h2 : SqL K H b []) (hne : ns ≠ []) (q : Q (.bl true) H) : rNeU K (.ref a) (.ref b) H Q := by
  refine x_neD (.lst h1 (rep_ints ns)) (.lst h2 .nil) (by rw [depth_list, depth_ints]; omega) ?_
  cases ns with
  | nil => exact absurd rfl hne
  | cons n ns =>
    have : PyData.eqv (.list ((n :: ns).map PyData.int)) (.list []) = false := by simp [PyData.eqv, PyData.eqvAll]
    rw [this]; exact q
theorem withF_congr {es : List Due} {f g : Nat → Int} (h : ∀ i, i < es.length → f i = g i) : withF es f = withF es g := by
  refine List.ext_getElem? fun i => ?_
  by_cases hi : i < es.length
  · obtain ⟨d, hd⟩ := lt_some hi
    rw [withF_get hd, withF_get hd, h i hi]
  · rw [List.getElem?_eq_none (by rw [withF_len]; omega), List.getElem?_eq_none (by rw [withF_len]; omega)]
theorem left_vec (es : List Due) (g : Nat → Int) : Left es (vec es.length g) (withF es g) := by
  refine ⟨vec_len, withF_congr fun i hi => ?_⟩
  rw [List.getD_eq_getElem?_getD, vec_get hi]; rfl
noncomputable def amF (es : List Due) (i : Nat) : Int := (es.map Due.a).getD i 0
theorem amF_vec (es : List Due) : es.map Due.a = vec es.length (amF es) := by
  have := vec_of (es.map Due.a)
  rw [List.length_map] at this
  exact this
theorem amF_self (es : List Due) : withF es (amF es) = es := (Left.self es).2.symm
theorem amF_get {es : List Due} {i : Nat} {d : Due} (h : es[i]? = some d) : amF es i = d.a := by
  unfold amF; rw [List.getD_eq_getElem?_getD, List.getElem?_map, h]; rfl
theorem amF_with {es : List Due} {g : Nat → Int} {i : Nat} (hi : i < es.length) : amF (withF es g) i = g i := by
  obtain ⟨d, hd⟩ := lt_some hi
  exact amF_get (withF_get (m := g) hd)
theorem withF_ok {n : Int} {es : List Due} {g : Nat → Int} (hd : ∀ d ∈ es, DueOk n d) (hg : ∀ i, i < es.length → 0 ≤ g i ∧ g i ≤ 100000000000000) : ∀ d ∈ withF es g, DueOk n d := by
  intro d h
  obtain ⟨i, hi, ei⟩ := List.getElem_of_mem h
  have hi' : i < es.length := by rw [withF_len] at hi; exact hi
  obtain ⟨e, he⟩ := lt_some hi'
  have h2 := withF_get (m := g) he
  rw [List.getElem?_eq_getElem hi, ei] at h2
  cases h2
  obtain ⟨p0, p1, q0, q1, pq, r0, r1, a0, a1⟩ := hd e (List.mem_of_getElem? he)
  exact ⟨p0, p1, q0, q1, pq, r0, r1, (hg i hi').1, (hg i hi').2⟩
noncomputable def numN (ds : List Due) (n m : Nat) : Nat := (dueOn ds n m).toNat
theorem Round.num {es : List Due} {g : Nat → Int} {n : Nat} {ms : List Nat} (hd : ∀ d ∈ withF es g, DueOk n d) (R : Round (withF es g) n ms) {m : Nat} (hm : m ∈ ms) :
    ∃ e, es[numN (withF es g) n m]? = some e ∧ 0 < g (numN (withF es g) n m) ∧ e.p = (m : Int) ∧ e.q = (nextM (withF es g) n m : Int) ∧ dueOn (withF es g) n m = (numN (withF es g) n m : Int) := by
  obtain ⟨j, d, w1, w2, w3, w4, w5, w6, w7, w8⟩ := next_ok hd (R.ok m hm).1 (R.ok m hm).2
  have ej : numN (withF es g) n m = j := by unfold numN; rw [w8]; rfl
  have hj : j < es.length := by have := (List.getElem?_eq_some_iff.mp w2).1; rwa [withF_len] at this
  obtain ⟨e, he⟩ := lt_some hj
  rw [withF_get he] at w2
  cases w2
  rw [ej]
  exact ⟨e, he, w4, w3, w5, w8⟩
theorem Round.num_inj {es : List Due} {g : Nat → Int} {n : Nat} {ms : List Nat} (hd : ∀ d ∈ withF es g, DueOk n d) (R : Round (withF es g) n ms) {m m' : Nat} (hm : m ∈ ms) (hm' : m' ∈ ms) (e : numN (withF es g) n m = numN (withF es g) n m') : m = m' := by
  obtain ⟨d, h1, _, h2, _⟩ := R.num hd hm
  obtain ⟨d', h1', _, h2', _⟩ := R.num hd hm'
  rw [← e, h1] at h1'
  cases h1'
  omega
theorem Round.num_new {es : List Due} {g : Nat → Int} {n : Nat} {ms : List Nat} (hd : ∀ d ∈ withF es g, DueOk n d) (R : Round (withF es g) n ms) {k x : Nat} (hx : ms[k]? = some x) : numN (withF es g) n x ∉ (ms.take k).map (numN (withF es g) n) := by
  intro z
  obtain ⟨y, hy, ey⟩ := List.mem_map.mp z
  have hy' := List.mem_of_mem_take hy
  have := R.num_inj hd hy' (List.mem_of_getElem? hx) ey
  subst this
  obtain ⟨u, hu, eu⟩ := List.getElem_of_mem hy
  rw [List.length_take] at hu
  rw [List.getElem_take] at eu
  have a1 : ms[u]? = some y := by rw [List.getElem?_eq_getElem (by omega), eu]
  have : u = k := nodup_get R.nd a1 hx
  omega
noncomputable def subF (g : Nat → Int) (js : List Nat) (f : Int) (i : Nat) : Int := if i ∈ js then g i - f else g i
theorem subF_snoc {g : Nat → Int} {js : List Nat} {f : Int} {j : Nat} (h : j ∉ js) (i : Nat) : subF g (js ++ [j]) f i = if i = j then g j - f else subF g js f i := by
  unfold subF
  by_cases e : i = j
  · subst e; rw [if_pos (by simp), if_pos rfl]
  · rw [if_neg e]
    by_cases e' : i ∈ js
    · rw [if_pos (by simp [e']), if_pos e']
    · rw [if_neg (by simp [e, e']), if_neg e']
theorem subF_out {g : Nat → Int} {js : List Nat} {f : Int} {j : Nat} (h : j ∉ js) : subF g js f j = g j := if_neg h
set_option genInjectivity false in
set_option genSizeOf false in
structure CutAt (es : List Due) (n : Nat) (g : Nat → Int) (ms : List Nat) (f : Int) (g' : Nat → Int) : Prop where
  rd : Round (withF es g) n ms
  le : ∀ m ∈ ms, f ≤ g (numN (withF es g) n m)
  at' : ∃ m ∈ ms, f = g (numN (withF es g) n m)
  eq : ∀ i, g' i = subF g (ms.map (numN (withF es g) n)) f i
section
variable {es : List Due} {n : Nat} {g g' : Nat → Int} {ms : List Nat} {f : Int}
theorem CutAt.pos (hd : ∀ d ∈ withF es g, DueOk n d) (C : CutAt es n g ms f g') : 0 < f := by
  obtain ⟨m, hm, e⟩ := C.at'
  obtain ⟨_, _, h, _⟩ := C.rd.num hd hm
  omega
theorem CutAt.bnd (hd : ∀ d ∈ withF es g, DueOk n d) (C : CutAt es n g ms f g') {i : Nat} (h0 : 0 ≤ g i) : 0 ≤ g' i ∧ g' i ≤ g i := by
  have hp := C.pos hd
  rw [C.eq i]
  unfold subF
  by_cases e : i ∈ ms.map (numN (withF es g) n)
  · rw [if_pos e]
    obtain ⟨m, hm, rfl⟩ := List.mem_map.mp e
    have := C.le m hm
    omega
  · rw [if_neg e]; omega
noncomputable def posC : Nat → (Nat → Int) → Nat
  | 0, _ => 0
  | k + 1, g => posC k g + if 0 < g k then 1 else 0
theorem posC_bnd : ∀ k g, posC k g ≤ k
  | 0, _ => Nat.le_refl _
  | k + 1, g => by have := posC_bnd k g; unfold posC; split <;> omega
theorem posC_le : ∀ k, (∀ i, i < k → g' i ≤ g i) → posC k g' ≤ posC k g
  | 0, _ => Nat.le_refl _
  | k + 1, h => by
    have h1 := posC_le k fun i hi => h i (by omega)
    have h2 := h k (by omega)
    unfold posC
    split <;> split <;> omega
theorem posC_lt : ∀ k, (∀ i, i < k → g' i ≤ g i) → ∀ j, j < k → 0 < g j → g' j ≤ 0 → posC k g' < posC k g
  | 0, _, j, hj, _, _ => absurd hj (by omega)
  | k + 1, h, j, hj, h1, h2 => by
    have h4 := h k (by omega)
    by_cases e : j = k
    · subst e
      have h3 := posC_le j fun i hi => h i (by omega)
      unfold posC
      rw [if_pos h1, if_neg (by omega)]; omega
    · have h3 := posC_lt k (fun i hi => h i (by omega)) j (by omega) h1 h2
      unfold posC
      split <;> split <;> omega
theorem CutAt.cnt (hd : ∀ d ∈ withF es g, DueOk n d) (C : CutAt es n g ms f g') (h0 : ∀ i, i < es.length → 0 ≤ g i) : posC es.length g' < posC es.length g := by
  obtain ⟨m, hm, e⟩ := C.at'
  obtain ⟨d, h1, h2, _⟩ := C.rd.num hd hm
  have hj := (List.getElem?_eq_some_iff.mp h1).1
  refine posC_lt _ (fun i hi => (C.bnd hd (h0 i hi)).2) _ hj h2 ?_
  rw [C.eq, subF, if_pos (List.mem_map.mpr ⟨m, hm, rfl⟩)]
  omega
theorem owes_upd {es : List Due} {g : Nat → Int} {j : Nat} {e : Due} {v : Int} (he : es[j]? = some e) (m : Nat) : ∀ t, t ≤ es.length → owesF ((withF es fun i => if i = j then v else g i).take t) m = owesF ((withF es g).take t) m + if j < t ∧ e.p = (m : Int) then v - g j else 0
  | 0, _ => by rw [if_neg (by omega)]; rfl
  | t + 1, ht => by
    obtain ⟨d, hdt⟩ := lt_some (show t < es.length by omega)
    rw [withF_snoc hdt, withF_snoc hdt, owesF_snoc, owesF_snoc, owes_upd he m t (by omega)]
    show (if d.p = (m : Int) then _ + (if t = j then v else g t) else _) = (if d.p = (m : Int) then _ + g t else _) + _
    by_cases ej : t = j
    · subst ej
      rw [he] at hdt; cases hdt
      by_cases ep : e.p = (m : Int)
      · rw [if_pos ep, if_pos ep, if_pos rfl, if_neg (by omega), if_pos ⟨by omega, ep⟩]; omega
      · rw [if_neg ep, if_neg ep, if_neg (by omega), if_neg (fun z => ep z.2)]
    · by_cases ep : d.p = (m : Int)
      · rw [if_pos ep, if_pos ep, if_neg ej]
        by_cases z : j < t ∧ e.p = (m : Int)
        · rw [if_pos z, if_pos ⟨by omega, z.2⟩]; omega
        · rw [if_neg z, if_neg (fun y => z ⟨by omega, y.2⟩)]; omega
      · rw [if_neg ep, if_neg ep]
        by_cases z : j < t ∧ e.p = (m : Int)
        · rw [if_pos z, if_pos ⟨by omega, z.2⟩]
        · rw [if_neg z, if_neg (fun y => z ⟨by omega, y.2⟩)]
theorem claims_upd {es : List Due} {g : Nat → Int} {j : Nat} {e : Due} {v : Int} (he : es[j]? = some e) (m : Nat) : ∀ t, t ≤ es.length → claimsF ((withF es fun i => if i = j then v else g i).take t) m = claimsF ((withF es g).take t) m + if j < t ∧ e.q = (m : Int) then v - g j else 0
  | 0, _ => by rw [if_neg (by omega)]; rfl
  | t + 1, ht => by
    obtain ⟨d, hdt⟩ := lt_some (show t < es.length by omega)
    rw [withF_snoc hdt, withF_snoc hdt, claimsF_snoc, claimsF_snoc, claims_upd he m t (by omega)]
    show (if d.q = (m : Int) then _ + (if t = j then v else g t) else _) = (if d.q = (m : Int) then _ + g t else _) + _
    by_cases ej : t = j
    · subst ej
      rw [he] at hdt; cases hdt
      by_cases ep : e.q = (m : Int)
      · rw [if_pos ep, if_pos ep, if_pos rfl, if_neg (by omega), if_pos ⟨by omega, ep⟩]; omega
      · rw [if_neg ep, if_neg ep, if_neg (by omega), if_neg (fun z => ep z.2)]
    · by_cases ep : d.q = (m : Int)
      · rw [if_pos ep, if_pos ep, if_neg ej]
        by_cases z : j < t ∧ e.q = (m : Int)
        · rw [if_pos z, if_pos ⟨by omega, z.2⟩]; omega
        · rw [if_neg z, if_neg (fun y => z ⟨by omega, y.2⟩)]; omega
      · rw [if_neg ep, if_neg ep]
        by_cases z : j < t ∧ e.q = (m : Int)
        · rw [if_pos z, if_pos ⟨by omega, z.2⟩]
        · rw [if_neg z, if_neg (fun y => z ⟨by omega, y.2⟩)]
theorem nets_upd {es : List Due} {g : Nat → Int} {j : Nat} {e : Due} {v : Int} (he : es[j]? = some e) (m : Nat) : netsF (withF es fun i => if i = j then v else g i) m = netsF (withF es g) m + (if e.q = (m : Int) then v - g j else 0) - (if e.p = (m : Int) then v - g j else 0) := by
  have hj := (List.getElem?_eq_some_iff.mp he).1
  have h1 := owes_upd (g := g) (v := v) he m es.length (Nat.le_refl _)
  have h2 := claims_upd (g := g) (v := v) he m es.length (Nat.le_refl _)
  have l1 : ∀ g : Nat → Int, (withF es g).take es.length = withF es g := fun g => List.take_of_length_le (by rw [withF_len]; exact Nat.le_refl _)
  rw [l1, l1] at h1 h2
  unfold netsF
  rw [h1, h2]
  by_cases a : e.q = (m : Int)
  · rw [if_pos a, if_pos ⟨hj, a⟩]
    by_cases b : e.p = (m : Int)
    · rw [if_pos b, if_pos ⟨hj, b⟩]; omega
    · rw [if_neg b, if_neg fun z => b z.2]; omega
  · rw [if_neg a, if_neg fun z => a z.2]
    by_cases b : e.p = (m : Int)
    · rw [if_pos b, if_pos ⟨hj, b⟩]; omega
    · rw [if_neg b, if_neg fun z => b z.2]; omega
theorem nets_walk (hd : ∀ d ∈ withF es g, DueOk n d) (R : Round (withF es g) n ms) (f : Int) (m : Nat) {m0 : Nat} (h0 : ms[0]? = some m0) : ∀ k, 1 ≤ k → k ≤ ms.length →
    netsF (withF es (subF g ((ms.take k).map (numN (withF es g) n)) f)) m = netsF (withF es g) m + (if m0 = m then f else 0) - (if ms[k % ms.length]?.getD 0 = m then f else 0)
  | 0, h, _ => absurd h (by omega)
  | k + 1, _, hk => by
    obtain ⟨x, hx⟩ := lt_some (show k < ms.length by omega)
    obtain ⟨e, e1, e2, e3, e4, e5⟩ := R.num hd (List.mem_of_getElem? hx)
    have hnx := R.nx k x hx
    have hnot := R.num_new hd hx
    have hw : withF es (subF g ((ms.take (k + 1)).map (numN (withF es g) n)) f) = withF es (fun i => if i = numN (withF es g) n x then g (numN (withF es g) n x) - f else subF g ((ms.take k).map (numN (withF es g) n)) f i) := by
      rw [take_snoc hx, List.map_append]
      exact withF_congr fun i _ => subF_snoc hnot i
    rw [hw, nets_upd e1, subF_out hnot, e3, e4, hnx]
    have last : (if (x : Int) = (m : Int) then g (numN (withF es g) n x) - f - g (numN (withF es g) n x) else 0) = (if x = m then -f else 0) := by
      by_cases a : x = m
      · subst a; rw [if_pos rfl, if_pos rfl]; omega
      · rw [if_neg a, if_neg (by omega)]
    have next : (if ((ms[(k + 1) % ms.length]?.getD 0 : Nat) : Int) = (m : Int) then g (numN (withF es g) n x) - f - g (numN (withF es g) n x) else 0) = (if ms[(k + 1) % ms.length]?.getD 0 = m then -f else 0) := by
      by_cases a : ms[(k + 1) % ms.length]?.getD 0 = m
      · rw [if_pos a, if_pos (by omega)]; omega
      · rw [if_neg a, if_neg (by omega)]
    rw [last, next]
    by_cases ek : k = 0
    · subst ek
      rw [h0] at hx; cases hx
      have : withF es (subF g ((ms.take 0).map (numN (withF es g) n)) f) = withF es g := withF_congr fun i _ => if_neg (by simp)
      rw [this]
      split <;> split <;> omega
    · rw [nets_walk hd R f m h0 k (by omega) (by omega), Nat.mod_eq_of_lt (show k < ms.length by omega), hx]
      show _ + _ - (if x = m then f else 0) + _ - _ = _
      split <;> split <;> split <;> omega
theorem CutAt.nets (hd : ∀ d ∈ withF es g, DueOk n d) (C : CutAt es n g ms f g') (m : Nat) : netsF (withF es g') m = netsF (withF es g) m := by
  have hl : 0 < ms.length := List.length_pos_iff.mpr C.rd.ne
  obtain ⟨m0, h0⟩ := lt_some hl
  have := nets_walk hd C.rd f m h0 ms.length hl (Nat.le_refl _)
  rw [List.take_length, Nat.mod_self, h0] at this
  rw [withF_congr (f := g') fun i _ => C.eq i, this]
  show _ + _ - (if m0 = m then f else 0) = _
  omega
end
noncomputable def Cuts (es : List Due) (n : Nat) (L : Nat → Nat → Int) (cs : List (List Nat × Int)) : Prop := ∀ (t : Nat) (c : List Nat × Int), cs[t]? = some c → CutAt es n (L t) c.1 c.2 (L (t + 1))
section
variable {es : List Due} {n : Nat} {L : Nat → Nat → Int} {cs : List (List Nat × Int)}
theorem Cuts.bnd (hd : ∀ d ∈ es, DueOk n d) (C : Cuts es n L cs) (h0 : ∀ i, i < es.length → L 0 i = amF es i) : ∀ t, t ≤ cs.length → ∀ i, i < es.length → 0 ≤ L t i ∧ L t i ≤ amF es i
  | 0, _, i, hi => by
    obtain ⟨e, he⟩ := lt_some hi
    obtain ⟨_, _, _, _, _, _, _, a0, _⟩ := hd e (List.mem_of_getElem? he)
    rw [h0 i hi, amF_get he]; omega
  | t + 1, ht, i, hi => by
    have h1 := C.bnd hd h0 t (by omega) i hi
    obtain ⟨c, hc⟩ := lt_some (show t < cs.length by omega)
    have h2 := (C t c hc).bnd (withF_ok hd fun i hi => by
      have := C.bnd hd h0 t (by omega) i hi
      obtain ⟨e, he⟩ := lt_some hi
      obtain ⟨_, _, _, _, _, _, _, a0, a1⟩ := hd e (List.mem_of_getElem? he)
      rw [amF_get he] at this; omega) h1.1
    omega
theorem Cuts.ok (hd : ∀ d ∈ es, DueOk n d) (C : Cuts es n L cs) (h0 : ∀ i, i < es.length → L 0 i = amF es i) {t : Nat} (ht : t ≤ cs.length) : ∀ d ∈ withF es (L t), DueOk n d :=
  withF_ok hd fun i hi => by
    have := C.bnd hd h0 t ht i hi
    obtain ⟨e, he⟩ := lt_some hi
    obtain ⟨_, _, _, _, _, _, _, a0, a1⟩ := hd e (List.mem_of_getElem? he)
    rw [amF_get he] at this; omega
theorem Cuts.nets (hd : ∀ d ∈ es, DueOk n d) (C : Cuts es n L cs) (h0 : ∀ i, i < es.length → L 0 i = amF es i) (m : Nat) : ∀ t, t ≤ cs.length → netsF (withF es (L t)) m = netsF es m
  | 0, _ => by rw [withF_congr h0, amF_self]
  | t + 1, ht => by
    obtain ⟨c, hc⟩ := lt_some (show t < cs.length by omega)
    rw [(C t c hc).nets (C.ok hd h0 (by omega)), C.nets hd h0 m t (by omega)]
theorem Cuts.snoc {ms : List Nat} {f : Int} {g' : Nat → Int} (C : Cuts es n L cs) (c : CutAt es n (L cs.length) ms f g') : Cuts es n (fun t => if t = cs.length + 1 then g' else L t) (cs ++ [(ms, f)]) := by
  intro t d hd
  rw [List.getElem?_append] at hd
  split at hd
  · rename_i ht
    show CutAt es n (if t = cs.length + 1 then g' else L t) d.1 d.2 (if t + 1 = cs.length + 1 then g' else L (t + 1))
    rw [if_neg (by omega), if_neg (by omega)]
    exact C t d hd
  · rename_i ht
    have e0 : t - cs.length = 0 := by
      cases e : t - cs.length with
      | zero => rfl
      | succ k => rw [e] at hd; cases hd
    rw [e0] at hd; cases hd
    obtain rfl : t = cs.length := by omega
    show CutAt es n (if cs.length = cs.length + 1 then g' else L cs.length) ms f (if cs.length + 1 = cs.length + 1 then g' else L (cs.length + 1))
    rw [if_neg (by omega), if_pos rfl]
    exact c
end
noncomputable def IsCuts (es : List Due) (n : Nat) (L : Nat → Nat → Int) (bad : List Addr) (cs : List (List Nat × Int)) (H : Hp) (vs : List V) : Prop :=
  vs.length = cs.length ∧ ∀ (t : Nat) (c : List Nat × Int), cs[t]? = some c → ∃ (b r : Addr), vs[t]? = some (V.ref b) ∧ H b = some (HO.tup [.ref r, .int c.2]) ∧ H r = some (.lst ((c.1.map (dueOn (withF es (L t)) n)).map V.int)) ∧ r ∉ bad
section
variable {es : List Due} {n : Nat} {L L' : Nat → Nat → Int} {cs : List (List Nat × Int)} {bad : List Addr} {H H' : Hp} {vs : List V}
theorem IsCuts.same (h : IsCuts es n L bad cs H vs) (e : Same H H') : IsCuts es n L bad cs H' vs :=
  ⟨h.1, fun t c hc => by obtain ⟨b, r, h1, h2, h3, h4⟩ := h.2 t c hc; exact ⟨b, r, h1, e.at h2, e.at h3, h4⟩⟩
theorem IsCuts.but {a : Addr} (h : IsCuts es n L bad cs H vs) (g : LBut a H H') (ha : a ∈ bad) : IsCuts es n L bad cs H' vs :=
  ⟨h.1, fun t c hc => by obtain ⟨b, r, h1, h2, h3, h4⟩ := h.2 t c hc; exact ⟨b, r, h1, g.tup h2, g.lst h3 (fun z => h4 (z ▸ ha)), h4⟩⟩
theorem IsCuts.congr (h : IsCuts es n L bad cs H vs) (e : ∀ t, t < cs.length → L t = L' t) : IsCuts es n L' bad cs H vs :=
  ⟨h.1, fun t c hc => by
    obtain ⟨b, r, h1, h2, h3, h4⟩ := h.2 t c hc
    rw [e t (List.getElem?_eq_some_iff.mp hc).1] at h3
    exact ⟨b, r, h1, h2, h3, h4⟩⟩
theorem IsCuts.snoc {b r : Addr} {ms : List Nat} {f : Int} (h : IsCuts es n L bad cs H vs) (hb : H b = some (.tup [.ref r, .int f])) (hr : H r = some (.lst ((ms.map (dueOn (withF es (L cs.length)) n)).map V.int))) (hn : r ∉ bad) : IsCuts es n L bad (cs ++ [(ms, f)]) H (vs ++ [.ref b]) := by
  refine ⟨by rw [List.length_append, List.length_append, h.1]; rfl, fun t c hc => ?_⟩
  rw [List.getElem?_append] at hc
  split at hc
  · rename_i ht
    obtain ⟨b', r', h1, h2, h3, h4⟩ := h.2 t c hc
    exact ⟨b', r', by rw [List.getElem?_append_left (by rw [h.1]; exact ht)]; exact h1, h2, h3, h4⟩
  · rename_i ht
    have e0 : t - cs.length = 0 := by
      cases e : t - cs.length with
      | zero => rfl
      | succ k => rw [e] at hc; cases hc
    rw [e0] at hc; cases hc
    obtain rfl : t = cs.length := by omega
    exact ⟨b, r, by rw [List.getElem?_append_right (by rw [h.1]; exact Nat.le_refl _), h.1, Nat.sub_self]; rfl, hb, hr, hn⟩
end
noncomputable def CutInv (es : List Due) (n : Int) (a l c : Addr) (H : Hp) (q : Nat) (σ : St) (H' : Hp) : Prop := ∃ (r : Addr) (rs : List Int) (vs : List V) (L : Nat → Nat → Int) (cs : List (List Nat × Int)) (f5 f6 : Option V), σ = [some (.int n), some (.ref a), some (.ref l), some (.ref c), some (.ref r), f5, f6] ∧ H' l = some (.lst ((vec es.length (L cs.length)).map V.int)) ∧ H' c = some (.lst vs) ∧ H' r = some (.lst (rs.map V.int)) ∧ r ∉ [l, c] ∧ IsCuts es n.toNat L [l, c] cs H' vs ∧ Cuts es n.toNat L cs ∧ (∀ i, i < es.length → L 0 i = amF es i) ∧ RingOf (withF es (L cs.length)) n.toNat rs ∧ cs.length + posC es.length (L cs.length) ≤ es.length ∧ Same H H' ∧ q = posC es.length (L cs.length)
noncomputable def spCut (K : PySem.W.Frag) : Sp := fun vs H Q _ => ∃ (n : Int) (a : Addr) (es : List Due), vs = [.int n, .ref a] ∧ IsSh K H a es ∧ 1 ≤ n ∧ n ≤ 100 ∧ es.length ≤ 1000 ∧ (∀ d ∈ es, DueOk n d) ∧
  ∀ p l c H' vs L cs, H p = none → H l = none → H c = none → Same H H' → H' p = some (.tup [.ref l, .ref c]) → H' l = some (.lst ((vec es.length (L cs.length)).map V.int)) → H' c = some (.lst vs) → IsCuts es n.toNat L [l, c] cs H' vs → Cuts es n.toNat L cs → (∀ i, i < es.length → L 0 i = amF es i) → RingOf (withF es (L cs.length)) n.toNat [] → cs.length ≤ es.length → Q (.ref p) H'
theorem spCut_i {K : PySem.W.Frag} {n : Int} {a : Addr} {es : List Due} {H : Hp} {Q : VK} {E : XK} (h : IsSh K H a es) (h0 : 1 ≤ n) (h1 : n ≤ 100) (hl : es.length ≤ 1000) (hd : ∀ d ∈ es, DueOk n d)
  (q : ∀ p l c H' vs L cs, H p = none → H l = none → H c = none → Same H H' → H' p = some (.tup [.ref l, .ref c]) → H' l = some (.lst ((vec es.length (L cs.length)).map V.int)) → H' c = some (.lst vs) → IsCuts es n.toNat L [l, c] cs H' vs → Cuts es n.toNat L cs → (∀ i, i < es.length → L 0 i = amF es i) → RingOf (withF es (L cs.length)) n.toNat [] → cs.length ≤ es.length → Q (.ref p) H') : spCut K [.int n, .ref a] H Q E := ⟨n, a, es, rfl, h, h0, h1, hl, hd, q⟩
end Internal

set_option Elab.async false
set_option linter.all false
set_option maxRecDepth 100000
set_option maxHeartbeats 4000000
namespace Internal
open PySem PySem.Spec PyProof.Rows
section
variable {n : Nat} {E : List Due} {c : Due → Int} {π : Nat → Int} {ini : Nat → Option Int}
noncomputable def StOk (n : Nat) (E : List Due) : Prop := ∀ e ∈ E, 0 ≤ e.p ∧ e.p < n ∧ 0 ≤ e.q ∧ e.q < n
noncomputable def PotOk (E : List Due) (c : Due → Int) (π : Nat → Int) : Prop := ∀ e ∈ E, π e.q.toNat ≤ π e.p.toNat + c e
inductive SW (E : List Due) (c : Due → Int) (ini : Nat → Option Int) : Nat → Int → List Nat → Prop
  | src {v : Nat} {x : Int} : ini v = some x → SW E c ini v x [v]
  | step {u v : Nat} {x : Int} {vs : List Nat} {e : Due} : SW E c ini u x vs → e ∈ E → e.p = (u : Int) → e.q = (v : Int) → v ∉ vs → SW E c ini v (x + c e) (v :: vs)
theorem SW.nodup {v : Nat} {x : Int} {vs : List Nat} (h : SW E c ini v x vs) : vs.Nodup := by
  induction h with
  | src _ => exact List.nodup_cons.mpr ⟨fun h => (nomatch h), List.nodup_nil⟩
  | step _ _ _ _ hn ih => exact List.nodup_cons.mpr ⟨hn, ih⟩
theorem SW.lt (hE : StOk n E) (hi : ∀ v x, ini v = some x → v < n) {v : Nat} {x : Int} {vs : List Nat} (h : SW E c ini v x vs) : ∀ w ∈ vs, w < n := by
  induction h with
  | src hx => intro w hw; rw [List.mem_singleton.mp hw]; exact hi _ _ hx
  | step _ he hp hq _ ih =>
    intro w hw
    rcases List.mem_cons.mp hw with rfl | h
    · have := hE _ he; omega
    · exact ih w h
theorem SW.len (hE : StOk n E) (hi : ∀ v x, ini v = some x → v < n) {v : Nat} {x : Int} {vs : List Nat} (h : SW E c ini v x vs) : vs.length ≤ n := nodup_le n vs h.nodup (h.lt hE hi)
theorem SW.here {v : Nat} {x : Int} {vs : List Nat} (h : SW E c ini v x vs) : v ∈ vs := by cases h <;> exact List.mem_cons_self
theorem SW.pre (hP : PotOk E c π) {v : Nat} {x : Int} {vs : List Nat} (h : SW E c ini v x vs) : ∀ w ∈ vs, ∃ x' vs', SW E c ini w x' vs' ∧ x' + (π v - π w) ≤ x := by
  induction h with
  | src hx =>
    intro w hw
    rw [List.mem_singleton.mp hw]
    exact ⟨_, _, .src hx, by omega⟩
  | step hs he hp hq hn ih =>
    rename_i u v x vs e
    intro w hw
    rcases List.mem_cons.mp hw with rfl | h
    · exact ⟨_, _, .step hs he hp hq hn, by omega⟩
    · obtain ⟨x', vs', h1, h2⟩ := ih w h
      have := hP e he
      rw [hp, hq, Int.toNat_natCast, Int.toNat_natCast] at this
      exact ⟨x', vs', h1, by omega⟩
theorem SW.more (hP : PotOk E c π) {u : Nat} {x : Int} {vs : List Nat} (h : SW E c ini u x vs) {e : Due} (he : e ∈ E) {v : Nat} (hp : e.p = (u : Int)) (hq : e.q = (v : Int)) : ∃ x' vs', SW E c ini v x' vs' ∧ x' ≤ x + c e := by
  by_cases hv : v ∈ vs
  · obtain ⟨x', vs', h1, h2⟩ := h.pre hP v hv
    have := hP e he
    rw [hp, hq, Int.toNat_natCast, Int.toNat_natCast] at this
    exact ⟨x', vs', h1, by omega⟩
  · exact ⟨_, _, .step h he hp hq hv, Int.le_refl _⟩
set_option genInjectivity false in
set_option genSizeOf false in
structure Far (n : Nat) (E : List Due) (c : Due → Int) (ini : Nat → Option Int) (F : Nat → Option Int) (b : Nat) : Prop where
  real : ∀ v y, v < n → F v = some y → ∃ x vs, SW E c ini v x vs ∧ x ≤ y
  low : ∀ v x vs, SW E c ini v x vs → vs.length ≤ b → ∃ y, F v = some y ∧ y ≤ x
noncomputable def FLe (F F' : Nat → Option Int) : Prop := ∀ v y, F v = some y → ∃ y', F' v = some y' ∧ y' ≤ y
theorem FLe.refl (F : Nat → Option Int) : FLe F F := fun v y h => ⟨y, h, Int.le_refl _⟩
theorem FLe.trans {F G H : Nat → Option Int} (h : FLe F G) (h' : FLe G H) : FLe F H := fun v y e => by
  obtain ⟨y', e', l⟩ := h v y e
  obtain ⟨y'', e'', l'⟩ := h' v y' e'
  exact ⟨y'', e'', Int.le_trans l' l⟩
noncomputable def relax (c : Due → Int) (F : Nat → Option Int) (e : Due) : Nat → Option Int := match F e.p.toNat with
  | none => F
  | some y => match F e.q.toNat with
    | none => fun v => if v = e.q.toNat then some (y + c e) else F v
    | some z => if y + c e < z then fun v => if v = e.q.toNat then some (y + c e) else F v else F
theorem relax_le (c : Due → Int) (F : Nat → Option Int) (e : Due) : FLe F (relax c F e) := by
  intro v y hv
  unfold relax
  cases h1 : F e.p.toNat with
  | none => exact ⟨y, hv, Int.le_refl _⟩
  | some a =>
    dsimp only
    cases h2 : F e.q.toNat with
    | none =>
      dsimp only
      by_cases g : v = e.q.toNat
      · rw [g, h2] at hv; cases hv
      · rw [if_neg g]; exact ⟨y, hv, Int.le_refl _⟩
    | some z =>
      dsimp only
      by_cases k : a + c e < z
      · rw [if_pos k]
        by_cases g : v = e.q.toNat
        · rw [g, h2] at hv; cases hv
          rw [if_pos g]; exact ⟨_, rfl, by omega⟩
        · rw [if_neg g]; exact ⟨y, hv, Int.le_refl _⟩
      · rw [if_neg k]; exact ⟨y, hv, Int.le_refl _⟩
theorem relax_at (c : Due → Int) (F : Nat → Option Int) (e : Due) {y : Int} (h : F e.p.toNat = some y) : ∃ z, relax c F e e.q.toNat = some z ∧ z ≤ y + c e := by
  unfold relax
  rw [h]
  dsimp only
  cases h2 : F e.q.toNat with
  | none => dsimp only; rw [if_pos rfl]; exact ⟨_, rfl, Int.le_refl _⟩
  | some z =>
    dsimp only
    by_cases k : y + c e < z
    · rw [if_pos k, if_pos rfl]; exact ⟨_, rfl, Int.le_refl _⟩
    · rw [if_neg k]; exact ⟨z, h2, by omega⟩
noncomputable def Real (n : Nat) (E : List Due) (c : Due → Int) (ini F : Nat → Option Int) : Prop := ∀ v y, v < n → F v = some y → ∃ x vs, SW E c ini v x vs ∧ x ≤ y
theorem relax_real (hE : StOk n E) (hP : PotOk E c π) {F : Nat → Option Int} (h : Real n E c ini F) {e : Due} (he : e ∈ E) : Real n E c ini (relax c F e) := by
  intro v y hv hy
  obtain ⟨p0, p1, q0, q1⟩ := hE e he
  unfold relax at hy
  cases h1 : F e.p.toNat with
  | none => rw [h1] at hy; exact h v y hv hy
  | some a =>
    rw [h1] at hy
    dsimp only at hy
    have new : v = e.q.toNat → y = a + c e → ∃ x vs, SW E c ini v x vs ∧ x ≤ y := fun g k => by
      obtain ⟨x, vs, h2, h3⟩ := h e.p.toNat a (by omega) h1
      obtain ⟨x', vs', h4, h5⟩ := h2.more hP he (v := v) (by omega) (by omega)
      exact ⟨x', vs', h4, by omega⟩
    cases h2 : F e.q.toNat with
    | none =>
      rw [h2] at hy
      dsimp only at hy
      by_cases g : v = e.q.toNat
      · rw [if_pos g] at hy; cases hy; exact new g rfl
      · rw [if_neg g] at hy; exact h v y hv hy
    | some z =>
      rw [h2] at hy
      dsimp only at hy
      by_cases k : a + c e < z
      · rw [if_pos k] at hy
        by_cases g : v = e.q.toNat
        · rw [if_pos g] at hy; cases hy; exact new g rfl
        · rw [if_neg g] at hy; exact h v y hv hy
      · rw [if_neg k] at hy; exact h v y hv hy
noncomputable def relaxL (c : Due → Int) (F : Nat → Option Int) (es : List Due) : Nat → Option Int := es.foldl (relax c) F
theorem relaxL_snoc (c : Due → Int) (F : Nat → Option Int) (es : List Due) (e : Due) : relaxL c F (es ++ [e]) = relax c (relaxL c F es) e := by unfold relaxL; rw [List.foldl_append]; rfl
theorem relaxL_le (c : Due → Int) (F : Nat → Option Int) (es : List Due) : FLe F (relaxL c F es) := by
  induction es generalizing F with
  | nil => exact FLe.refl F
  | cons e es ih => exact (relax_le c F e).trans (ih (relax c F e))
theorem relaxL_at (c : Due → Int) {e : Due} {y : Int} : ∀ (es : List Due) (F : Nat → Option Int), e ∈ es → F e.p.toNat = some y → ∃ z, relaxL c F es e.q.toNat = some z ∧ z ≤ y + c e
  | [], _, h, _ => nomatch h
  | e' :: es, F, h, hy => by
    rcases List.mem_cons.mp h with rfl | h
    · obtain ⟨z, h1, h2⟩ := relax_at c F e hy
      obtain ⟨z', h3, h4⟩ := relaxL_le c (relax c F e) es _ _ h1
      exact ⟨z', h3, by omega⟩
    · obtain ⟨y', h1, h2⟩ := relax_le c F e' _ _ hy
      obtain ⟨z, h3, h4⟩ := relaxL_at c es (relax c F e') h h1
      exact ⟨z, h3, by omega⟩
theorem Far.turn (hE : StOk n E) (hP : PotOk E c π) {F : Nat → Option Int} {b : Nat} (hb : 1 ≤ b) (h : Far n E c ini F b) : Far n E c ini (relaxL c F E) (b + 1) := by
  have hr : ∀ es : List Due, (∀ e ∈ es, e ∈ E) → ∀ F, Real n E c ini F → Real n E c ini (relaxL c F es) := by
    intro es
    induction es with
    | nil => intro _ F h; exact h
    | cons e es ih =>
      intro hs F h
      exact ih (fun e he => hs e (.tail _ he)) _ (relax_real hE hP h (hs e (.head _)))
  refine ⟨hr E (fun _ h => h) F h.real, fun v x vs hs hl => ?_⟩
  cases hs with
  | src hx =>
    obtain ⟨y, h1, h2⟩ := h.low v x [v] (.src hx) hb
    obtain ⟨y', h3, h4⟩ := relaxL_le c F E v y h1
    exact ⟨y', h3, by omega⟩
  | step hs he hp hq hn =>
    rename_i u x vs e
    obtain ⟨y, h1, h2⟩ := h.low u x vs hs (by simp at hl; omega)
    obtain ⟨z, h3, h4⟩ := relaxL_at c E F he (y := y) (by rw [hp, Int.toNat_natCast]; exact h1)
    rw [hq, Int.toNat_natCast] at h3
    exact ⟨z, h3, by omega⟩
theorem Far.start : Far n E c ini ini 1 := ⟨fun v y hv hy => ⟨y, [v], .src hy, Int.le_refl _⟩, fun v x vs h hl => by
  cases h with
  | src hx => exact ⟨x, hx, Int.le_refl _⟩
  | step hs he hp hq hn =>
    exfalso
    have := hs.here
    cases hs with
    | src _ => simp at hl
    | step _ _ _ _ _ => simp at hl⟩
noncomputable def farF (c : Due → Int) (E : List Due) (ini : Nat → Option Int) : Nat → Nat → Option Int
  | 0 => ini
  | t + 1 => relaxL c (farF c E ini t) E
theorem far_turns (hE : StOk n E) (hP : PotOk E c π) : ∀ t, Far n E c ini (farF c E ini t) (t + 1)
  | 0 => Far.start
  | t + 1 => (far_turns hE hP t).turn hE hP (by omega)
set_option genInjectivity false in
set_option genSizeOf false in
structure Short (n : Nat) (E : List Due) (c : Due → Int) (ini F : Nat → Option Int) : Prop where
  way : ∀ v y, v < n → F v = some y → ∃ vs, SW E c ini v y vs
  low : ∀ v x vs, SW E c ini v x vs → ∃ y, F v = some y ∧ y ≤ x
theorem Far.short (hE : StOk n E) (hi : ∀ v x, ini v = some x → v < n) {F : Nat → Option Int} {b : Nat} (hb : n ≤ b) (h : Far n E c ini F b) : Short n E c ini F := by
  have hl : ∀ v x vs, SW E c ini v x vs → ∃ y, F v = some y ∧ y ≤ x := fun v x vs hs => h.low v x vs hs (Nat.le_trans (hs.len hE hi) hb)
  refine ⟨fun v y hv hy => ?_, hl⟩
  obtain ⟨x, vs, h1, h2⟩ := h.real v y hv hy
  obtain ⟨y', h3, h4⟩ := hl v x vs h1
  rw [hy] at h3
  cases h3
  have : x = y := by omega
  exact ⟨vs, this ▸ h1⟩
theorem Short.step (hE : StOk n E) (hP : PotOk E c π) {F : Nat → Option Int} (S : Short n E c ini F) {e : Due} (he : e ∈ E) {y : Int} (hy : F e.p.toNat = some y) : ∃ z, F e.q.toNat = some z ∧ z ≤ y + c e := by
  obtain ⟨p0, p1, q0, q1⟩ := hE e he
  obtain ⟨vs, h1⟩ := S.way _ y (by omega) hy
  obtain ⟨x', vs', h2, h3⟩ := h1.more hP he (v := e.q.toNat) (by omega) (by omega)
  obtain ⟨z, h4, h5⟩ := S.low _ _ _ h2
  exact ⟨z, h4, by omega⟩
end
noncomputable def stepsF (ds : List Due) (l : Nat → Int) : Nat → List Due
  | 0 => []
  | k + 1 => stepsF ds l k ++ match ds[k]? with
    | none => []
    | some d => (if l k < d.a then [⟨d.p, d.q, (k : Int), 1⟩] else []) ++ (if 0 < l k then [⟨d.q, d.p, (k : Int), -1⟩] else [])
theorem steps_mem {ds : List Due} {l : Nat → Int} {e : Due} : ∀ {k : Nat}, e ∈ stepsF ds l k ↔ ∃ (i : Nat) (d : Due), i < k ∧ ds[i]? = some d ∧ ((l i < d.a ∧ e = ⟨d.p, d.q, (i : Int), 1⟩) ∨ (0 < l i ∧ e = ⟨d.q, d.p, (i : Int), -1⟩))
  | 0 => ⟨fun h => (nomatch h), fun ⟨_, _, h, _⟩ => absurd h (Nat.not_lt_zero _)⟩
  | k + 1 => by
    have ih := steps_mem (ds := ds) (l := l) (e := e) (k := k)
    unfold stepsF
    rw [List.mem_append, ih]
    constructor
    · rintro (⟨i, d, h1, h2⟩ | h)
      · exact ⟨i, d, by omega, h2⟩
      · cases hd : ds[k]? with
        | none => rw [hd] at h; cases h
        | some d =>
          rw [hd] at h
          dsimp only at h
          rcases List.mem_append.mp h with g | g
          · by_cases z : l k < d.a
            · rw [if_pos z] at g
              exact ⟨k, d, Nat.lt_succ_self _, hd, .inl ⟨z, List.mem_singleton.mp g⟩⟩
            · rw [if_neg z] at g; cases g
          · by_cases z : 0 < l k
            · rw [if_pos z] at g
              exact ⟨k, d, Nat.lt_succ_self _, hd, .inr ⟨z, List.mem_singleton.mp g⟩⟩
            · rw [if_neg z] at g; cases g
    · rintro ⟨i, d, h1, h2, h3⟩
      rcases Nat.lt_or_eq_of_le (Nat.le_of_lt_succ h1) with g | g
      · exact .inl ⟨i, d, g, h2, h3⟩
      · subst g
        right
        rw [h2]
        dsimp only
        rcases h3 with ⟨z, rfl⟩ | ⟨z, rfl⟩
        · rw [if_pos z]; exact List.mem_append_left _ (.head _)
        · rw [if_pos z]; exact List.mem_append_right _ (.head _)
noncomputable abbrev opn (ds : List Due) (l : Nat → Int) : List Due := stepsF ds l ds.length
section
variable {n : Nat} {ds : List Due} {l : Nat → Int}
theorem opn_ok (hd : ∀ d ∈ ds, DueOk n d) : StOk n (opn ds l) := fun e he => by
  obtain ⟨i, d, h1, h2, h3⟩ := steps_mem.mp he
  obtain ⟨p0, p1, q0, q1, _⟩ := hd d (List.mem_of_getElem? h2)
  rcases h3 with ⟨_, rfl⟩ | ⟨_, rfl⟩
  · exact ⟨p0, p1, q0, q1⟩
  · exact ⟨q0, q1, p0, p1⟩
theorem opn_sgn {e : Due} (he : e ∈ opn ds l) : e.a = 1 ∨ e.a = -1 := by
  obtain ⟨i, d, h1, h2, h3⟩ := steps_mem.mp he
  rcases h3 with ⟨_, rfl⟩ | ⟨_, rfl⟩
  · exact .inl rfl
  · exact .inr rfl
noncomputable def wgt (n : Nat) (e : Due) : Int := e.a * ((n : Int) + 1) + 1
theorem pot_wgt {p : Nat → Int} (h : PotOk (opn ds l) Due.a p) : PotOk (opn ds l) (wgt n) (fun v => p v * ((n : Int) + 1)) := fun e he => by
  have h1 := h e he
  show p e.q.toNat * ((n : Int) + 1) ≤ p e.p.toNat * ((n : Int) + 1) + (e.a * ((n : Int) + 1) + 1)
  have h2 := Int.mul_le_mul_of_nonneg_right h1 (show (0 : Int) ≤ (n : Int) + 1 by omega)
  rw [Int.add_mul] at h2
  omega
theorem sw_wgt {ini : Nat → Option Int} (hi : ∀ v x, ini v = some x → x = 0) {E : List Due} {v : Nat} {x : Int} {vs : List Nat} (h : SW E (wgt n) ini v x vs) : ∃ L : Int, x = L * ((n : Int) + 1) + ((vs.length : Int) - 1) := by
  induction h with
  | src hx => exact ⟨0, by rw [hi _ _ hx]; simp⟩
  | step _ _ _ _ _ ih =>
    rename_i u v x vs e _ _ _ _ _
    obtain ⟨L, hL⟩ := ih
    refine ⟨L + e.a, ?_⟩
    rw [Int.add_mul, List.length_cons, hL]
    unfold wgt
    push_cast
    omega
end
end Internal

set_option Elab.async false
set_option linter.all false
set_option maxRecDepth 100000
set_option maxHeartbeats 4000000
namespace Internal
open PySem PySem.Spec PyProof.Rows
theorem nets_snoc (ds : List Due) (d : Due) (m : Nat) : netsF (ds ++ [d]) m = netsF ds m + (if d.q = (m : Int) then d.a else 0) - (if d.p = (m : Int) then d.a else 0) := by
  unfold netsF
  rw [claimsF_snoc, owesF_snoc]
  split <;> split <;> omega
theorem sumTo_add {f g : Nat → Int} : ∀ n, My.sumTo (fun m => f m + g m) n = My.sumTo f n + My.sumTo g n
  | 0 => rfl
  | n + 1 => by
    show My.sumTo _ n + (f n + g n) = (My.sumTo f n + f n) + (My.sumTo g n + g n)
    rw [sumTo_add n]; omega
theorem sumTo_cong {f g : Nat → Int} : ∀ {n : Nat}, (∀ m, m < n → f m = g m) → My.sumTo f n = My.sumTo g n
  | 0, _ => rfl
  | n + 1, h => by
    show My.sumTo f n + f n = My.sumTo g n + g n
    rw [sumTo_cong fun m hm => h m (by omega), h n (by omega)]
theorem sumTo_one {x : Int} {j : Nat} : ∀ {n : Nat}, j < n → My.sumTo (fun m => if m = j then x else 0) n = x
  | 0, h => absurd h (Nat.not_lt_zero _)
  | n + 1, h => by
    show My.sumTo _ n + (if n = j then x else 0) = x
    by_cases e : n = j
    · rw [if_pos e]
      have : ∀ k, k ≤ j → My.sumTo (fun m => if m = j then x else 0) k = 0 := by
        intro k
        induction k with
        | zero => intro _; rfl
        | succ k ih =>
          intro hk
          show My.sumTo _ k + (if k = j then x else 0) = 0
          rw [ih (by omega), if_neg (by omega)]; rfl
      rw [this n (by omega)]; omega
    · rw [if_neg e, sumTo_one (by omega)]; omega
theorem sumTo_nn {f : Nat → Int} : ∀ {n : Nat}, (∀ m, m < n → 0 ≤ f m) → 0 ≤ My.sumTo f n
  | 0, _ => Int.le_refl _
  | n + 1, h => by
    have := sumTo_nn (n := n) fun m hm => h m (by omega)
    have := h n (by omega)
    show 0 ≤ My.sumTo f n + f n
    omega
theorem sumTo_ge {f : Nat → Int} {j : Nat} : ∀ {n : Nat}, (∀ m, m < n → 0 ≤ f m) → j < n → f j ≤ My.sumTo f n
  | 0, _, h => absurd h (Nat.not_lt_zero _)
  | n + 1, hf, h => by
    show f j ≤ My.sumTo f n + f n
    have h1 := hf n (by omega)
    rcases Nat.lt_or_eq_of_le (Nat.le_of_lt_succ h) with g | g
    · have := sumTo_ge (n := n) (fun m hm => hf m (by omega)) g; omega
    · rw [g]
      have := sumTo_nn (n := n) fun m hm => hf m (by omega)
      omega
noncomputable def wantR (R : Nat → Bool) (es es' : List Due) (n : Nat) : Int := My.sumTo (fun m => if R m = true then netsF es m - netsF es' m else 0) n
theorem wantR_snoc {n : Nat} {R : Nat → Bool} {es es' : List Due} {d : Due} {x : Int} (p0 : 0 ≤ d.p) (p1 : d.p < n) (q0 : 0 ≤ d.q) (q1 : d.q < n) : wantR R (es ++ [d]) (es' ++ [⟨d.p, d.q, d.r, x⟩]) n = wantR R es es' n + (if R d.q.toNat = true then d.a - x else 0) - (if R d.p.toNat = true then d.a - x else 0) := by
  have e : wantR R (es ++ [d]) (es' ++ [⟨d.p, d.q, d.r, x⟩]) n = My.sumTo (fun m => (if R m = true then netsF es m - netsF es' m else 0) + ((if m = d.q.toNat then (if R d.q.toNat = true then d.a - x else 0) else 0) + (if m = d.p.toNat then -(if R d.p.toNat = true then d.a - x else 0) else 0))) n := sumTo_cong fun m hm => by
    rw [nets_snoc, nets_snoc]
    dsimp only
    by_cases e1 : m = d.q.toNat
    · have e1' : d.q = (m : Int) := by omega
      rw [if_pos e1, if_pos e1', if_pos e1', ← e1]
      by_cases e2 : m = d.p.toNat
      · have e2' : d.p = (m : Int) := by omega
        rw [if_pos e2, if_pos e2', if_pos e2', ← e2]
        split <;> omega
      · have e2' : ¬ d.p = (m : Int) := by omega
        rw [if_neg e2, if_neg e2', if_neg e2']
        split <;> omega
    · have e1' : ¬ d.q = (m : Int) := by omega
      rw [if_neg e1, if_neg e1', if_neg e1']
      by_cases e2 : m = d.p.toNat
      · have e2' : d.p = (m : Int) := by omega
        rw [if_pos e2, if_pos e2', if_pos e2', ← e2]
        split <;> omega
      · have e2' : ¬ d.p = (m : Int) := by omega
        rw [if_neg e2, if_neg e2', if_neg e2']
        split <;> omega
  rw [e, sumTo_add, sumTo_add, sumTo_one (by omega), sumTo_one (by omega)]
  unfold wantR
  omega
theorem byWith2 {ds : List Due} {g : Nat → Int} {P : List Due → List Due → Prop} (h0 : P [] []) (hs : ∀ (i : Nat) (d : Due) (es es' : List Due), ds[i]? = some d → P es es' → P (es ++ [d]) (es' ++ [⟨d.p, d.q, d.r, g i⟩])) : P ds (withF ds g) := by
  have key : ∀ t, t ≤ ds.length → P (ds.take t) ((withF ds g).take t) := by
    intro t
    induction t with
    | zero => intro _; exact h0
    | succ t ih =>
      intro ht
      obtain ⟨d, hd⟩ := lt_some (show t < ds.length by omega)
      rw [take_snoc hd, withF_snoc hd]
      exact hs t d _ _ hd (ih (by omega))
  have := key ds.length (Nat.le_refl _)
  rwa [List.take_length, List.take_of_length_le (by rw [withF_len]; exact Nat.le_refl _)] at this
theorem wantR_nil {R : Nat → Bool} : ∀ n, wantR R [] [] n = 0
  | 0 => rfl
  | n + 1 => by
    have := wantR_nil (R := R) n
    show My.sumTo _ n + (if R n = true then netsF [] n - netsF [] n else 0) = 0
    unfold wantR at this
    rw [this]
    split <;> simp
section
variable {n : Nat} {ds : List Due} {l : Nat → Int}
theorem want_all (hd : ∀ d ∈ ds, DueOk n d) : wantR (fun _ => true) ds (withF ds l) n = 0 :=
  byWith2 (ds := ds) (g := l) (P := fun es es' => wantR (fun _ => true) es es' n = 0) (wantR_nil n) fun i d es es' hi ih => by
    obtain ⟨p0, p1, q0, q1, _⟩ := hd d (List.mem_of_getElem? hi)
    rw [wantR_snoc p0 p1 q0 q1, ih, if_pos rfl]; omega
theorem want_cut (hd : ∀ d ∈ ds, DueOk n d) {R : Nat → Bool} (hl : ∀ i, i < ds.length → l i ≤ amF ds i) (h : ∀ i d, ds[i]? = some d → R d.p.toNat = true → R d.q.toNat ≠ true → l i = d.a) : 0 ≤ wantR R ds (withF ds l) n :=
  byWith2 (ds := ds) (g := l) (P := fun es es' => 0 ≤ wantR R es es' n) (by rw [wantR_nil]; exact Int.le_refl _) fun i d es es' hi ih => by
    obtain ⟨p0, p1, q0, q1, _⟩ := hd d (List.mem_of_getElem? hi)
    have h1 := hl i (List.getElem?_eq_some_iff.mp hi).1
    rw [amF_get hi] at h1
    rw [wantR_snoc p0 p1 q0 q1]
    by_cases a : R d.p.toNat = true
    · by_cases b : R d.q.toNat = true
      · rw [if_pos a, if_pos b]; omega
      · rw [if_pos a, if_neg b, h i d hi a b]; omega
    · by_cases b : R d.q.toNat = true
      · rw [if_neg a, if_pos b]; omega
      · rw [if_neg a, if_neg b]; omega
end
set_option genInjectivity false in
set_option genSizeOf false in
structure Thin (n : Nat) (ds : List Due) (l w : Nat → Int) : Prop where
  bd : ∀ i, i < ds.length → 0 ≤ l i ∧ l i ≤ amF ds i
  want : ∀ m, m < n → w m = netsF ds m - netsF (withF ds l) m
  pot : ∃ p, PotOk (opn ds l) Due.a p
section
variable {n : Nat} {ds : List Due} {l w : Nat → Int}
theorem nets_zero {m : Nat} : netsF (withF ds fun _ => 0) m = 0 := by
  have : claimsF (withF ds fun _ => 0) m = 0 ∧ owesF (withF ds fun _ => 0) m = 0 := byWith2 (ds := ds) (g := fun _ => 0) (P := fun _ es' => claimsF es' m = 0 ∧ owesF es' m = 0) ⟨rfl, rfl⟩ fun i d es es' hi ih => by
    rw [claimsF_snoc, owesF_snoc, ih.1, ih.2]
    dsimp only
    constructor <;> split <;> rfl
  unfold netsF
  omega
theorem Thin.start (hd : ∀ d ∈ ds, DueOk n d) : Thin n ds (fun _ => 0) (netsF ds) := by
  refine ⟨fun i hi => ?_, fun m _ => by rw [nets_zero]; omega, fun _ => 0, fun e he => ?_⟩
  · obtain ⟨d, h⟩ := lt_some hi
    rw [amF_get h]
    exact ⟨Int.le_refl _, (hd d (List.mem_of_getElem? h)).2.2.2.2.2.2.2.1⟩
  · obtain ⟨i, d, h1, h2, h3⟩ := steps_mem.mp he
    rcases h3 with ⟨_, rfl⟩ | ⟨z, _⟩
    · show (0 : Int) ≤ 0 + 1; decide
    · exact absurd z (by decide)
noncomputable def iniF (n : Nat) (w : Nat → Int) (m : Nat) : Option Int := if m < n ∧ w m < 0 then some 0 else none
theorem ini_lt {v : Nat} {x : Int} (h : iniF n w v = some x) : v < n ∧ w v < 0 ∧ x = 0 := by
  unfold iniF at h
  by_cases e : v < n ∧ w v < 0
  · rw [if_pos e] at h; cases h; exact ⟨e.1, e.2, rfl⟩
  · rw [if_neg e] at h; cases h
theorem Thin.reach (hd : ∀ d ∈ ds, DueOk n d) (X : Thin n ds l w) {F : Nat → Option Int} {p : Nat → Int} (hP : PotOk (opn ds l) Due.a p) (S : Short n (opn ds l) (wgt n) (iniF n w) F) {m0 : Nat} (hm0 : m0 < n) (hw : 0 < w m0) : ∃ t y, t < n ∧ 0 < w t ∧ F t = some y := by
  refine Classical.byContradiction fun z => ?_
  have no : ∀ t, t < n → 0 < w t → F t = none := fun t ht hwt => by
    cases e : F t with
    | none => rfl
    | some y => exact absurd ⟨t, y, ht, hwt, e⟩ z
  have hW : ∀ (R : Nat → Bool), wantR R ds (withF ds l) n = My.sumTo (fun m => if R m = true then w m else 0) n := fun R => sumTo_cong fun m hm => by rw [X.want m hm]
  have a1 := want_all (l := l) hd
  rw [hW] at a1
  have a2 := want_cut (R := fun m => (F m).isSome) hd (fun i hi => (X.bd i hi).2) (fun i d hi hp hq => by
    refine Classical.byContradiction fun y => ?_
    have hb := X.bd i (List.getElem?_eq_some_iff.mp hi).1
    rw [amF_get hi] at hb
    obtain ⟨y', hy'⟩ : ∃ y', F d.p.toNat = some y' := by
      cases e : F d.p.toNat with
      | none => rw [e] at hp; cases hp
      | some y' => exact ⟨y', rfl⟩
    have he : (⟨d.p, d.q, (i : Int), 1⟩ : Due) ∈ opn ds l := steps_mem.mpr ⟨i, d, (List.getElem?_eq_some_iff.mp hi).1, hi, .inl ⟨by omega, rfl⟩⟩
    obtain ⟨z', h1, _⟩ := S.step (opn_ok hd) (pot_wgt hP) he (y := y') hy'
    have h1' : F d.q.toNat = some z' := h1
    rw [h1'] at hq
    exact hq rfl)
  rw [hW] at a2
  have e3 : My.sumTo (fun m => if (fun _ : Nat => true) m = true then w m else 0) n = My.sumTo (fun m => (if (F m).isSome = true then w m else 0) + (if (F m).isSome = true then 0 else w m)) n := sumTo_cong fun m _ => by
    rw [if_pos rfl]
    split <;> omega
  rw [e3, sumTo_add] at a1
  have out : ∀ m, m < n → 0 ≤ (if (F m).isSome = true then 0 else w m) := fun m hm => by
    by_cases e : (F m).isSome = true
    · rw [if_pos e]; exact Int.le_refl _
    · rw [if_neg e]
      refine Int.not_lt.mp fun hn => e ?_
      obtain ⟨y, h1, _⟩ := S.low m 0 [m] (.src (by unfold iniF; rw [if_pos ⟨hm, hn⟩]))
      rw [h1]; rfl
  have h5 := sumTo_ge out hm0
  rw [if_neg (by rw [no m0 hm0 hw]; decide)] at h5
  have h6 : My.sumTo (fun m => if (F m).isSome = true then w m else 0) n ≥ 0 := a2
  omega
theorem Thin.done (hd : ∀ d ∈ ds, DueOk n d) (X : Thin n ds l w) (h : ∀ m, m < n → ¬ 0 < w m) : ∀ m, m < n → netsF (withF ds l) m = netsF ds m := by
  have a1 := want_all (l := l) hd
  have e : wantR (fun _ => true) ds (withF ds l) n = My.sumTo (fun m => w m) n := sumTo_cong fun m hm => by rw [if_pos rfl, X.want m hm]
  rw [e] at a1
  have e2 : My.sumTo (fun m => w m) n = -My.sumTo (fun m => -w m) n := by
    have := sumTo_add (f := fun m => w m) (g := fun m => -w m) n
    have z : My.sumTo (fun m => w m + -w m) n = 0 := by
      have : My.sumTo (fun m => w m + -w m) n = My.sumTo (fun _ => 0) n := sumTo_cong fun m _ => by omega
      rw [this]
      have : ∀ k, My.sumTo (fun _ => 0) k = 0 := by
        intro k
        induction k with
        | zero => rfl
        | succ k ih => show My.sumTo _ k + 0 = 0; rw [ih]; rfl
      exact this n
    rw [z] at this
    omega
  intro m hm
  have h1 := sumTo_ge (f := fun m => -w m) (fun m hm => by have := h m hm; show 0 ≤ -w m; omega) hm
  have h2 := h m hm
  have h3 := X.want m hm
  have h4 : -w m ≤ My.sumTo (fun m => -w m) n := h1
  omega
end
end Internal

set_option Elab.async false
set_option linter.all false
set_option maxRecDepth 100000
set_option maxHeartbeats 4000000
namespace Internal
open PySem PySem.Spec PyProof.Rows
set_option genInjectivity false in
set_option genSizeOf false in
structure Lst (n : Nat) (E : List Due) (c : Due → Int) (ini F : Nat → Option Int) (last : Nat → Option Due) : Prop where
  some : ∀ v e, v < n → last v = Option.some e → e ∈ E ∧ e.q = (v : Int) ∧ ∃ y z, F e.p.toNat = Option.some y ∧ F v = Option.some z ∧ y + c e ≤ z
  none : ∀ v, v < n → last v = Option.none → F v = ini v
section
variable {n : Nat} {E : List Due} {c : Due → Int} {ini F : Nat → Option Int} {last : Nat → Option Due}
theorem Lst.start : Lst n E c ini ini (fun _ => Option.none) := ⟨fun _ _ _ h => (nomatch h), fun _ _ _ => rfl⟩
theorem relax_upd {e : Due} {y : Int} (h : F e.p.toNat = some y) (hv : F e.q.toNat = none ∨ ∃ z, F e.q.toNat = some z ∧ y + c e < z) : relax c F e = fun x => if x = e.q.toNat then some (y + c e) else F x := by
  unfold relax
  rw [h]
  dsimp only
  rcases hv with hv | ⟨z, hv, hz⟩
  · rw [hv]
  · rw [hv]; dsimp only; rw [if_pos hz]
theorem relax_keep0 {e : Due} (h : F e.p.toNat = none) : relax c F e = F := by
  unfold relax
  rw [h]
theorem relax_keep1 {e : Due} {y z : Int} (h : F e.p.toNat = some y) (hv : F e.q.toNat = some z) (hz : ¬ y + c e < z) : relax c F e = F := by
  unfold relax
  rw [h]
  dsimp only
  rw [hv]
  dsimp only
  rw [if_neg hz]
theorem Lst.upd (hE : StOk n E) (L : Lst n E c ini F last) {e : Due} (he : e ∈ E) (hne : e.p ≠ e.q) {y : Int} (h : F e.p.toNat = Option.some y) (hv : F e.q.toNat = Option.none ∨ ∃ z, F e.q.toNat = Option.some z ∧ y + c e < z) : Lst n E c ini (relax c F e) (fun x => if x = e.q.toNat then Option.some e else last x) := by
  obtain ⟨p0, p1, q0, q1⟩ := hE e he
  have hpq : e.p.toNat ≠ e.q.toNat := by omega
  rw [relax_upd h hv]
  refine ⟨fun v e' hvn hl => ?_, fun v hvn hl => ?_⟩
  · by_cases g : v = e.q.toNat
    · rw [if_pos g] at hl
      cases hl
      refine ⟨he, by omega, y, y + c e, ?_, ?_, Int.le_refl _⟩
      · rw [if_neg hpq]; exact h
      · rw [if_pos g]
    · rw [if_neg g] at hl
      obtain ⟨h1, h2, y', z', h3, h4, h5⟩ := L.some v e' hvn hl
      by_cases k : e'.p.toNat = e.q.toNat
      · rw [k] at h3
        rcases hv with hv | ⟨z, hv, hz⟩
        · rw [hv] at h3; cases h3
        · rw [hv] at h3; cases h3
          refine ⟨h1, h2, y + c e, z', ?_, ?_, by omega⟩
          · rw [if_pos k]
          · rw [if_neg g]; exact h4
      · refine ⟨h1, h2, y', z', ?_, ?_, h5⟩
        · rw [if_neg k]; exact h3
        · rw [if_neg g]; exact h4
  · by_cases g : v = e.q.toNat
    · rw [if_pos g] at hl; cases hl
    · rw [if_neg g] at hl
      rw [if_neg g]
      exact L.none v hvn hl
end
inductive Bk (last : Nat → Option Due) : Nat → List Due → Nat → Prop
  | nil {m : Nat} : last m = none → Bk last m [] m
  | cons {m : Nat} {e : Due} {es : List Due} {s : Nat} : last m = some e → Bk last e.p.toNat es s → Bk last m (e :: es) s
section
variable {n : Nat} {ds : List Due} {l w p : Nat → Int} {F : Nat → Option Int} {last : Nat → Option Due}
noncomputable def phi (n : Nat) (F : Nat → Option Int) (p : Nat → Int) (v : Nat) : Int := (F v).getD 0 - p v * ((n : Int) + 1)
theorem phi_lt (hP : PotOk (opn ds l) Due.a p) (L : Lst n (opn ds l) (wgt n) (iniF n w) F last) {v : Nat} {e : Due} (hv : v < n) (he : last v = some e) : phi n F p e.p.toNat < phi n F p v := by
  obtain ⟨h1, h2, y, z, h3, h4, h5⟩ := L.some v e hv he
  have h6 := hP e h1
  rw [h2, Int.toNat_natCast] at h6
  have h7 := Int.mul_le_mul_of_nonneg_right h6 (show (0 : Int) ≤ (n : Int) + 1 by omega)
  rw [Int.add_mul] at h7
  unfold phi
  rw [h3, h4]
  show y - _ < z - _
  unfold wgt at h5
  omega
noncomputable def rankN (n : Nat) (f : Nat → Int) (v : Nat) : Nat := ((List.range n).filter fun u => decide (f u < f v)).length
theorem rankN_lt {f : Nat → Int} {u v : Nat} (hu : u < n) (h : f u < f v) : rankN n f u < rankN n f v := by
  unfold rankN
  have hsub : ∀ L : List Nat, (L.filter fun x => decide (f x < f u)).length ≤ (L.filter fun x => decide (f x < f v)).length ∧ (u ∈ L → (L.filter fun x => decide (f x < f u)).length < (L.filter fun x => decide (f x < f v)).length) := by
    intro L
    induction L with
    | nil => exact ⟨Nat.le_refl _, fun h => (nomatch h)⟩
    | cons x L ih =>
      by_cases a : f x < f u
      · have b : f x < f v := by omega
        rw [List.filter_cons_of_pos (by simpa using a), List.filter_cons_of_pos (by simpa using b)]
        refine ⟨Nat.succ_le_succ ih.1, fun hm => ?_⟩
        rcases List.mem_cons.mp hm with rfl | hm
        · exact absurd a (Int.lt_irrefl _)
        · exact Nat.succ_lt_succ (ih.2 hm)
      · rw [List.filter_cons_of_neg (by simpa using a)]
        by_cases b : f x < f v
        · rw [List.filter_cons_of_pos (by simpa using b)]
          exact ⟨Nat.le_succ_of_le ih.1, fun _ => Nat.lt_succ_of_le ih.1⟩
        · rw [List.filter_cons_of_neg (by simpa using b)]
          refine ⟨ih.1, fun hm => ?_⟩
          rcases List.mem_cons.mp hm with rfl | hm
          · exact absurd h b
          · exact ih.2 hm
  exact (hsub (List.range n)).2 (List.mem_range.mpr hu)
theorem rankN_le {f : Nat → Int} {v : Nat} : rankN n f v ≤ n := by
  unfold rankN
  have := List.length_filter_le (fun u => decide (f u < f v)) (List.range n)
  rwa [List.length_range] at this
theorem Bk.facts (hd : ∀ d ∈ ds, DueOk n d) (hP : PotOk (opn ds l) Due.a p) (L : Lst n (opn ds l) (wgt n) (iniF n w) F last) {m s : Nat} {es : List Due} (B : Bk last m es s) : m < n → (∀ e ∈ es, e ∈ opn ds l ∧ last e.q.toNat = some e ∧ e.q.toNat < n ∧ phi n F p e.q.toNat ≤ phi n F p m) ∧ es.Pairwise (fun e e' => phi n F p e'.q.toNat < phi n F p e.q.toNat) ∧ s < n ∧ last s = none ∧ es.length ≤ rankN n (phi n F p) m := by
  induction B with
  | nil h => intro hm; exact ⟨fun _ h => (nomatch h), .nil, hm, h, Nat.zero_le _⟩
  | cons h _ ih =>
    rename_i m e es s _
    intro hm
    obtain ⟨h1, h2, y, z, h3, h4, h5⟩ := L.some m e hm h
    obtain ⟨p0, p1, q0, q1⟩ := opn_ok hd e h1
    have hlt := phi_lt hP L hm h
    obtain ⟨i1, i2, i3, i4, i5⟩ := ih (by omega)
    have hq : e.q.toNat = m := by omega
    refine ⟨fun e' he' => ?_, ?_, i3, i4, ?_⟩
    · rcases List.mem_cons.mp he' with rfl | he'
      · rw [hq]; exact ⟨h1, h, hm, Int.le_refl _⟩
      · obtain ⟨a1, a2, a3, a4⟩ := i1 e' he'
        exact ⟨a1, a2, a3, by omega⟩
    · refine .cons (fun e' he' => ?_) i2
      rw [hq]
      have := (i1 e' he').2.2.2
      omega
    · have := rankN_lt (n := n) (f := phi n F p) (u := e.p.toNat) (v := m) (by omega) hlt
      rw [List.length_cons]; omega
theorem Bk.apart (hd : ∀ d ∈ ds, DueOk n d) (hP : PotOk (opn ds l) Due.a p) (L : Lst n (opn ds l) (wgt n) (iniF n w) F last) {m s : Nat} {es : List Due} (B : Bk last m es s) (hm : m < n) : es.Pairwise (fun e e' => e.r ≠ e'.r) := by
  obtain ⟨h1, h2, _⟩ := B.facts hd hP L hm
  refine h2.imp_of_mem fun {e e'} he he' hlt hr => ?_
  obtain ⟨a1, a2, a3, _⟩ := h1 e he
  obtain ⟨b1, b2, b3, _⟩ := h1 e' he'
  obtain ⟨i, d, _, hi, hc⟩ := steps_mem.mp a1
  obtain ⟨i', d', _, hi', hc'⟩ := steps_mem.mp b1
  have ei : i = i' := by
    rcases hc with ⟨_, rfl⟩ | ⟨_, rfl⟩ <;> rcases hc' with ⟨_, rfl⟩ | ⟨_, rfl⟩ <;> exact Int.ofNat.inj hr
  subst ei
  rw [hi] at hi'
  cases hi'
  have f1 := phi_lt hP L a3 a2
  have f2 := phi_lt hP L b3 b2
  rcases hc with ⟨_, rfl⟩ | ⟨_, rfl⟩ <;> rcases hc' with ⟨_, rfl⟩ | ⟨_, rfl⟩
  · exact absurd hlt (Int.lt_irrefl _)
  · dsimp only at hlt f1 f2; omega
  · dsimp only at hlt f1 f2; omega
  · exact absurd hlt (Int.lt_irrefl _)
noncomputable def upd1 (l : Nat → Int) (x : Int) (e : Due) : Nat → Int := fun i => if i = e.r.toNat then l e.r.toNat + e.a * x else l i
noncomputable def updL (l : Nat → Int) (x : Int) (es : List Due) : Nat → Int := es.foldl (fun l e => upd1 l x e) l
theorem updL_snoc (l : Nat → Int) (x : Int) (es : List Due) (e : Due) : updL l x (es ++ [e]) = upd1 (updL l x es) x e := by unfold updL; rw [List.foldl_append]; rfl
theorem updL_out {x : Int} {i : Nat} : ∀ (es : List Due) (l : Nat → Int), (∀ e ∈ es, e.r.toNat ≠ i) → updL l x es i = l i
  | [], _, _ => rfl
  | e :: es, l, h => by
    show updL (upd1 l x e) x es i = l i
    rw [updL_out es _ fun e' he' => h e' (.tail _ he')]
    exact if_neg fun z => h e (.head _) z.symm
theorem updL_at {x : Int} {e : Due} : ∀ (es : List Due) (l : Nat → Int), e ∈ es → es.Pairwise (fun e e' => e.r.toNat ≠ e'.r.toNat) → updL l x es e.r.toNat = l e.r.toNat + e.a * x
  | [], _, h, _ => nomatch h
  | e' :: es, l, h, hp => by
    show updL (upd1 l x e') x es e.r.toNat = _
    cases hp with
    | cons h1 h2 =>
      rcases List.mem_cons.mp h with rfl | h
      · rw [updL_out es _ fun e' he' z => h1 e' he' z.symm]
        exact if_pos rfl
      · rw [updL_at es _ h h2]
        unfold upd1
        rw [if_neg fun z => h1 e h z.symm]
noncomputable def IsSt (ds : List Due) (e : Due) : Prop := ∃ (i : Nat) (d : Due), ds[i]? = some d ∧ (e = ⟨d.p, d.q, (i : Int), 1⟩ ∨ e = ⟨d.q, d.p, (i : Int), -1⟩)
theorem opn_st {e : Due} (h : e ∈ opn ds l) : IsSt ds e := by
  obtain ⟨i, d, _, h2, h3⟩ := steps_mem.mp h
  rcases h3 with ⟨_, h⟩ | ⟨_, h⟩
  · exact ⟨i, d, h2, .inl h⟩
  · exact ⟨i, d, h2, .inr h⟩
theorem upd1_nets {x : Int} {e : Due} (h : IsSt ds e) (m : Nat) : netsF (withF ds (upd1 l x e)) m = netsF (withF ds l) m + (if e.q = (m : Int) then x else 0) - (if e.p = (m : Int) then x else 0) := by
  obtain ⟨i, d, hi, hc⟩ := h
  have er : e.r.toNat = i := by rcases hc with rfl | rfl <;> exact Int.toNat_natCast i
  have hu := nets_upd (g := l) (v := l i + e.a * x) hi m
  have e1 : withF ds (upd1 l x e) = withF ds fun j => if j = i then l i + e.a * x else l j := withF_congr fun j _ => by unfold upd1; rw [er]
  rw [e1, hu]
  rcases hc with rfl | rfl
  · dsimp only
    rw [Int.one_mul]
    split <;> split <;> omega
  · dsimp only
    rw [show (-1 : Int) * x = -x by omega]
    split <;> split <;> omega
theorem Bk.nets {x : Int} {t s : Nat} {es : List Due} (B : Bk last t es s) : t < n → (∀ e ∈ es, IsSt ds e) → (∀ v e, v < n → last v = some e → e.q = (v : Int) ∧ 0 ≤ e.p ∧ e.p < n) → ∀ (l : Nat → Int) (m : Nat), netsF (withF ds (updL l x es)) m = netsF (withF ds l) m + (if t = m then x else 0) - (if s = m then x else 0) := by
  induction B with
  | nil h => intro _ _ _ l m; show netsF (withF ds l) m = _; split <;> omega
  | cons h _ ih =>
    rename_i v e es s _
    intro hvn hs hq l m
    obtain ⟨hv, hp0, hp1⟩ := hq v e hvn h
    have h1 := ih (by omega) (fun e he => hs e (.tail _ he)) hq (upd1 l x e) m
    show netsF (withF ds (updL (upd1 l x e) x es)) m = _
    rw [h1, upd1_nets (hs e (.head _)) m]
    have c1 : (e.q = (m : Int)) ↔ (v = m) := by rw [hv]; omega
    have c2 : (e.p = (m : Int)) ↔ (e.p.toNat = m) := by omega
    by_cases a : v = m
    · rw [if_pos (c1.mpr a), if_pos a]
      by_cases b : e.p.toNat = m
      · rw [if_pos (c2.mpr b), if_pos b]; omega
      · rw [if_neg (fun z => b (c2.mp z)), if_neg b]; omega
    · rw [if_neg (fun z => a (c1.mp z)), if_neg a]
      by_cases b : e.p.toNat = m
      · rw [if_pos (c2.mpr b), if_pos b]; omega
      · rw [if_neg (fun z => b (c2.mp z)), if_neg b]; omega
noncomputable def resF (ds : List Due) (l : Nat → Int) (e : Due) : Int := if e.a > 0 then amF ds e.r.toNat - l e.r.toNat else l e.r.toNat
theorem bound_of (f : Nat → Int) : ∀ n : Nat, ∃ B : Int, ∀ v, v < n → f v ≤ B
  | 0 => ⟨0, fun _ h => absurd h (Nat.not_lt_zero _)⟩
  | n + 1 => by
    obtain ⟨B, h⟩ := bound_of f n
    refine ⟨max B (f n), fun v hv => ?_⟩
    rcases Nat.lt_or_eq_of_le (Nat.le_of_lt_succ hv) with g | g
    · have := h v g; omega
    · rw [g]; omega
theorem Thin.send (hd : ∀ d ∈ ds, DueOk n d) (X : Thin n ds l w) (hP : PotOk (opn ds l) Due.a p) (S : Short n (opn ds l) (wgt n) (iniF n w) F) (L : Lst n (opn ds l) (wgt n) (iniF n w) F last) {t s : Nat} {es : List Due} {x : Int} (ht : t < n) (B : Bk last t es s) (hx0 : 0 ≤ x) (hx : ∀ e ∈ es, x ≤ resF ds l e) (hst : s ≠ t) : Thin n ds (updL l x es) (fun m => if m = t then w m - x else if m = s then w m + x else w m) := by
  obtain ⟨f1, f2, f3, f4, f5⟩ := B.facts hd hP L ht
  have hap := B.apart hd hP L ht
  have hrn : ∀ e ∈ es, 0 ≤ e.r := fun e he => by
    obtain ⟨i, d, hi, hc⟩ := opn_st (f1 e he).1
    rcases hc with rfl | rfl
    · exact Int.ofNat_nonneg i
    · exact Int.ofNat_nonneg i
  have hap' : es.Pairwise (fun e e' => e.r.toNat ≠ e'.r.toNat) := hap.imp_of_mem fun {e e'} he he' h z => h (by have := hrn e he; have := hrn e' he'; omega)
  have hat : ∀ e ∈ es, updL l x es e.r.toNat = l e.r.toNat + e.a * x := fun e he => updL_at es l he hap'
  have hp0 : ∀ e ∈ es, 0 ≤ e.p := fun e he => (opn_ok hd e (f1 e he).1).1
  refine ⟨fun i hi => ?_, fun m hm => ?_, ?_⟩
  · by_cases h : ∃ e ∈ es, e.r.toNat = i
    · obtain ⟨e, he, rfl⟩ := h
      have hb := X.bd _ hi
      have hr := hx e he
      rw [hat e he]
      unfold resF at hr
      rcases opn_sgn (f1 e he).1 with a | a
      · rw [a, if_pos (by decide)] at hr; rw [a]; omega
      · rw [a, if_neg (by decide)] at hr; rw [a]; omega
    · rw [updL_out es l fun e he z => h ⟨e, he, z⟩]
      exact X.bd i hi
  · have h1 := B.nets (ds := ds) (x := x) ht (fun e he => opn_st (f1 e he).1) (fun v e hv h => by
      obtain ⟨a1, a2, _⟩ := L.some v e hv h
      have := opn_ok hd e a1
      exact ⟨a2, this.1, this.2.1⟩) l m
    rw [h1]
    have h2 := X.want m hm
    by_cases a : m = t
    · have t1 : t = m := a.symm
      have s1 : ¬ s = m := fun z => hst (z.trans a)
      simp only [if_pos a, if_pos t1, if_neg s1]; omega
    · have t1 : ¬ t = m := fun z => a z.symm
      by_cases b : m = s
      · have s1 : s = m := b.symm
        simp only [if_neg a, if_pos b, if_neg t1, if_pos s1]; omega
      · have s1 : ¬ s = m := fun z => b z.symm
        simp only [if_neg a, if_neg b, if_neg t1, if_neg s1]; omega
  · obtain ⟨B1, hB1⟩ := bound_of (fun v => (F v).getD 0 / ((n : Int) + 1)) n
    obtain ⟨B2, hB2⟩ := bound_of (fun v => -p v) n
    refine ⟨fun v => match F v with
      | some y => y / ((n : Int) + 1)
      | none => p v + (B1 + B2 + 1), fun e he => ?_⟩
    have hform : ∀ v y, v < n → F v = some y → ∃ a h : Int, y = a * ((n : Int) + 1) + h ∧ 0 ≤ h ∧ h ≤ (n : Int) - 1 ∧ y / ((n : Int) + 1) = a := fun v y hv hy => by
      obtain ⟨vs, hs⟩ := S.way v y hv hy
      obtain ⟨a, ha⟩ := sw_wgt (fun v x h => (ini_lt h).2.2) hs
      have hl := hs.len (opn_ok hd) (fun v x h => (ini_lt h).1)
      have hl1 : 1 ≤ vs.length := List.length_pos_of_mem hs.here
      refine ⟨a, (vs.length : Int) - 1, ha, by omega, by omega, ?_⟩
      rw [ha, Int.add_comm, Int.add_mul_ediv_right _ _ (by omega), Int.ediv_eq_zero_of_lt (by omega) (by omega)]; omega
    have old : ∀ e ∈ opn ds l, (match F e.q.toNat with
      | some y => y / ((n : Int) + 1)
      | none => p e.q.toNat + (B1 + B2 + 1)) ≤ (match F e.p.toNat with
      | some y => y / ((n : Int) + 1)
      | none => p e.p.toNat + (B1 + B2 + 1)) + e.a := fun e he => by
      obtain ⟨p0, p1, q0, q1⟩ := opn_ok hd e he
      have hpot := hP e he
      have hsg := opn_sgn he
      cases hu : F e.p.toNat with
      | some y =>
        obtain ⟨z, hz, hle⟩ := S.step (opn_ok hd) (pot_wgt hP) he hu
        rw [hz]
        dsimp only
        obtain ⟨a, h, e1, h0, h1, e2⟩ := hform _ y (by omega) hu
        rw [e2]
        have hle2 : z ≤ (a + e.a) * ((n : Int) + 1) + (h + 1) := by
          unfold wgt at hle
          rw [Int.add_mul]; omega
        have := Int.ediv_le_ediv (show (0 : Int) < (n : Int) + 1 by omega) hle2
        have eh : (h + 1) / ((n : Int) + 1) = 0 := Int.ediv_eq_zero_of_lt (by omega) (by omega)
        rw [Int.add_comm ((a + e.a) * _), Int.add_mul_ediv_right _ _ (by omega), eh] at this
        omega
      | none =>
        cases hv : F e.q.toNat with
        | none =>
          have hpot' : p e.q.toNat ≤ p e.p.toNat + e.a := hpot
          show p e.q.toNat + (B1 + B2 + 1) ≤ p e.p.toNat + (B1 + B2 + 1) + e.a
          omega
        | some z =>
          have h1 := hB1 e.q.toNat (by omega)
          have h2 : -p e.p.toNat ≤ B2 := hB2 e.p.toNat (by omega)
          rw [hv] at h1
          show z / ((n : Int) + 1) ≤ p e.p.toNat + (B1 + B2 + 1) + e.a
          have h1' : z / ((n : Int) + 1) ≤ B1 := h1
          omega
    obtain ⟨i, d, hik, hi, hc⟩ := steps_mem.mp he
    by_cases h : ∃ e0 ∈ es, e0.r.toNat = i
    · obtain ⟨e0, he0, hr0⟩ := h
      obtain ⟨o0, o1, o2, _⟩ := f1 e0 he0
      obtain ⟨a1, a2, y, z, a3, a4, a5⟩ := L.some _ e0 o2 o1
      obtain ⟨j, d0, hjk, hj, hc0⟩ := steps_mem.mp o0
      have hij : j = i := by
        rcases hc0 with ⟨_, rfl⟩ | ⟨_, rfl⟩
        · rw [← hr0]; exact (Int.toNat_natCast j).symm
        · rw [← hr0]; exact (Int.toNat_natCast j).symm
      subst hij
      rw [hi] at hj
      cases hj
      -- the same step, or the way's step turned round
      have tight : ∀ y z, F e0.p.toNat = some y → F e0.q.toNat = some z → y / ((n : Int) + 1) ≤ z / ((n : Int) + 1) - e0.a := fun y z hy hz => by
        obtain ⟨p0, p1, q0, q1⟩ := opn_ok hd e0 o0
        obtain ⟨z', hz', hle⟩ := S.step (opn_ok hd) (pot_wgt hP) o0 hy
        rw [hz] at hz'; cases hz'
        rw [a3] at hy; cases hy
        rw [a4] at hz; cases hz
        obtain ⟨a, h, e1, h0, h1, e2⟩ := hform _ y (by omega) a3
        have ez : z = (h + 1) + (a + e0.a) * ((n : Int) + 1) := by
          unfold wgt at hle a5
          rw [Int.add_mul]; omega
        rw [e2, ez, Int.add_mul_ediv_right _ _ (by omega), Int.ediv_eq_zero_of_lt (by omega) (by omega)]; omega
      have rev : e.p = e0.q → e.q = e0.p → e.a = -e0.a → (match F e.q.toNat with
        | some y => y / ((n : Int) + 1)
        | none => p e.q.toNat + (B1 + B2 + 1)) ≤ (match F e.p.toNat with
        | some y => y / ((n : Int) + 1)
        | none => p e.p.toNat + (B1 + B2 + 1)) + e.a := fun ep eq ea => by
        have hy : F e.q.toNat = some y := by rw [eq]; exact a3
        have hz : F e.p.toNat = some z := by rw [ep]; exact a4
        rw [hy, hz]
        dsimp only
        have := tight y z a3 a4
        omega
      rcases hc with ⟨u1, rfl⟩ | ⟨u1, rfl⟩
      · rcases hc0 with ⟨w1, rfl⟩ | ⟨w1, rfl⟩
        · exact old _ o0
        · exact rev rfl rfl rfl
      · rcases hc0 with ⟨w1, rfl⟩ | ⟨w1, rfl⟩
        · exact rev rfl rfl rfl
        · exact old _ o0
    · have ho : updL l x es i = l i := updL_out es l fun e he z => h ⟨e, he, z⟩
      rw [ho] at hc
      exact old e (steps_mem.mpr ⟨i, d, hik, hi, hc⟩)
end
end Internal

set_option Elab.async false
set_option linter.all false
set_option maxRecDepth 100000
namespace Internal
open PySem PySem.W PyProof.Rows
section
variable {n : Nat} {kf : Nat → Int}
end
end Internal

set_option Elab.async false
set_option linter.all false
set_option maxRecDepth 100000
set_option maxHeartbeats 4000000
namespace Internal
open PySem PySem.W PySem.Calls PyProof.Rows
section
variable {prog : Program} {w : World} {A : Around} {E : Value → Shared → Prop}
end
end Internal

set_option Elab.async false
set_option linter.all false
set_option maxRecDepth 100000
set_option maxHeartbeats 4000000
namespace Internal
open PySem PySem.W PySem.Spec PySem.Calls PyProof.Rows
noncomputable def HO.nt : HO → Bool
  | .tbl _ => false
  | _ => true
set_option genInjectivity false in
set_option genSizeOf false in
structure SameT (H H' : Hp) : Prop where
  keep : ∀ b o, H b = some o → o.nt = true → H' b = some o
  tb : ∀ b ps, H b = some (.tbl ps) → ∃ ps', H' b = some (.tbl ps')
theorem SameT.at {H H' : Hp} (e : SameT H H') {a : Addr} {o : HO} (h : H a = some o) (n : autoParam (o.nt = true) Internal.aut2._auto_1) : H' a = some o := e.keep a o h n
theorem Same.t {H H' : Hp} (e : Same H H') : SameT H H' := ⟨fun b o h _ => e b o h, fun b ps h => ⟨ps, e b _ h⟩⟩
theorem SameT.trans {H H1 H2 : Hp} (a : SameT H H1) (b : SameT H1 H2) : SameT H H2 :=
  ⟨fun c o h n => b.keep c o (a.keep c o h n) n, fun c ps h => by obtain ⟨ps', h'⟩ := a.tb c ps h; exact b.tb c ps' h'⟩
theorem SameT.none {H H' : Hp} {l : Addr} (h : H' l = none) (g : SameT H H') : H l = none := by
  cases q : H l with
  | none => rfl
  | some o =>
    cases hn : o.nt with
    | true => rw [g.keep l o q hn] at h; cases h
    | false =>
      cases o with
      | tbl ps => obtain ⟨ps', e⟩ := g.tb l ps q; rw [e] at h; cases h
      | _ => cases hn
noncomputable def CodeE (c : Addr) (qual : Str) : HO := .ext fun h => h.CodeRec (.ref c) qual
noncomputable def LamE (f : Addr) (ob : Value → Obj) : HO := .ext fun h => ∃ ctv, h.get? f = some (ob ctv)
section
variable {P : Program} {w : World} {H : Hp} {h : Heap}
theorem codeE_ok {c : Addr} {qual : Str} (x : h.CodeRec (.ref c) qual) : ObjOk P w H h c (CodeE c qual) := by
  refine ⟨x, ?_, fun h1 h2 y k => ?_⟩
  · obtain ⟨c2, oc, vs, t, e, ho, _⟩ := x
    cases e
    exact ⟨oc, ho⟩
  · obtain ⟨c2, oc, vs, t, e, ho, r⟩ := y
    cases e
    exact ⟨c, oc, vs, t, rfl, k _ ho, r⟩
theorem lamE_ok {f : Addr} {ob : Value → Obj} {ctv : Value} (x : h.get? f = some (ob ctv)) : ObjOk P w H h f (LamE f ob) :=
  ⟨⟨ctv, x⟩, ⟨_, x⟩, fun h1 h2 y k => by obtain ⟨c, e⟩ := y; exact ⟨c, k _ e⟩⟩
end
noncomputable def Tb (H : Hp) (T : Addr) (pos : Pos) (qual : Str) : Prop := ∃ ps : Array Value, H T = some (.tbl ps) ∧ TriplesOk ps.toList ∧ (codeAmong pos ps.toList = none ∨ ∃ c, codeAmong pos ps.toList = some (.ref c) ∧ H c = some (CodeE c qual))
theorem Tb.same {H H' : Hp} {T : Addr} {pos : Pos} {qual : Str} (h : Tb H T pos qual) (e : Same H H') : Tb H' T pos qual := by
  obtain ⟨ps, h1, h2, h3⟩ := h
  refine ⟨ps, e _ _ h1, h2, ?_⟩
  rcases h3 with h3 | ⟨c, h3, h4⟩
  · exact .inl h3
  · exact .inr ⟨c, h3, e _ _ h4⟩
section
variable {X : Cx} {params : Arguments} {body : Expr} {lsc : Scope} {lpos : Pos} {c T : Addr} {clos : List (Str × Addr)}
noncomputable abbrev lamO (X : Cx) (params : Arguments) (body : Expr) (lsc : Scope) (clos : List (Str × Addr)) (c' : Addr) (ctv : Value) : Obj := kla_obj "<lambda>" (X.env.qual ++ "<lambda>") params body lsc clos ((X.mg "__name__").getD .none) c' ctv
noncomputable def tLam (X : Cx) (params : Arguments) (body : Expr) (lsc : Scope) (clos : List (Str × Addr)) (T : Addr) (lpos : Pos) : TE := fun _ H Q => Tb H T lpos (X.env.qual ++ "<lambda>") ∧
  ∀ f c' H', H f = none → SameT H H' → Tb H' T lpos (X.env.qual ++ "<lambda>") → H' f = some (LamE f (lamO X params body lsc clos c')) → H' c' = some (CodeE c' (X.env.qual ++ "<lambda>")) → Q (.ref f) H'
theorem pe_lam (hdef : defaultsOf params X.env = ([], [])) (hcl : closureFor lsc X.env = pure clos) (hcode : X.env.code = .ref c) (C : CodeHd X.base c T) (B : X.base.BuiltinsAt X.mg T) : PE X (.Lambda params body lsc lpos) (tLam X params body lsc clos T lpos) := by
  intro pins s σ H Q I h
  obtain ⟨⟨ps, hP, ht, hc⟩, k⟩ := h
  refine kla_eval hdef ?_
  have hPo : s.heap.get? T = some (tabObj ps) := I.hok T _ hP
  have hg : s.heap.Ns mainGlobals X.mg := I.mod.glob.keeps I.bk
  have Cs := C.keeps I.bk
  have Bs : s.heap.BuiltinsAt X.mg T := by
    obtain ⟨bm, o, b1, b2, b3, b4, b5, b6⟩ := B
    exact ⟨bm, o, b1, b2, b3, b4, I.bk _ _ b5, b6⟩
  have hgT : mainGlobals ≠ T := fun z => by
    obtain ⟨o, es, ep, e, hd, _⟩ := hg
    rw [z, hPo] at e; cases e; cases hd
  rcases hc with hn | ⟨c', hs, hc'⟩
  · refine kla_makeFunction (mg := X.mg) hcl I.ok.glob hg hcode Cs hPo ht hn hgT Bs fun c' ctv h' tk hx hge hlt hrec htb => ?_
    have hTs : T < s.heap.objs.size := Heap.lt_size hPo
    have hTc : T ≠ c' := Nat.ne_of_lt (Nat.lt_of_lt_of_le hTs hge)
    have hTf : T ≠ h'.objs.size := Nat.ne_of_lt (Nat.lt_of_lt_of_le hTs (Nat.le_trans hge (Nat.le_of_lt hlt)))
    have hcf : c' ≠ h'.objs.size := Nat.ne_of_lt hlt
    have old : ∀ b u, H b = some u → b ≠ c' ∧ b ≠ h'.objs.size := fun b u e => by
      have := I.hok.lt e
      exact ⟨Nat.ne_of_lt (Nat.lt_of_lt_of_le this hge), Nat.ne_of_lt (Nat.lt_of_lt_of_le this (Nat.le_trans hge (Nat.le_of_lt hlt)))⟩
    have olds : ∀ b (u : Obj), s.heap.get? b = some u → b ≠ c' ∧ b ≠ h'.objs.size := fun b u e => by
      have := Heap.lt_size e
      exact ⟨Nat.ne_of_lt (Nat.lt_of_lt_of_le this hge), Nat.ne_of_lt (Nat.lt_of_lt_of_le this (Nat.le_trans hge (Nat.le_of_lt hlt)))⟩
    obtain ⟨H', eH⟩ : ∃ H', H' = upd (upd (upd H T (.tbl (ps ++ #[rawInt lpos.line, rawInt lpos.col, .ref c']))) c' (CodeE c' (X.env.qual ++ "<lambda>"))) h'.objs.size (LamE h'.objs.size (lamO X params body lsc clos c')) := ⟨_, rfl⟩
    have aF : H' h'.objs.size = some (LamE h'.objs.size (lamO X params body lsc clos c')) := by rw [eH]; exact upd_same
    have aC : H' c' = some (CodeE c' (X.env.qual ++ "<lambda>")) := by rw [eH, upd_ne hcf]; exact upd_same
    have aT : H' T = some (.tbl (ps ++ #[rawInt lpos.line, rawInt lpos.col, .ref c'])) := by rw [eH, upd_ne hTf, upd_ne hTc]; exact upd_same
    have aO : ∀ b, b ≠ T → b ≠ c' → b ≠ h'.objs.size → H' b = H b := fun b h1 h2 h3 => by rw [eH, upd_ne h3, upd_ne h2, upd_ne h1]
    have kp : ∀ b u, b ≠ T → s.heap.get? b = some u → (h'.push (lamO X params body lsc clos c' ctv)).get? b = some u := fun b u hb e => Heap.get?_push_of_some _ (hx b u hb e)
    have st : SameT H H' := ⟨fun b o e n => by
        have hb : b ≠ T := fun z => by rw [z, hP] at e; cases e; cases n
        rw [aO b hb (old b o e).1 (old b o e).2]; exact e, fun b qs e => by
        by_cases hb : b = T
        · rw [hb]; exact ⟨_, aT⟩
        · rw [aO b hb (old b _ e).1 (old b _ e).2]; exact ⟨_, e⟩⟩
    have un : Un X.fs [] H H' s.heap (h'.push (lamO X params body lsc clos c' ctv)) := by
      have nT : ∀ b, H b = none → b ≠ T := fun b n z => by rw [z, hP] at n; cases n
      have nTu : ∀ b u, H b = some u → u.nt = true → b ≠ T := fun b u e n z => by rw [z, hP] at e; cases e; cases n
      refine ⟨fun b o e n _ _ => kp b o (nT b n) e, fun b o e n _ _ => ⟨o.slots, kp b o (nT b n) e⟩, fun b o e n _ => ?_, fun b o e _ => ?_, fun b xs e => ?_, fun b o u e => ?_, fun b qs e => ?_⟩
      · rw [aO b (nT b n) (olds b o e).1 (olds b o e).2]; exact n
      · by_cases hb : b = T
        · rw [hb]; exact ⟨_, Heap.get?_push_of_some _ htb⟩
        · exact ⟨o, kp b o hb e⟩
      · exact st.keep b _ e rfl
      · exact st.keep b _ e rfl
      · by_cases hb : b = T
        · subst hb
          rw [hP] at e; cases e
          exact ⟨_, aT⟩
        · rw [aO b hb (old b _ e).1 (old b _ e).2]; exact ⟨#[], by rw [e]; simp⟩
    have hok : HOk X.prog X.w H' (h'.push (lamO X params body lsc clos c' ctv)) := fun b o e => by
      by_cases h1 : b = h'.objs.size
      · subst h1; rw [aF] at e; cases e
        exact lamE_ok (ctv := ctv) (Heap.get?_push_size _ rfl)
      · by_cases h2 : b = c'
        · subst h2; rw [aC] at e; cases e
          obtain ⟨c2, oc, vs, t, e2, ho, r⟩ := hrec
          cases e2
          exact codeE_ok ⟨b, oc, vs, t, rfl, Heap.get?_push_of_some _ ho, r⟩
        · by_cases h3 : b = T
          · subst h3; rw [aT] at e; cases e
            exact (Heap.get?_push_of_some _ htb : (h'.push (lamO X params body lsc clos c' ctv)).get? b = some _)
          · rw [aO b h3 h2 h1] at e
            refine (I.hok b o e).stay (fun d u hd q => kp d u (fun z => ?_) q) (fun d q => ?_) fun d xs q => st.keep d _ q rfl
            · rcases hd with hd | hd
              · exact h3 (hd.symm.trans z)
              · rw [z, hP] at hd; cases hd
            · exact st.keep d _ q rfl
    have J : Inv X pins σ H' { s with heap := h'.push (lamO X params body lsc clos c' ctv), toks := tk } := I.un un hok
    refine ⟨.ref h'.objs.size, H', J, rfl, k _ c' H' ?_ st ⟨_, aT, ?_, .inr ⟨c', ?_, aC⟩⟩ aF aC⟩
    · exact I.hok.fresh (Nat.le_trans hge (Nat.le_of_lt hlt))
    · rw [Array.toList_append]; exact TriplesOk_snoc _ _ _ _ ht
    · rw [Array.toList_append]; exact codeAmong_snoc _ ht hn
  · refine kla_makeFunctionHit (mg := X.mg) hcl I.ok.glob hg hcode Cs hPo ht hs Bs fun ctv h' tk hk hsz => ?_
    have fr : H h'.objs.size = none := I.hok.fresh hsz
    have J : Inv X pins σ (upd H h'.objs.size (LamE h'.objs.size (lamO X params body lsc clos c'))) { s with heap := h'.push (lamO X params body lsc clos c' ctv), toks := tk } :=
      I.laid (fun b u q => Heap.get?_push_of_some _ (hk b u q)) hsz (lamE_ok (ctv := ctv) (Heap.get?_push_size _ rfl))
    have sm := Same.new fr (LamE h'.objs.size (lamO X params body lsc clos c'))
    exact ⟨.ref h'.objs.size, _, J, rfl, k _ c' _ fr sm.t (Tb.same ⟨ps, hP, ht, .inr ⟨c', hs, hc'⟩⟩ sm) upd_same (sm _ _ hc')⟩
end
noncomputable def cxLam (P : Program) (w : World) (K : PySem.W.Frag) (mg : Str → Option Value) (base : Heap) (x y qual : Str) (lsc : Scope) (f c' cc : Addr) (A : Around) (outer : List Env) (s : Shared) (H : Hp) : Cx where
  prog := P
  w := w
  K := K
  mg := mg
  base := base
  A := A.deeper (envX qual lsc s.heap.objs.size f (.ref c') [(y, cc)])
  N := [x, y]
  s₀ := s
  H₀ := H
  env := envX qual lsc s.heap.objs.size f (.ref c') [(y, cc)]
  outer := outer
  stack := envX qual lsc s.heap.objs.size f (.ref c') [(y, cc)] :: outer
  ex := []
  calm := true
  fn := fun _ => false
  pn := []
  xe := fun _ _ => False
theorem lam_run {P : Program} {w : World} {K : PySem.W.Frag} {mg : Str → Option Value} {base : Heap} {x y qual : Str} {lsc : Scope} {params : Arguments} {body : Expr} {f c' cc : Addr} {A : Around} {outer : List Env} {s : Shared} {H : Hp} {Q : VK} {tb : TE} {pm ctv u uy : Value} {v vy : V}
    (hd : A.handled = none) (hdp : A.depth < recursionLimit) (e0 : Env0 P w K mg base A outer s H) (ho : s.heap.get? f = some (kla_obj "<lambda>" qual params body lsc [(y, cc)] pm c' ctv)) (hcd : s.heap.CodeRec (.ref c') qual)
    (hsn : lsc.names = [(x, .local), (y, .free)]) (hxy : (y == x) = false) (hk : lsc.kind = .function) (hco : lsc.isCoroutine = false) (hgen : lsc.isGenerator = false)
    (hb : ∀ u, bindArgs (kla_fn "<lambda>" qual params body lsc [(y, cc)] pm (.ref c') ctv) ⟨[u], []⟩ = pure [(x, u)])
    (hcc : s.heap.IsCell cc (some uy)) (hcn : H cc = none) (rv : RelV v u) (ry : RelV vy uy)
    (hbody : PE (cxLam P w K mg base x y qual lsc f c' cc A outer s H) body tb) (hq : tb [some v, some vy] H Q) :
    wpAny (model P w) A (call (.ref f) [u]) (fun r s' => CE outer P w H s Q r s') (fun _ _ => False) s := by
  have lim : s.heap.NoLimit := e0.mod.nolimit.keeps fun b o e => (e0.bs b o e).1
  have hxb : (x == x) = true := beq_self_eq_true x
  refine wpAny_call (codeAny_mono (R := fun r s' => ∃ v', r = .ok (.ret v') ∧ CE outer P w H s Q v' s') ?_ fun r s' hr => ?_)
  · refine kla_callFunE hdp ho rfl hco hgen rfl hcd ?_
    rw [hb]
    refine wpAny_pure (wpAny_newFunctionEnv (fun z hz => ?_) (fun z hz => ?_) (fun h₁ hns hsb => ⟨lim.fresh _ hsb, ?_⟩) hk)
    · rw [hsn] at hz
      rcases List.mem_cons.mp hz with rfl | hz
      · intro q; cases q
      · rw [List.mem_singleton.mp hz]; intro q; cases q
    · rw [List.mem_singleton.mp hz, hsn, List.lookup_cons, hxb]
    · show codeAny _ _ (.expr body (envX qual lsc s.heap.objs.size f (.ref c') [(y, cc)])) _ _
      have hk₁ : ∀ b o, s.heap.get? b = some o → h₁.get? b = some o := fun b o e => hsb.extBut b o (Nat.ne_of_lt (Heap.lt_size e)) (Heap.get?_push_of_some _ e)
      have lk : ∀ z d, ([(y, cc)] : List (Str × Addr)).lookup z = some d → z = y ∧ d = cc := fun z d e => by
        rw [List.lookup_cons] at e
        cases hz : z == y with
        | true => rw [hz] at e; cases e; exact ⟨eq_of_beq hz, rfl⟩
        | false => rw [hz] at e; cases e
      have kx : lsc.names.lookup x = some .local := by rw [hsn, List.lookup_cons, hxb]
      have ky : lsc.names.lookup y = some .free := by rw [hsn, List.lookup_cons, hxy, List.lookup_cons, beq_self_eq_true]
      have noA : ∀ b : Addr, b ∉ (cxLam P w K mg base x y qual lsc f c' cc A outer s H).ex := fun b z => absurd (show b ∈ ([] : List Addr) from z) (by simp)
      have I : Inv (cxLam P w K mg base x y qual lsc f c' cc A outer s H) [] [some v, some vy] H { s with heap := h₁, toks := s.toks + [(x, u)].length } := by
        refine ⟨⟨e0.mod, hk, rfl, rfl, Nat.le_refl _, fun a b d h1 h2 => ?_, fun z hz => ?_, fun z d h => ?_, fun _ => hd, Around.frames_deeper e0.frames, .inr ⟨rfl, rfl⟩, fun b z => absurd z (noA b), e0.bs, e0.bsz, fun b _ _ => noA b, fun b z => absurd z (noA b), e0.funs, e0.frf⟩,
          rfl, e0.bare, Un.kept hk₁, ⟨_, hns, fun i z vz h1 h2 h3 => ?_⟩, fun z d h => ?_, e0.hok.fresh (Nat.le_refl _), fun z d h => ?_, fun p hp => absurd (show p ∈ ([] : List (Addr × Obj)) from hp) (by simp), e0.hok.kept hk₁, rfl⟩
        · exact (lk a d h1).1.trans (lk b d h2).1.symm
        · have hz' : lsc.names.lookup z = some .cell ∨ lsc.names.lookup z = some .free := hz
          rw [hsn, List.lookup_cons, List.lookup_cons] at hz'
          cases h1 : z == x with
          | true => rw [h1] at hz'; rcases hz' with q | q <;> cases q
          | false =>
            rw [h1] at hz'
            cases h2 : z == y with
            | true => exact ⟨cc, by show ([(y, cc)] : List (Str × Addr)).lookup z = some cc; rw [List.lookup_cons, h2]⟩
            | false => rw [h2] at hz'; rcases hz' with q | q <;> cases q
        · exact absurd (show false = true from h) Bool.false_ne_true
        · match i, h1, h2 with
          | 0, h1, h2 =>
            cases (show some x = some z from h1)
            cases (show some (some v) = some (some vz) from h2)
            exact ⟨u, rv, .inl ⟨kx, by show [(x, u)].reverse.lookup x = some u; rw [show [(x, u)].reverse = [(x, u)] from rfl, List.lookup_cons, hxb]⟩⟩
          | 1, h1, h2 =>
            cases (show some y = some z from h1)
            cases (show some (some vy) = some (some vz) from h2)
            obtain ⟨oc, hoc, hdc⟩ := hcc
            exact ⟨uy, ry, .inr ⟨.inr ky, cc, by show ([(y, cc)] : List (Str × Addr)).lookup y = some cc; rw [List.lookup_cons, beq_self_eq_true], ⟨oc, hk₁ _ _ hoc, hdc⟩⟩⟩
          | n + 2, h1, h2 => exact absurd (show (none : Option (Option V)) = some (some vz) from h2) (by simp)
        · obtain ⟨oc, hoc, hdc⟩ := hcc
          rw [(lk z d h).2]
          exact ⟨_, oc, hk₁ _ _ hoc, hdc⟩
        · rw [(lk z d h).2]; exact hcn
      refine kla_codeExpr (wpAny_mono (hbody [] _ [some v, some vy] H Q I hq) (fun r s' hr => ?_) fun _ _ z => z.elim)
      obtain ⟨v', H', J, r', q⟩ := hr
      exact ⟨r, rfl, v', H', J.os, J.bare, J.base, J.hok, r', q⟩
  · obtain ⟨v', rfl, hr⟩ := hr
    exact hr
theorem clos_of {lsc : Scope} {env : Env} {x y : Str} {cc : Addr} (hn : lsc.names = [(x, .local), (y, .free)]) (hc : env.cells.lookup y = some cc) : closureFor lsc env = pure [(y, cc)] := by
  unfold closureFor cellOf
  rw [hn]
  simp [hc]
end Internal

set_option Elab.async false
set_option linter.all false
set_option maxRecDepth 100000
set_option maxHeartbeats 4000000
namespace Internal
open PySem PySem.W PySem.Spec PySem.Calls PyProof.Rows
end Internal

set_option Elab.async false
set_option linter.all false
set_option maxRecDepth 100000
set_option maxHeartbeats 4000000
namespace Internal
open PySem PySem.W PySem.Spec PySem.Calls PyProof.Rows
section
variable {prog : Program} {w : World} {A : Around} {E : Value → Shared → Prop} {l I S : Addr} {q : Addr} {ns : List Int} {R : Result → Shared → Prop} {Q : Value → Shared → Prop}
set_option genInjectivity false in
set_option genSizeOf false in
structure MinJ (prog : Program) (w : World) (A : Around) (l I S q : Addr) (ns : List Int) (kf : Nat → Int) (J JF : Shared → Prop) : Prop where
  lst : ∀ s, J s → ∃ its : List Value, Vals (ns.map V.int) its ∧ s.heap.IsList l its.toArray
  it : ∀ (s : Shared) (h' : Heap) (tk : Nat), J s → (∃ o, h'.get? I = some o) → (∀ b o, b ∉ [I] → s.heap.get? b = some o → h'.get? b = some o) → J { s with heap := h', toks := tk }
  pl : ∀ (s : Shared) (h' : Heap), J s → s.heap.SameBut S h' → (∃ o, h'.get? S = some o) → J { s with heap := h' }
  fin : ∀ (s : Shared) (h' : Heap) (tk : Nat) (h'' : Heap), J s → (∀ b o, b ∉ [I] → s.heap.get? b = some o → h'.get? b = some o) → h'.SameBut S h'' → JF { s with heap := h'', toks := tk }
  turn : ∀ (i : Nat) (t : Tok), i < ns.length → ∀ s, J s → wpAny (model prog w) A.in1 (call (.ref q) [.int (ns.getD i 0) t]) (fun x s'' => (∃ t, x = .int (kf i) t) ∧ J s'' ∧ ∀ b o, b = I ∨ b = S → s.heap.get? b = some o → s''.heap.get? b = some o) (fun _ _ => False) s
theorem mk_loop (kf : Nat → Int) {J JF : Shared → Prop} (hh : A.handled = none) (M : MinJ prog w A l I S q ns kf J JF) (hlI : l ≠ I) (hSI : S ≠ I)
    (hR : ∀ i t s', i < ns.length → (∀ j, j < ns.length → kf i ≤ kf j ∧ (j < i → kf i < kf j)) → JF s' → R (.ok (.ret (.int (ns.getD i 0) t))) s') :
    ∀ (r j i : Nat) (s : Shared) (tv tb : Tok) (c : Nat), ns.length - (j + 1) = r → j + 1 ≤ ns.length → J s →
      s.heap.get? S = some (seqObj "list" #[.int (ns.getD i 0) tv, .int (kf i) tb] c) → s.heap.IsListIter I l (j + 1) → i < ns.length → i ≤ j → (∀ j', j' ≤ j → kf i ≤ kf j' ∧ (j' < i → kf i < kf j')) →
      codeAny (model prog w) A (.builtin "min.loop" ⟨[.ref I, .ref q, .ref S], []⟩) R s := by
  have hname : (toString "min" ++ toString ".loop" : String) = "min.loop" := by decide
  intro r
  induction r with
  | zero =>
    intro j i s tv tb c hr hj K nS hit hvb hij hbest
    have hin : j + 1 = ns.length := by omega
    obtain ⟨its, rv, hL⟩ := M.lst s K
    have hsz : its.toArray.size = ns.length := by rw [List.size_toArray, ← rv.length, List.length_map]
    have W := Walks.list (prog := prog) (w := w) (A := A.in1) hh I l hlI its.toArray
    refine codeAny_builtin PySem.F.entry_min_loop ?_
    rw [Around.under_plainId PySem.F.plain_min_loop _]
    show wpAny _ A.in1 (seqItems? (.ref S) >>= _) _ _ _
    refine wpAny_bind (wpAny_seqItems nS rfl ?_)
    show wpAny _ A.in1 (tryCatch (pyNext (.ref I)) _ >>= _) _ _ _
    refine wpAny_bind (wpAny_tryCatch (W.done _ _ _ ⟨by rw [hsz, ← hin]; exact hit, hL⟩ fun h' tk' hk' => ?_))
    have hS' := hk' S _ (by simpa using hSI) nS
    have s1 := Heap.SameBut.update h' S (Obj.mapSeq fun _ => (#[] : Array Value))
    show wpAny _ A.in1 (updateSeq S (fun _ => #[]) >>= _) _ _ _
    refine wpAny_bind ?_
    refine wpAny_updateSeq hS' rfl (wpAny_bind (wpAny_letGo (wpAny_pure ?_)))
    exact hR i tv _ hvb (fun j' hj' => hbest j' (by omega)) (M.fin s h' tk' _ K hk' s1)
  | succ r ih =>
    intro j i s tv tb c hr hj K nS hit hvb hij hbest
    have hlt : j + 1 < ns.length := by omega
    obtain ⟨its, rv, hL⟩ := M.lst s K
    have hsz : its.toArray.size = ns.length := by rw [List.size_toArray, ← rv.length, List.length_map]
    have W := Walks.list (prog := prog) (w := w) (A := A.in1) hh I l hlI its.toArray
    refine codeAny_builtin PySem.F.entry_min_loop ?_
    rw [Around.under_plainId PySem.F.plain_min_loop _]
    show wpAny _ A.in1 (seqItems? (.ref S) >>= _) _ _ _
    refine wpAny_bind (wpAny_seqItems nS rfl ?_)
    show wpAny _ A.in1 (tryCatch (pyNext (.ref I)) _ >>= _) _ _ _
    refine wpAny_bind (wpAny_tryCatch (W.item (j + 1) _ _ _ (by rw [hsz]; exact hlt) ⟨hit, hL⟩ fun v h' tk' hP hst' hk' => ?_))
    obtain ⟨tw, rfl⟩ := int_at rv hP
    obtain ⟨oI', hoI', hoc, hod⟩ := id hst'.1
    have K1 := M.it s h' tk' K ⟨_, hoI'⟩ hk'
    have nS1 := hk' S _ (by simpa using hSI) nS
    show wpAny _ A.in1 (tryCatch (holding [.int (ns.getD (j + 1) 0) tw] (call (.ref q) [.int (ns.getD (j + 1) 0) tw])) _ >>= _) _ _ _
    refine wpAny_bind (wpAny_tryCatch (wpAny_holding (wpAny_mono (M.turn (j + 1) tw hlt _ K1) (fun x s'' he => ?_) fun _ _ hF => hF.elim)))
    obtain ⟨⟨t2, rfl⟩, K2, kp⟩ := he
    have nS2 := kp S _ (.inr rfl) nS1
    have hit2 : s''.heap.IsListIter I l (j + 1 + 1) := ⟨oI', kp I _ (.inl rfl) hoI', hoc, hod⟩
    show wpAny _ A.in1 (tryCatch (holding [.int (ns.getD (j + 1) 0) tw, .int (kf (j + 1)) t2] (richCompare .Lt (.int (kf (j + 1)) t2) (.int (kf i) tb) >>= _)) _ >>= _) _ _ _
    refine wpAny_bind (wpAny_tryCatch (wpAny_holding (wpAny_bind (CmpOf.ints_lt (prog := prog) (w := w) (A := A.in1) (P := fun i v => ∃ t, v = .int (kf i) t) kf (fun i v h => h) (j + 1) i _ _ _ _ _ ⟨t2, rfl⟩ ⟨tb, rfl⟩ ?_))))
    refine wpAny_bind (wpAny_holding (wpAny_truthy_bool ?_))
    refine wpAny_bind (wpAny_letGo (wpAny_pure ?_))
    by_cases hb' : kf (j + 1) < kf i
    · have s1 := Heap.SameBut.update s''.heap S (Obj.mapSeq fun _ => #[.int (ns.getD (j + 1) 0) tw, .int (kf (j + 1)) t2])
      obtain ⟨c2, hc2⟩ : ∃ c2, (s''.heap.update S (Obj.mapSeq fun _ => #[.int (ns.getD (j + 1) 0) tw, .int (kf (j + 1)) t2])).get? S = some (seqObj "list" #[.int (ns.getD (j + 1) 0) tw, .int (kf (j + 1)) t2] c2) := ⟨_, get?_update_seq nS2 fun _ => #[.int (ns.getD (j + 1) 0) tw, .int (kf (j + 1)) t2]⟩
      simp only [hb', decide_true, if_true]
      refine wpAny_bind ?_
      refine wpAny_updateSeq nS2 rfl (wpAny_bind (wpAny_letGo ?_))
      rw [hname]
      refine wpAny_pure ⟨plainId_quiet PySem.F.plain_min_loop _, ih (j + 1) (j + 1) _ tw t2 c2 (by omega) hlt (M.pl _ _ K2 s1 ⟨_, hc2⟩) hc2 ⟨oI', (s1.2 I hSI.symm).trans (kp I _ (.inl rfl) hoI'), hoc, hod⟩ hlt (Nat.le_refl _) fun j' hj' => ?_⟩
      by_cases e : j' = j + 1
      · subst e
        exact ⟨by omega, fun _ => by omega⟩
      · have hb1 := hbest j' (by omega)
        have hb2 := hb1.1
        exact ⟨by omega, fun _ => by omega⟩
    · simp only [hb', decide_false, Bool.false_eq_true, if_false]
      refine wpAny_bind (wpAny_letGo ?_)
      rw [hname]
      refine wpAny_pure ⟨plainId_quiet PySem.F.plain_min_loop _, ih (j + 1) i _ tv tb c (by omega) hlt K2 nS2 hit2 hvb (by omega) fun j' hj' => ?_⟩
      by_cases e : j' = j + 1
      · subst e
        exact ⟨by omega, fun _ => by omega⟩
      · exact hbest j' (by omega)
theorem mk_call (kf : Nat → Int) {s : Shared} (J JF : Addr → Addr → Shared → Prop) (hh : A.handled = none) (hl : ∃ v, s.heap.IsList l v) (hne : ns ≠ [])
    (start : ∀ I S h', I = s.heap.objs.size → S = I + 1 → (∃ o, h'.get? I = some o) → (∃ o, h'.get? S = some o) → (∀ b o, s.heap.get? b = some o → h'.get? b = some o) → J I S { s with heap := h' })
    (M : ∀ I S, I = s.heap.objs.size → S = I + 1 → MinJ prog w A l I S q ns kf (J I S) (JF I S))
    (hQ : ∀ I S i t s', I = s.heap.objs.size → S = I + 1 → i < ns.length → (∀ j, j < ns.length → kf i ≤ kf j ∧ (j < i → kf i < kf j)) → JF I S s' → Q (.int (ns.getD i 0) t) s') :
    wpAny (model prog w) A (call (.builtin "min") [.ref l] [(Str.ofString "key", .ref q)]) Q E s := by
  have hname : (toString "min" ++ toString ".loop" : String) = "min.loop" := by decide
  obtain ⟨va, hl⟩ := hl
  obtain ⟨ol, hol, _⟩ := id hl
  have hll : l < s.heap.objs.size := Heap.lt_size hol
  refine kmb_tree PySem.F.kind_min PySem.F.plain_min PySem.F.entry_min (kmb_min_key _ _) ?_
  show wpAny _ A.in1 (Builtin.Builtins.bindParams "min" ["key", "default"] 0 ⟨[], [(Str.ofString "key", .ref q)]⟩ >>= _) _ _ s
  refine wpAny_bind (wpAny_of_eq (show Builtin.Builtins.bindParams "min" ["key", "default"] 0 ⟨[], [(Str.ofString "key", .ref q)]⟩ = pure [some (.ref q), none] from rfl) ?_)
  refine wpAny_bind (wpAny_pure ?_)
  refine wpAny_bind (wpAny_pyIter_list hl ?_)
  refine wpAny_bind (wpAny_newList ?_ (Nat.zero_le _))
  rw [hname]
  have hS : (s.heap.push { cls := .type "list_iterator", data := .fields #[.ref l, .int 0 0] }).objs.size = s.heap.objs.size + 1 := size_push' ..
  have hlI : l ≠ s.heap.objs.size := Nat.ne_of_lt hll
  have hSI : (s.heap.push { cls := .type "list_iterator", data := .fields #[.ref l, .int 0 0] }).objs.size ≠ s.heap.objs.size := by rw [hS]; exact Nat.ne_of_gt (Nat.lt_succ_self _)
  refine wpAny_pure ⟨plainId_quiet PySem.F.plain_min_loop _, ?_⟩
  have gI : ((s.heap.push { cls := .type "list_iterator", data := .fields #[.ref l, .int 0 0] }).push (seqObj "list" #[] 0)).get? s.heap.objs.size = some { cls := .type "list_iterator", data := .fields #[.ref l, .int 0 0] } :=
    Heap.get?_push_of_some _ (Heap.get?_push_size _ rfl)
  have gS : ((s.heap.push { cls := .type "list_iterator", data := .fields #[.ref l, .int 0 0] }).push (seqObj "list" #[] 0)).get? (s.heap.push { cls := .type "list_iterator", data := .fields #[.ref l, .int 0 0] }).objs.size = some (seqObj "list" #[] 0) := Heap.get?_push_size _ rfl
  have KH : ∀ b o, s.heap.get? b = some o → ((s.heap.push { cls := .type "list_iterator", data := .fields #[.ref l, .int 0 0] }).push (seqObj "list" #[] 0)).get? b = some o := fun b o e => Heap.get?_push_of_some _ (Heap.get?_push_of_some _ e)
  have J0 := start s.heap.objs.size (s.heap.objs.size + 1) _ rfl rfl ⟨_, gI⟩ ⟨_, hS ▸ gS⟩ KH
  have M0 := M s.heap.objs.size (s.heap.objs.size + 1) rfl rfl
  obtain ⟨its, rv, hL⟩ := M0.lst _ J0
  have hsz : its.toArray.size = ns.length := by rw [List.size_toArray, ← rv.length, List.length_map]
  have W := Walks.list (prog := prog) (w := w) (A := A.in1) hh s.heap.objs.size l hlI its.toArray
  rw [hS] at gS hSI ⊢
  generalize hH2 : (s.heap.push { cls := .type "list_iterator", data := .fields #[.ref l, .int 0 0] }).push (seqObj "list" #[] 0) = H2 at *
  refine codeAny_builtin PySem.F.entry_min_loop ?_
  rw [Around.under_plainId PySem.F.plain_min_loop _]
  show wpAny _ A.in1 (seqItems? (.ref (s.heap.objs.size + 1)) >>= _) _ _ _
  refine wpAny_bind (wpAny_seqItems gS rfl ?_)
  show wpAny _ A.in1 (tryCatch (pyNext (.ref s.heap.objs.size)) _ >>= _) _ _ _
  have hpos : 0 < ns.length := List.length_pos_iff.mpr hne
  refine wpAny_bind (wpAny_tryCatch (W.item 0 _ _ _ (by rw [hsz]; exact hpos) ⟨⟨_, gI, rfl, rfl⟩, hL⟩ fun v h' tk' hP hst' hk' => ?_))
  obtain ⟨tw, rfl⟩ := int_at rv hP
  obtain ⟨oI', hoI', hoc, hod⟩ := id hst'.1
  have K1 := M0.it _ h' tk' J0 ⟨_, hoI'⟩ hk'
  have nS1 := hk' (s.heap.objs.size + 1) _ (by simpa using hSI) gS
  show wpAny _ A.in1 (tryCatch (holding [.int (ns.getD 0 0) tw] (call (.ref q) [.int (ns.getD 0 0) tw])) _ >>= _) _ _ _
  refine wpAny_bind (wpAny_tryCatch (wpAny_holding (wpAny_mono (M0.turn 0 tw hpos _ K1) (fun x s'' he => ?_) fun _ _ hF => hF.elim)))
  obtain ⟨⟨t2, rfl⟩, K2, kp⟩ := he
  have nS2 := kp _ _ (.inr rfl) nS1
  have s1 := Heap.SameBut.update s''.heap (s.heap.objs.size + 1) (Obj.mapSeq fun _ => #[.int (ns.getD 0 0) tw, .int (kf 0) t2])
  obtain ⟨c2, hc2⟩ : ∃ c2, (s''.heap.update (s.heap.objs.size + 1) (Obj.mapSeq fun _ => #[.int (ns.getD 0 0) tw, .int (kf 0) t2])).get? (s.heap.objs.size + 1) = some (seqObj "list" #[.int (ns.getD 0 0) tw, .int (kf 0) t2] c2) := ⟨_, get?_update_seq nS2 fun _ => #[.int (ns.getD 0 0) tw, .int (kf 0) t2]⟩
  show wpAny _ A.in1 (updateSeq (s.heap.objs.size + 1) (fun _ => #[.int (ns.getD 0 0) tw, .int (kf 0) t2]) >>= _) _ _ _
  refine wpAny_bind ?_
  refine wpAny_updateSeq nS2 rfl ?_
  rw [hname]
  refine wpAny_pure ⟨plainId_quiet PySem.F.plain_min_loop _, mk_loop kf hh M0 hlI hSI (fun i t s' hi hb K => hQ _ _ i t s' rfl rfl hi hb K) _ 0 0 _ tw t2 c2 rfl hpos (M0.pl _ _ K2 s1 ⟨_, hc2⟩) hc2 ⟨oI', (s1.2 _ hSI.symm).trans (kp _ _ (.inl rfl) hoI'), hoc, hod⟩ hpos (Nat.le_refl _) fun j' hj' => ?_⟩
  have e : j' = 0 := by omega
  subst e
  exact ⟨by omega, fun h => absurd h (Nat.lt_irrefl _)⟩
end
noncomputable def tMK (ta : TA) (tb : TE) (j : Nat) (T : Addr) (lpos : Pos) (q : Str) : TE := fun σ H Q => ta σ H fun vs H1 => Tb H1 T lpos q ∧ ∃ (r : Addr) (ns : List Int) (u : V) (g : Int → Int), vs = [.ref r] ∧ H1 r = some (.lst (ns.map V.int)) ∧ ns ≠ [] ∧ σ[j]? = some (some u) ∧
  (∀ x ∈ ns, ∀ H2, SameT H1 H2 → tb [some (.int x), some u] H2 (fun v H3 => v = .int (g x) ∧ Same H2 H3)) ∧
  ∀ x H3, x ∈ ns → (∀ y ∈ ns, g x ≤ g y) → SameT H1 H3 → Tb H3 T lpos q → Q (.int x) H3
theorem pe_minK {X : Cx} {p pos kp lpos : Pos} {e : Expr} {ta : TA} {tb : TE} {params : Arguments} {body : Expr} {lsc : Scope} {x y : Str} {c T : Addr} {j k : Nat} (hg : Gl X "min") (hm : X.mg "min" = none) (hv : bootBuiltins "min" = some (.builtin "min")) (ha : PA X [e] ta)
    (hcode : X.env.code = .ref c) (C : CodeHd X.base c T) (B : X.base.BuiltinsAt X.mg T) (hN : X.N[j]? = some y) (hy : X.env.kindOf y = some .cell) (hr : Room (k + 1) X.A)
    (hbody : ∀ f c' cc A s H, PE (cxLam X.prog X.w X.K X.mg X.base x y (X.env.qual ++ "<lambda>") lsc f c' cc A X.stack s H) body tb)
    (hdef : autoParam (defaultsOf params X.env = ([], [])) Internal.aut2._auto_1) (hsn : autoParam (lsc.names = [(x, .local), (y, .free)]) Internal.aut2._auto_1) (hxy : autoParam ((y == x) = false) Internal.aut1._auto_1) (hk : autoParam (lsc.kind = .function) Internal.aut2._auto_1) (hco : autoParam (lsc.isCoroutine = false) Internal.aut2._auto_1) (hgen : autoParam (lsc.isGenerator = false) Internal.aut2._auto_1)
    (hb : autoParam (∀ cc pm c' ctv u, bindArgs (kla_fn "<lambda>" (X.env.qual ++ "<lambda>") params body lsc [(y, cc)] pm (.ref c') ctv) ⟨[u], []⟩ = pure [(x, u)]) Internal.aut5._auto_1)
    (he : autoParam (backTo pos (starEach [e] X.env) = (false, eval e X.env) :: backTo pos (starEach [] X.env)) Internal.aut2._auto_1)
    (hplain : autoParam ((backTo pos (starEach [e] X.env)).any (·.1) = false) Internal.aut2._auto_1) : PE X (.Call (.Name "min" p) [e] [⟨some "key", .Lambda params body lsc lpos, kp⟩] pos) (tMK ta tb j T lpos (X.env.qual ++ "<lambda>")) := by
  intro pins s σ H Q I h
  refine wpAny_Call_Name_kw (ld_blt I hg hm hv ?_ (by decide) (by decide))
  refine PyProof.Rows.callWith_kw ?_ he hplain
  refine thn (ha pos pins s σ H _ I h) fun us s1 zz => ?_
  obtain ⟨vs, H1, I1, rv, hT, r, ns, u, g, rfl, hr1, hne, hu, hkey, kk⟩ := zz
  obtain ⟨u1, rfl, r1⟩ := vals1 rv
  cases r1
  obtain ⟨cc, hcc⟩ := I1.ok.has y (.inl hy)
  have cellY : ∀ {H' : Hp} {s' : Shared}, Inv X pins σ H' s' → ∃ u', RelV u u' ∧ s'.heap.IsCell cc (some u') := fun {H' s'} I' => by
    obtain ⟨m, hn, hl⟩ := I'.loc
    obtain ⟨u', ru, l⟩ := hl j y u hN hu (.inr (.inl hy))
    rcases l with ⟨hk', _⟩ | ⟨_, c2, hc2, hcell⟩
    · rw [hy] at hk'; cases hk'
    · rw [hcc] at hc2; cases hc2
      exact ⟨u', ru, hcell⟩
  refine thn (pk_cons (t := tNil) (nm := some "key") (kpos := kp) (pe_lam (lpos := lpos) (params := params) (body := body) hdef (clos_of hsn hcc) hcode C B) pk_nil pos pins s1 σ H1 (fun ws H2 => ∃ f c', ws = [.ref f] ∧ H1 f = none ∧ SameT H1 H2 ∧ Tb H2 T lpos (X.env.qual ++ "<lambda>") ∧ H2 f = some (LamE f (lamO X params body lsc [(y, cc)] c')) ∧ H2 c' = some (CodeE c' (X.env.qual ++ "<lambda>"))) I1 ⟨hT, fun f c' H' h1 h2 h3 h4 h5 => ⟨f, c', rfl, h1, h2, h3, h4, h5⟩⟩) fun kvs s2 zz => ?_
  obtain ⟨ws, H2, I2, rw2, f, c', rfl, hf0, st, hT2, hF, hC⟩ := zz
  obtain ⟨u2, rfl, r3⟩ := vals1 rw2
  cases r3
  have hr2 := st.at hr1
  obtain ⟨its0, rv0, pl0, hl0, hlt0⟩ := I2.walk (SqL.of hr2)
  show wpAny (model X.prog X.w) X.A (call (.builtin "min") [.ref r] [(Str.ofString "key", .ref f)]) (EP X pins σ Q) X.xe s2
  have hd := hr.hd
  have hdp : X.A.in1.depth < recursionLimit := by have := hr.dp; show X.A.depth < _; omega
  have nf : ∀ b, s2.heap.objs.size ≤ b → b ∉ frs X.stack := fun b hb z => by
    rcases List.mem_cons.mp (I2.stkSub b z) with q | q
    · exact absurd (show b < s2.heap.objs.size from q ▸ I2.lt) (Nat.not_lt.mpr hb)
    · exact I2.nofs hb q
  have ncell : ∀ b, s2.heap.objs.size ≤ b → ∀ z d, X.env.cells.lookup z = some d → d ≠ b := fun b hb z d hz q => by
    obtain ⟨v, o, ho, _⟩ := I2.cell z d hz
    exact absurd (Heap.lt_size ho) (Nat.not_lt.mpr (q ▸ hb))
  have npin : ∀ b, s2.heap.objs.size ≤ b → ∀ q ∈ X.pn ++ pins, q.1 ≠ b := fun b hb q hq z => by
    exact absurd (Heap.lt_size (I2.pin q hq).1) (Nat.not_lt.mpr (z ▸ hb))
  have nloc : ∀ b, s2.heap.objs.size ≤ b → b ≠ X.env.locals := fun b hb z => absurd (show b < s2.heap.objs.size from z ▸ I2.lt) (Nat.not_lt.mpr hb)
  have turned : ∀ {H' : Hp} {s' : Shared} {b : Addr} {h' : Heap} (tk : Nat), s2.heap.objs.size ≤ b → Inv X pins σ H' s' → H' b = none → (∀ d o, d ≠ b → s'.heap.get? d = some o → h'.get? d = some o) → Inv X pins σ H' { s' with heap := h', toks := tk } := fun tk hb I' hn hk => I'.turned (t' := tk) hk hn (nloc _ hb) (.inr (Nat.le_trans I2.sz hb)) (ncell _ hb) (npin _ hb)
  refine mk_call (fun i => g (ns.getD i 0)) (fun I S s' => ∃ H' : Hp, Inv X pins σ H' s' ∧ Same H2 H' ∧ H' I = none ∧ H' S = none ∧ (∃ o, s'.heap.get? I = some o) ∧ ∃ o, s'.heap.get? S = some o) (fun I S s' => ∃ H' : Hp, Inv X pins σ H' s' ∧ Same H2 H') hd ⟨_, pl0⟩ hne (fun Ia Sa h' eI eS oI oS hk => ?_) (fun Ia Sa eI eS => ⟨fun s' hJ => ?_, fun s' h' tk hJ oI hk' => ?_, fun s' h' hJ sb oS => ?_, fun s' h' tk h'' hJ hk' sb => ?_, fun i t hi s' hJ => ?_⟩) (fun Ia Sa i t s' eI eS hi hbest hJ => ?_)
  · refine ⟨H2, I2.kept hk, Same.refl _, I2.hok.fresh (by omega), I2.hok.fresh (by omega), oI, oS⟩
  · obtain ⟨H', I', sm, _⟩ := hJ
    obtain ⟨its, rv', pl, _, _⟩ := I'.walk (SqL.of (sm _ _ hr2))
    exact ⟨its, rv', pl⟩
  · obtain ⟨H', I', sm, nI, nS, _, oS, hoS⟩ := hJ
    exact ⟨H', turned tk (by omega) I' nI fun d o hd q => hk' d o (by simpa using hd) q, sm, nI, nS, oI, oS, hk' Sa oS (by rw [List.mem_singleton]; exact fun z => Nat.lt_irrefl Ia (by have z' : (Sa : Nat) = Ia := z; omega)) hoS⟩
  · obtain ⟨H', I', sm, nI, nS, ⟨oI, hoI⟩, _⟩ := hJ
    exact ⟨H', turned s'.toks (by omega) I' nS fun d o hd q => (sb.2 d hd).trans q, sm, nI, nS, ⟨oI, (sb.2 Ia (fun z => Nat.lt_irrefl Ia (by have z' : (Ia : Nat) = Sa := z; omega))).trans hoI⟩, oS⟩
  · obtain ⟨H', I', sm, nI, nS, _⟩ := hJ
    have I1' := turned (b := Ia) (h' := h') tk (by omega) I' nI fun d o hd q => hk' d o (by simpa using hd) q
    exact ⟨H', turned (s' := { s' with heap := h', toks := tk }) (b := Sa) (h' := h'') tk (by omega) I1' nS fun d o hd q => (sb.2 d hd).trans q, sm⟩
  · obtain ⟨H', I', sm, nI, nS, ⟨oI, hoI⟩, oS, hoS⟩ := hJ
    obtain ⟨⟨ctv, hfo⟩, _⟩ := I'.hok f _ (sm _ _ hF)
    obtain ⟨hcd, _⟩ := I'.hok c' _ (sm _ _ hC)
    obtain ⟨uy, ry, hcell⟩ := cellY I'
    have hmem : ns.getD i 0 ∈ ns := List.mem_of_getElem? (getD_get hi)
    refine wpAny_mono (lam_run (A := X.A.in1) (v := .int (ns.getD i 0)) hd hdp I'.env0.in1 hfo hcd hsn hxy hk hco hgen (fun u => hb cc _ c' ctv u) hcell (I'.freeC y cc hcc) ⟨t, rfl⟩ ry (hbody f c' cc _ _ _) (hkey _ hmem H' (st.trans sm.t))) (fun kv s'' hce => ?_) fun _ _ z => z
    obtain ⟨v', H'', os, bare, un, hok, rv', hv', sm2⟩ := hce
    subst hv'
    have kI := un.keep Ia _ hoI nI (nf Ia (by omega)) (by simp)
    have kS := un.keep Sa _ hoS nS (nf Sa (by omega)) (by simp)
    have fI := un.free Ia _ hoI nI (by simp)
    have fS := un.free Sa _ hoS nS (by simp)
    obtain ⟨hh, gg, dd, tt, os'⟩ := s''
    obtain rfl : os' = s'.os := os
    have J1 : Inv X pins σ H'' ⟨hh, gg, dd, tt, s'.os⟩ := I'.call (h' := hh) (g' := gg) (d' := dd) (t' := tt) (ch := []) un hok bare (fun b z => absurd z (by simp))
    refine ⟨rv', ⟨H'', J1, sm.trans sm2, fI, fS, ⟨oI, kI⟩, oS, kS⟩, fun b o hb q => ?_⟩
    rcases hb with rfl | rfl
    · rw [hoI] at q; cases q; exact kI
    · rw [hoS] at q; cases q; exact kS
  · obtain ⟨H', I', sm⟩ := hJ
    refine ⟨.int (ns.getD i 0), H', I', ⟨t, rfl⟩, kk _ H' (List.mem_of_getElem? (getD_get hi)) (fun y' hy' => ?_) (st.trans sm.t) (hT2.same sm)⟩
    obtain ⟨j', hj', ej'⟩ := List.getElem_of_mem hy'
    have := (hbest j' hj').1
    rwa [show ns.getD j' 0 = y' by rw [List.getD_eq_getElem?_getD, List.getElem?_eq_getElem hj', ej']; rfl] at this
end Internal

set_option Elab.async false
set_option linter.all false
set_option maxRecDepth 100000
namespace Internal
open PySem PySem.W PySem.Calls PyProof.Rows
theorem weights_le {n : Nat} : ∀ (ns : List Int), WData.weightAll (ns.map WData.int) ≤ n → ∀ i ∈ ns, sz i ≤ n
  | [], _, _, h => nomatch h
  | j :: r, h, i, hi => by
    rw [List.map_cons, WData.weightAll] at h
    rcases List.mem_cons.mp hi with rfl | hi
    · have : WData.weight (.int i) = sz i := by rw [WData.weight]; rfl
      omega
    · exact weights_le r (by omega) i hi
noncomputable def Light (ns : List Int) : Prop := ∀ i ∈ ns, sz i ≤ 1048576
theorem light_of {ns : List Int} (h : WData.layableAll [WData.list (ns.map WData.int)] = true) : Light ns := by
  unfold WData.layableAll at h
  rw [List.all_cons, List.all_nil, Bool.and_true] at h
  unfold WData.layable at h
  rw [Bool.and_eq_true, decide_eq_true_eq] at h
  have h2 := h.2
  rw [WData.weight] at h2
  exact weights_le ns (Nat.le_trans h2 (by decide))
theorem attach_callZ {l : OpenLaw} {n : Nat} {q : Program} {loose : List Str} {XP : (Str → Option Value) → Heap → Prop} {YP : World → Heap → Prop} {d : DefRec}
    (hn : l.most = some n) (hdf : d.params.defaults = [])
    (call : ∀ (w : World) (s₀ s₁ : Shared) (mg mb : Str → Option Value) (fa : Addr) (a : Addr) (vs : List Value) (ns : List Int),
      Ground q loose [] XP w s₀ mg mb s₁.heap → YP w s₁.heap → mg d.name = some (.ref fa) →
      s₁.heap.get? a = some { cls := .type "list", data := .seq vs.toArray } → IntsAre vs ns → ns.length ≤ n → Light ns → s₁.gens = #[] →
      codeAny (model l.prog w) callerA (.call (.ref fa) ⟨[.ref a], []⟩) (fun r s' => r = .ok (.ret (.bool true)) ∧ OldK s₁.heap s'.heap ∧ s'.os = s₁.os ∧ AllBare s'.gens) s₁) :
    WalkO q loose XP YP l.row.toRowW d [] (fun f vs => PySem.call f vs) := by
  intro w s₀ s₁ mg mb G Y fa o pm cd doc dV kV ho hd hcd hD hmg hg args vals as hpre hlay hrd hwl hlo
  obtain ⟨a, vs, ns, rfl, rfl, hobj, hints, hlen⟩ := Att.script_of hn hpre hwl
  refine enter_call (codeAny_mono (call w s₀ s₁ mg mb fa a vs ns G Y hmg hobj hints hlen (light_of hlay) hg) fun r s' hq => ?_)
  obtain ⟨rfl, h2, h3, h4⟩ := hq
  exact ⟨.inl ⟨.bool true, .bool true, [], rfl, fun _ => rfl, .bool true, Att.post_true l _, fun _ => ⟨List.Pairwise.nil, fun _ hm => (nomatch hm)⟩⟩, h2, h3, h4⟩
end Internal
namespace Internal
open PySem PySem.Spec PyProof.Rows
noncomputable def Within (m : Int) (k : Nat) (f : Nat → Int) : Prop := ∀ j, j < k → -m ≤ f j ∧ f j ≤ m
end Internal

set_option Elab.async false
set_option linter.all false
set_option maxRecDepth 100000
set_option maxHeartbeats 4000000
namespace Internal
open PySem PySem.W PySem.Spec PySem.Calls PyProof.Rows
theorem law_callT {P : Program} {w : World} {K : PySem.W.Frag} {mg mb : Str → Option Value} {CX : CXT} {k : Nat} {fa a c T : Addr} {fd : FuncData} {x : Str} {sp : Sp} {s₁ : Shared} {vs : List Value} {ns : List Int}
    (KX : K.In s₁.heap) (hns : s₁.heap.Ns mainGlobals mg) (hb : s₁.heap.Ns builtinsNs mb) (hbb : ∀ x : Str, x ≠ "__name__" → mb x = bootBuiltins x) (hlim : s₁.heap.NoLimit) (hg : s₁.gens = #[])
    (ha : s₁.heap.get? a = some { cls := .type "list", data := .seq vs.toArray }) (hi : IntsAre vs ns) (hl : ns.length ≤ sizeLine) (hr : Room k callerA)
    (hC : CodeHd s₁.heap c T) (hT : s₁.heap.get? T = some (tabObj #[])) (hKT : K.lookup T = none) (hB : s₁.heap.BuiltinsAt mg T)
    (F : ∀ base : Heap, K.In base → base.Ns mainGlobals mg → CodeHd base c T → base.BuiltinsAt mg T → FnOk P w K mg base CX k fa fd [x] sp) (hbind : ∀ (s : Shared) (u : Value), BindsTo s fd ⟨[u], []⟩ [(x, u)])
    (hsp : ∀ H : Hp, SqL K H a (ns.map V.int) → H T = some (.tbl #[]) → sp [.ref a] H (fun v _ => v = .bl true) fun _ _ _ => False)
    (hCX : ∀ H e s', CX [] H s₁ (fun _ _ _ => False) e s' → False) :
    codeAny (model P w) callerA (.call (.ref fa) ⟨[.ref a], []⟩) (fun r s' => r = .ok (.ret (.bool true)) ∧ OldK s₁.heap s'.heap ∧ s'.os = s₁.os ∧ AllBare s'.gens) s₁ := by
  have rv := vals_ints hi
  have lenV := hi.length
  have neTa : T ≠ a := fun z => by rw [z, ha] at hT; cases hT
  have core : ∀ Hs : Hp, Only Hs → SqL K Hs a (ns.map V.int) → HOk P w Hs s₁.heap → (∀ b, Hs b ≠ none → b = a) → (Hs a ≠ none → K.lookup a = none) →
      codeAny (model P w) callerA (.call (.ref fa) ⟨[.ref a], []⟩) (fun r s' => r = .ok (.ret (.bool true)) ∧ OldK s₁.heap s'.heap ∧ s'.os = s₁.os ∧ AllBare s'.gens) s₁ := by
    intro Hs hO hS hoks hA hK
    have hsT : Hs T = none := by
      cases q : Hs T with
      | none => rfl
      | some u => exact absurd (hA T (by rw [q]; simp)) neTa
    obtain ⟨H, eH⟩ : ∃ H, H = upd Hs T (.tbl #[]) := ⟨_, rfl⟩
    have aT : H T = some (.tbl #[]) := by rw [eH]; exact upd_same
    have aO : ∀ b, b ≠ T → H b = Hs b := fun b h => by rw [eH, upd_ne h]
    have hok : HOk P w H s₁.heap := fun b o e => by
      by_cases h : b = T
      · subst h; rw [aT] at e; cases e
        exact hT
      · rw [aO b h] at e
        exact (hoks b o e).stay (fun d u _ q => q) (fun d q => by rw [aO d (ne_of_none q hsT)]; exact q) fun d xs q => by rw [aO d (ne_of_none q hsT)]; exact q
    have hSH : SqL K H a (ns.map V.int) := by
      rcases hS with (h | ⟨o, h⟩) | h
      · exact .inl (.inl (by rw [aO a neTa.symm]; exact h))
      · exact .inl (.inr ⟨o, by rw [aO a neTa.symm]; exact h⟩)
      · exact .inr h
    have base_of : ∀ {b : Addr} {o : Obj}, s₁.heap.get? b = some o → H b = none → (hidT s₁.heap H).get? b = some o := fun e n => hidT_get e n
    have noH : ∀ {b : Addr} {o : Obj}, s₁.heap.get? b = some o → o.cls ≠ .none → o.cls ≠ .type "list" → H b = none := fun {b o} e d1 d2 => by
      have hbT : b ≠ T := fun z => by rw [z, hT] at e; cases e; exact d1 rfl
      rw [aO b hbT]
      cases q : Hs b with
      | none => rfl
      | some u =>
        have e' : b = a := hA b (by rw [q]; simp)
        subst e'
        rw [ha] at e; cases e
        exact absurd rfl d2
    have noA : ∀ {b : Addr} {o : Obj} {es : Array DictEntry} {ep : Nat}, s₁.heap.get? b = some o → o.data = .dict es ep → H b = none := fun {b o es ep} e d => by
      have hbT : b ≠ T := fun z => by rw [z, hT] at e; cases e; cases d
      rw [aO b hbT]
      cases q : Hs b with
      | none => rfl
      | some u =>
        have e' : b = a := hA b (by rw [q]; simp)
        subst e'
        rw [ha] at e; cases e
        cases d
    have nsK : ∀ {b : Addr} {m : Str → Option Value}, s₁.heap.Ns b m → (hidT s₁.heap H).Ns b m := fun {b m} ⟨o, es, ep, e, d, r⟩ => ⟨o, es, ep, base_of e (noA e d), d, r⟩
    have hKb : K.In (hidT s₁.heap H) := fun b o e => base_of (KX b o e) (by
      have hbT : b ≠ T := fun z => by rw [z, hKT] at e; cases e
      rw [aO b hbT]
      cases q : Hs b with
      | none => rfl
      | some u =>
        have e' : b = a := hA b (by rw [q]; simp)
        subst e'
        rw [hK (by rw [q]; simp)] at e; cases e)
    have hM : Mod K mg (hidT s₁.heap H) := ⟨hKb, nsK hns, ⟨mb, nsK hb, hbb⟩, let ⟨mc, h1, h2⟩ := hlim; ⟨mc, nsK h1, h2⟩⟩
    have hCb : CodeHd (hidT s₁.heap H) c T := by
      obtain ⟨o, us, file, tf, flags, tg, inF, text, tt, e1, e2, r⟩ := hC
      exact ⟨o, us, file, tf, flags, tg, inF, text, tt, base_of e1 (noH e1 (by rw [e2]; decide) (by rw [e2]; decide)), e2, r⟩
    have hBb : (hidT s₁.heap H).BuiltinsAt mg T := by
      obtain ⟨bm, o, b1, b2, b3, b4, b5, b6, r⟩ := hB
      exact ⟨bm, o, b1, b2, b3, b4, base_of b5 (noH b5 (by rw [b6]; decide) (by rw [b6]; decide)), b6, r⟩
    have e0 : Env0 P w K mg (hidT s₁.heap H) callerA [] s₁ H := ⟨rfl, hM, fun b o e => of_hidT e, Nat.le_of_eq (hidT_size _ _), trivial, fun b hb => absurd (show b ∈ ([] : List Addr) from hb) (by simp), hok, .of_eq hg⟩
    refine codeAny_mono ((F _ hKb (nsK hns) hCb hBb).run callerA [] s₁ H ⟨[.ref a], []⟩ [.ref a] [.ref a] _ _ hr e0 (hbind s₁ (.ref a)) (.cons rfl .nil) (hsp H hSH aT)) fun r s' h => ?_
    cases r with
    | error e => exact (hCX H e s' h).elim
    | ok fl =>
      cases fl with
      | next => exact False.elim h
      | brk => exact False.elim h
      | cont => exact False.elim h
      | ret u =>
        obtain ⟨v, H', os, bare, un, hok', r', q⟩ := h
        have q' : v = .bl true := q
        subst q'
        obtain rfl : u = Value.bool true := r'
        have hgrown : ∃ more, s'.heap.get? T = some (tabObj more) := by
          obtain ⟨more, e⟩ := un.tbls T #[] aT
          exact ⟨_, hok' T _ e⟩
        have keep : ∀ b o, b ≠ T → s₁.heap.get? b = some o → s'.heap.get? b = some o := fun b o hbT e => by
          cases q : Hs b with
          | none => exact un.keep b o e (by rw [aO b hbT]; exact q) (by intro z; exact absurd (show b ∈ ([] : List Addr) from z) (by simp)) (by simp)
          | some u =>
            rcases hO b with z | ⟨ob, xs, z⟩
            · rw [q] at z; cases z
            · have z1 : H b = some (.frz ob (.lst xs)) := by rw [aO b hbT]; exact z
              have z2 := un.frzs b ob _ z1
              obtain ⟨e1, _⟩ := hok b _ z1
              obtain ⟨e2, _⟩ := hok' b _ z2
              rw [e] at e1; cases e1
              exact e2
        refine ⟨rfl, ⟨fun b o e => ?_, fun b o e => ?_⟩, os, bare⟩
        · by_cases hbT : b = T
          · subst hbT
            rw [hT] at e; cases e
            obtain ⟨more, hm⟩ := hgrown
            exact .inr (.inl ⟨(hC.tab hT).isCodeTable, rfl, #[], more, rfl, by rw [Array.empty_append]; exact hm⟩)
          · exact .inl (keep b o hbT e)
        · by_cases hbT : b = T
          · subst hbT
            obtain ⟨more, hm⟩ := hgrown
            exact ⟨_, hm⟩
          · exact ⟨o, keep b o hbT e⟩
  cases hk : K.lookup a with
  | some o =>
    have e := KX a o hk
    rw [ha] at e
    cases e
    refine core (fun _ => none) (fun _ => .inl rfl) (.inr ⟨_, vs.toArray, _, hk, rfl, rfl, rfl, by rw [List.size_toArray, lenV]; exact hl, by simpa using rv⟩) (fun b u z => by have z' : (none : Option HO) = some u := z; cases z') (fun b z => absurd rfl z) fun z => absurd rfl z
  | none =>
    refine core (fun b => if b = a then some (.frz { cls := .type "list", data := .seq vs.toArray } (.lst (ns.map V.int))) else none) (fun b => ?_) (.inl (.inr ⟨{ cls := .type "list", data := .seq vs.toArray }, if_pos rfl⟩)) (fun b u z => ?_) (fun b z => ?_) fun _ => hk
    · by_cases hb : b = a
      · exact .inr ⟨_, _, if_pos hb⟩
      · exact .inl (if_neg hb)
    · by_cases hb : b = a
      · have z' := (if_pos hb).symm.trans z
        cases z'
        subst hb
        exact ⟨ha, by rw [List.length_map]; exact hl, vs, _, rv, ha⟩
      · have z' := (if_neg hb).symm.trans z
        cases z'
    · by_cases hb : b = a
      · exact hb
      · exact absurd (if_neg hb) z
noncomputable def tabP (K : PySem.W.Frag) (x : Str) : Addr := match tabIn K x with
  | some q => q.2
  | none => 0
class TabX (K : PySem.W.Frag) (mg : Str → Option Value) (base : Heap) (x : outParam Str) : Prop where
  ex : ∀ c T, tabIn K x = some (c, T) → CodeHd base c T ∧ base.BuiltinsAt mg T
theorem lookup_noTabs {K : PySem.W.Frag} {h : Heap} {T : Addr} (hK : noTabs K = true) (X : K.In h) (hT : h.get? T = some (tabObj #[])) : K.lookup T = none := by
  cases q : K.lookup T with
  | none => rfl
  | some o =>
    have e := X T o q
    rw [hT] at e
    cases e
    have h2 := List.all_eq_true.mp hK (T, tabObj #[]) (mem_of_lookupK q)
    exact absurd (show false = true from h2) Bool.false_ne_true
theorem walk_ofT {l : PySem.W.OpenLaw} {n k : Nat} {q : Program} {loose : List Str} {XP : (Str → Option Value) → Heap → Prop} {YP : World → Heap → Prop} {d d' : DefRec} {K : Params → PySem.W.Frag} {CX : World → CXT} {sp : World → Sp} {x y : Str}
    (hn : l.most = some n) (hn2 : n ≤ sizeLine) (hdf : d.params.defaults = []) (hr : Room k callerA)
    (hY : ∀ (w : World) (h : Heap), YP w h → (K w.params).In h)
    (hrec : (recsOf q).find? (fun e => e.name == y) = some d') (hnt : ∀ w : World, noTabs (K w.params) = true)
    (F : ∀ (w : World) (mg : Str → Option Value) (fa : Addr) (h : Heap), (K w.params).In h → h.Ns mainGlobals mg → mg d.name = some (.ref fa) →
      ∃ fd : FuncData, (∀ (s : Shared) (u : Value), BindsTo s fd ⟨[u], []⟩ [(x, u)]) ∧ (∃ p, tabIn (K w.params) y = some p) ∧
        ∀ base : Heap, (K w.params).In base → base.Ns mainGlobals mg → TabX (K w.params) mg base y → FnOk l.prog w (K w.params) mg base (CX w) k fa fd [x] (sp w))
    (hsp : ∀ (w : World) (H : Hp) (a : Addr) (ns : List Int), ns.length ≤ n → Light ns → SqL (K w.params) H a (ns.map V.int) → (∀ pos qual, Tb H (tabP (K w.params) y) pos qual) → sp w [.ref a] H (fun v _ => v = .bl true) fun _ _ _ => False)
    (hCX : ∀ (w : World) (H : Hp) (s : Shared) (e : Value) (s' : Shared), CX w [] H s (fun _ _ _ => False) e s' → False) :
    PySem.W.WalkO q loose XP YP l.row.toRowW d [] (fun f vs => PySem.call f vs) := by
  refine attach_callZ hn hdf fun w s₀ s₁ mg mb fa a vs ns G Y hmg hobj hints hlen hz hg => ?_
  have KX := hY w _ Y
  obtain ⟨fd, hb, ⟨⟨c, T⟩, hcT⟩, hF⟩ := F w mg fa _ KX G.T.g hmg
  obtain ⟨hC, hT⟩ := tab_of G.T KX hrec hcT
  have hB : s₁.heap.BuiltinsAt mg T := by
    obtain ⟨bm, ob, b1, b2, b3, b4, b5, b6⟩ := G.T.bmain
    refine ⟨bm, ob, b1, b2, fun z => ?_, fun z => ?_, b3, b4, b5, b6⟩
    · obtain ⟨o, es, ep, e, hd, _⟩ := G.T.g
      rw [z, e] at b3; cases b3; rw [hd] at b6; cases b6
    · rw [z, hT] at b3; cases b3; cases b4
  have eP : tabP (K w.params) y = T := by unfold tabP; rw [hcT]
  refine law_callT KX G.T.g G.T.b G.T.builtins G.T.nolimit hg hobj hints (Nat.le_trans hlen hn2) hr hC hT (lookup_noTabs (hnt w) KX hT) hB
    (fun base kb nb cb bb => hF base kb nb ⟨fun c' T' e => by rw [hcT] at e; cases e; exact ⟨cb, bb⟩⟩) hb (fun H hS hTb => hsp w H a ns hlen hz hS fun pos qual => ?_) fun H e s' => hCX w H s₁ e s'
  rw [eP]
  exact ⟨#[], hTb, trivial, .inl rfl⟩
theorem tab_mk {K : PySem.W.Frag} {x : Str} {f c T : Addr} {oc ocw : Value} {od odw : Option Addr} {fd : FuncData} {sl slw : Array (Option Value)} {vs : Array Value} (a : nsIn K mainGlobals x = some (some (.ref f))) (l : K.lookup f = some ⟨oc, od, .func fd, sl⟩) (cq : fd.code = .ref c) (lc : K.lookup c = some ⟨ocw, odw, .fields vs, slw⟩) (v : vs[11]? = some (.ref T)) : tabIn K x = some (c, T) := by
  unfold tabIn
  simp only [a, l, cq, lc, v]
theorem Fun.okC {P : Program} {w : World} {K : PySem.W.Frag} {mg : Str → Option Value} {base : Heap} {CX : CXT} {x qual : Str} {st : Stmt} {f c : Addr} {fd : FuncData} {N ps : List Str} {k : Nat} {sp : Sp} (F : Fun K x qual st f fd) (hc : fd.code = .ref c) (S : FnScope N ps (defScope st)) (len : ∀ vs H Q E, sp vs H Q E → vs.length = ps.length)
    (hbody : ∀ (A : Around) (outer : List Env) (s : Shared) (H : Hp) (vs : List V) (Q : VK) (E : XK), Room k (A.deeper (envOfC qual (defScope st) s.heap.objs.size f (.ref c))) → sp vs H Q E →
      ∃ t, PSs (cxOf CX P w K mg base N qual (defScope st) f (.ref c) A outer s H E).nox (defBody st) t ∧ t { nx := fun _ H' => Q .non H', rt := Q } (start N vs) H) : FnOk P w K mg base CX (k + 1) f fd ps sp := by
  obtain ⟨oc, od, kV, doc, pm, an, cdv, ct, osl, rfl, lk, hcd⟩ := F.ex
  have e : cdv = .ref c := hc
  subst e
  refine fn_of lk hcd S len fun A outer s H vs Q E hr hsp => ?_
  obtain ⟨t, h, q⟩ := hbody A outer s H vs Q E hr hsp
  exact ⟨t, h.nox, q⟩
section
variable {H H' : Hp}
theorem SameT.tup (e : SameT H H') {a : Addr} {xs : List V} (h : H a = some (.tup xs)) : H' a = some (.tup xs) := e.keep _ _ h rfl
theorem SameT.seq {K : PySem.W.Frag} (e : SameT H H') {a : Addr} {xs : List V} (h : SqL K H a xs) : SqL K H' a xs := by
  rcases h with (h | ⟨o, h⟩) | h
  · exact .inl (.inl (e.keep _ _ h rfl))
  · exact .inl (.inr ⟨o, e.keep _ _ h rfl⟩)
  · exact .inr h
end
noncomputable def TbW (K : PySem.W.Frag) (x : Str) (pos : Pos) (qual : Str) (H : Hp) : Prop := Tb H (tabP K x) pos qual
section
variable {K : PySem.W.Frag} {x qual : Str} {pos : Pos} {H H' : Hp}
theorem TbW.same (e : Same H H') (h : TbW K x pos qual H) : TbW K x pos qual H' := Tb.same h e
end
end Internal

set_option Elab.async false
set_option linter.all false
set_option maxRecDepth 100000
namespace Internal
open PySem PySem.Spec PyProof.Rows
end Internal

set_option Elab.async false
set_option linter.all false
set_option maxRecDepth 100000
set_option maxHeartbeats 4000000
namespace Internal.BT
open PySem
theorem any : bootBuiltins "any" = some (.builtin "any") := by decide +kernel
end Internal.BT
namespace Internal
open PySem PySem.Spec PyProof.Rows
section
variable {X : Cx}
noncomputable def rAnyL (K : PySem.W.Frag) : List V → Hp → VK → Prop := fun vs H Q => ∃ (a : Addr) (bs : List Bool), vs = [.ref a] ∧ SqL K H a (bs.map V.bl) ∧ Q (.bl (bs.any id)) H
theorem bools_of : ∀ {bs : List Bool} {its : List Value}, Vals (bs.map V.bl) its → its = bs.map Value.bool
  | [], _, r => by cases r; rfl
  | b :: bs, _, r => by
    cases r with
    | cons h t => rw [bools_of t, show _ = Value.bool b from h]; rfl
theorem call_anyL (hc : X.calm = true) : CallR X (.builtin "any") (rAnyL X.K) := by
  intro pins s σ H xs us Q I r h
  obtain ⟨a, bs, rfl, hq, q⟩ := h
  obtain ⟨u, rfl, r1⟩ := vals1 r
  cases r1
  obtain ⟨its, rv, pl, hl, hlt⟩ := I.walk hq
  have eb := bools_of rv
  subst eb
  refine call_any_walk (wpAny_pyIter_list pl ?_)
  refine ⟨s.heap.objs.size, [s.heap.objs.size, a], [s.heap.objs.size], (bs.map Value.bool).toArray.size, _, _, fun i => (bs[i]?).getD false, rfl, Walks.list (A := X.A.in1) (I.ok.hd hc) _ a (Nat.ne_of_lt hlt) (bs.map Value.bool).toArray,
    ⟨⟨_, Heap.get?_push_size _ rfl, rfl, rfl⟩, pl.push _⟩, fun i v s' Q' E' hP hQ => ?_, fun h' tk hk => ?_⟩
  · have hv : (bs.map Value.bool)[i]? = some v := by simpa using hP
    rw [List.getElem?_map] at hv
    cases e : bs[i]? with
    | none => rw [e] at hv; cases hv
    | some b =>
      dsimp only at hQ
      rw [e] at hv hQ
      cases hv
      exact wpAny_truthy_bool hQ
  · have e : ((List.range (bs.map Value.bool).toArray.size).any fun i => (bs[i]?).getD false) = bs.any id := by
      rw [List.size_toArray, List.length_map]; exact LSm.range_any bs
    rw [e]
    have I1 : Inv X pins σ H { s with heap := h', toks := tk } := I.kept fun b o z => hk b o (fun hm => by rw [List.mem_singleton.mp hm] at z; exact Nat.lt_irrefl _ (Heap.lt_size z)) (Heap.get?_push_of_some _ z)
    exact ⟨.bl _, H, I1, rfl, q⟩
end
theorem x_anyL {K : PySem.W.Frag} {H : Hp} {Q : VK} {a : Addr} {bs : List Bool} (h : H a = some (.lst (bs.map V.bl))) (q : Q (.bl (bs.any id)) H) : rAnyL K [.ref a] H Q := ⟨a, bs, rfl, .of h, q⟩
end Internal

set_option Elab.async false
set_option linter.all false
set_option maxRecDepth 100000
set_option maxHeartbeats 4000000
namespace Internal
open PySem PySem.Spec PyProof.Rows
noncomputable def oiV : Option Int → V
  | none => .non
  | some x => .int x
noncomputable def oiL (n : Nat) (F : Nat → Option Int) : List V := (List.range n).map fun m => oiV (F m)
theorem oiL_len {n : Nat} {F : Nat → Option Int} : (oiL n F).length = n := by simp [oiL]
theorem oiL_get {n i : Nat} {F : Nat → Option Int} (h : i < n) : (oiL n F)[i]? = some (oiV (F i)) := by simp [oiL, h]
theorem oiL_succ {n : Nat} {F : Nat → Option Int} : oiL (n + 1) F = oiL n F ++ [oiV (F n)] := by unfold oiL; rw [List.range_succ, List.map_append]; rfl
theorem oiL_set {n j : Nat} {F : Nat → Option Int} {x : Int} : (oiL n F).set j (.int x) = oiL n fun m => if m = j then some x else F m := by
  refine List.ext_getElem? fun i => ?_
  rw [List.getElem?_set]
  by_cases hi : i < n
  · rw [oiL_get hi, oiL_get hi]
    by_cases e : j = i
    · subst e
      rw [if_pos rfl, oiL_len, if_pos hi, if_pos rfl]; rfl
    · rw [if_neg e, if_neg fun z => e z.symm]
  · rw [List.getElem?_eq_none (by rw [oiL_len]; omega), List.getElem?_eq_none (by rw [oiL_len]; omega), oiL_len]
    by_cases e : j = i
    · rw [if_pos e, if_neg (by omega)]
    · rw [if_neg e]
noncomputable def lsV (H : Hp) : Option Due → V → Prop
  | none, v => v = .non
  | some e, v => ∃ b, v = .ref b ∧ H b = some (.tup (dueV e))
noncomputable def IsLs (H : Hp) (n : Nat) (last : Nat → Option Due) (xs : List V) : Prop := xs.length = n ∧ ∀ v, v < n → ∃ u, xs[v]? = some u ∧ lsV H (last v) u
theorem IsLs.keep {H H' : Hp} {n : Nat} {last : Nat → Option Due} {xs : List V} (e : Tups H H') (h : IsLs H n last xs) : IsLs H' n last xs := ⟨h.1, fun v hv => by
  obtain ⟨u, h1, h2⟩ := h.2 v hv
  refine ⟨u, h1, ?_⟩
  cases hl : last v with
  | none => rw [hl] at h2; exact h2
  | some d => rw [hl] at h2; obtain ⟨b, h3, h4⟩ := h2; exact ⟨b, h3, e _ _ h4⟩⟩
theorem IsLs.start {H : Hp} {n : Nat} : IsLs H n (fun _ => none) (optL n fun _ => none) := ⟨optL_len, fun v hv => ⟨_, optL_get hv, rfl⟩⟩
theorem IsLs.set {H : Hp} {n j : Nat} {last : Nat → Option Due} {xs : List V} {b : Addr} {e : Due} (h : IsLs H n last xs) (hb : H b = some (.tup (dueV e))) : IsLs H n (fun v => if v = j then some e else last v) (xs.set j (.ref b)) := ⟨by rw [List.length_set]; exact h.1, fun v hv => by
  rw [List.getElem?_set]
  by_cases g : v = j
  · subst g
    rw [if_pos rfl, if_pos (by rw [h.1]; exact hv)]
    refine ⟨_, rfl, ?_⟩
    show lsV H (if v = v then some e else last v) _
    rw [if_pos rfl]
    exact ⟨b, rfl, hb⟩
  · rw [if_neg fun z => g z.symm]
    show ∃ u, xs[v]? = some u ∧ lsV H (if v = j then some e else last v) u
    rw [if_neg g]
    exact h.2 v hv⟩
theorem SameT.tups {H H' : Hp} (e : SameT H H') : Tups H H' := fun a xs h => e.tup h
theorem SameT.isTs {α : Type} {f : α → List V} {H H' : Hp} {vs : List V} {xs : List α} (e : SameT H H') (h : IsTs f H vs xs) : IsTs f H' vs xs := h.keep e.tups
theorem SameT.isSh {K : PySem.W.Frag} {H H' : Hp} {a : Addr} {ds : List Due} (e : SameT H H') (h : IsSh K H a ds) : IsSh K H' a ds := let ⟨vs, h1, h2⟩ := h; ⟨vs, e.seq h1, e.isTs h2⟩
noncomputable def B2 (b c : Addr) (H H' : Hp) : Prop := ∀ a o, a ≠ b → a ≠ c → H a = some o → H' a = some o
theorem B2.refl {b c : Addr} {H : Hp} : B2 b c H H := fun _ _ _ _ h => h
theorem B2.lft {b c : Addr} {H H1 H2 : Hp} (h : B2 b c H H1) (g : LBut b H1 H2) : B2 b c H H2 := fun a o n1 n2 e => g.lst (h a o n1 n2 e) n1
theorem B2.rgt {b c : Addr} {H H1 H2 : Hp} (h : B2 b c H H1) (g : LBut c H1 H2) : B2 b c H H2 := fun a o n1 n2 e => g.lst (h a o n1 n2 e) n2
theorem B2.sameT {b c : Addr} {H0 H H' : Hp} (g : B2 b c H H') (e : SameT H0 H) (hb : H0 b = none) (hc : H0 c = none) : SameT H0 H' :=
  ⟨fun a o q n => g a o (ne_of_none q hb) (ne_of_none q hc) (e.keep a o q n), fun a ps q => by obtain ⟨ps', q'⟩ := e.tb a ps q; exact ⟨ps', g a _ (ne_of_none q hb) (ne_of_none q hc) q'⟩⟩
theorem B2.tups {b c : Addr} {H H' : Hp} {xs ys : List V} (g : B2 b c H H') (hb : H b = some (.lst xs)) (hc : H c = some (.lst ys)) : Tups H H' := fun a zs h => g a _ (fun z => by rw [z, hb] at h; cases h) (fun z => by rw [z, hc] at h; cases h) h
theorem B2.tb {K : PySem.W.Frag} {x qual : Str} {pos : Pos} {b c : Addr} {H H' : Hp} {xs ys : List V} (g : B2 b c H H') (hb : H b = some (.lst xs)) (hc : H c = some (.lst ys)) (h : TbW K x pos qual H) : TbW K x pos qual H' := by
  obtain ⟨ps, h1, h2, h3⟩ := h
  refine ⟨ps, g _ _ (fun z => by rw [z, hb] at h1; cases h1) (fun z => by rw [z, hc] at h1; cases h1) h1, h2, ?_⟩
  rcases h3 with h3 | ⟨d, h3, h4⟩
  · exact .inl h3
  · exact .inr ⟨d, h3, g _ _ (fun z => by rw [z, hb] at h4; cases h4) (fun z => by rw [z, hc] at h4; cases h4) h4⟩
section
variable {n : Nat} {ds : List Due} {l w p : Nat → Int} {F ini : Nat → Option Int} {last : Nat → Option Due} {E : List Due} {c : Due → Int}
theorem Bk.ends {t s : Nat} {es : List Due} (B : Bk last t es s) (hq : ∀ v e, v < n → last v = some e → e.q = (v : Int) ∧ 0 ≤ e.p ∧ e.p < n) : t < n → (es = [] → s = t) ∧ (∀ e, es[0]? = some e → e.q = (t : Int)) ∧ (∀ e, es[es.length - 1]? = some e → e.p = (s : Int)) := by
  induction B with
  | nil h => intro _; exact ⟨fun _ => rfl, fun _ h => (nomatch h), fun _ h => (nomatch h)⟩
  | cons h B ih =>
    rename_i m e es s
    intro hm
    obtain ⟨h1, h2, h3⟩ := hq m e hm h
    obtain ⟨i1, i2, i3⟩ := ih (by omega)
    refine ⟨fun z => (nomatch z), fun e' he' => ?_, fun e' he' => ?_⟩
    · cases he'; exact h1
    · cases es with
      | nil =>
        cases he'
        rw [i1 rfl]; omega
      | cons e2 es =>
        refine i3 e' ?_
        rw [List.length_cons, Nat.add_sub_cancel, List.length_cons] at he'
        rw [List.getElem?_cons_succ] at he'
        rw [List.length_cons, Nat.add_sub_cancel]
        exact he'
theorem Bk.from {t s : Nat} {es : List Due} (hE : StOk n E) (L : Lst n E c ini F last) (B : Bk last t es s) : t < n → F t ≠ none → s < n ∧ last s = none ∧ F s ≠ none := by
  induction B with
  | nil h => intro hm hf; exact ⟨hm, h, hf⟩
  | cons h B ih =>
    rename_i m e es s
    intro hm hf
    obtain ⟨h1, h2, y, z, h3, h4, h5⟩ := L.some m e hm h
    obtain ⟨p0, p1, q0, q1⟩ := hE e h1
    exact ih (by omega) (by rw [h3]; exact fun z => nomatch z)
theorem Thin.way (hd : ∀ d ∈ ds, DueOk n d) (L : Lst n (opn ds l) (wgt n) (iniF n w) F last) {t s : Nat} {es : List Due} (B : Bk last t es s) (ht : t < n) (hw : 0 < w t) (hF : F t ≠ none) : es ≠ [] ∧ s < n ∧ w s < 0 ∧ s ≠ t := by
  obtain ⟨a1, a2, a3⟩ := B.from (opn_ok hd) L ht hF
  have h1 := L.none s a1 a2
  obtain ⟨y, hy⟩ : ∃ y, F s = some y := by
    cases e : F s with
    | none => exact absurd e a3
    | some y => exact ⟨y, rfl⟩
  rw [hy] at h1
  obtain ⟨_, h2, _⟩ := ini_lt h1.symm
  refine ⟨fun z => ?_, a1, h2, fun z => by rw [z] at h2; omega⟩
  have := (B.ends (n := n) (fun v e hv hl => by
    obtain ⟨b1, b2, _⟩ := L.some v e hv hl
    have := opn_ok hd e b1
    exact ⟨b2, this.1, this.2.1⟩) ht).1 z
  rw [this] at h2; omega
theorem res_pos {e : Due} (h : e ∈ opn ds l) : 1 ≤ resF ds l e := by
  obtain ⟨i, d, _, h2, h3⟩ := steps_mem.mp h
  unfold resF
  rcases h3 with ⟨a, rfl⟩ | ⟨a, rfl⟩
  · rw [if_pos (show (1 : Int) > 0 by decide)]
    show 1 ≤ amF ds ((i : Int)).toNat - l ((i : Int)).toNat
    rw [Int.toNat_natCast, amF_get h2]; omega
  · rw [if_neg (show ¬ (-1 : Int) > 0 by decide)]
    show 1 ≤ l ((i : Int)).toNat
    rw [Int.toNat_natCast]; omega
theorem Thin.res (hd : ∀ d ∈ ds, DueOk n d) (X : Thin n ds l w) {e : Due} (h : e ∈ opn ds l) : resF ds l e ≤ 100000000000000 := by
  obtain ⟨i, d, h1, h2, h3⟩ := steps_mem.mp h
  have hb := X.bd i h1
  have ha := (hd d (List.mem_of_getElem? h2)).2.2.2.2.2.2.2.2
  rw [amF_get h2] at hb
  unfold resF
  rcases h3 with ⟨a, rfl⟩ | ⟨a, rfl⟩
  · rw [if_pos (show (1 : Int) > 0 by decide)]
    show amF ds ((i : Int)).toNat - l ((i : Int)).toNat ≤ _
    rw [Int.toNat_natCast, amF_get h2]; omega
  · rw [if_neg (show ¬ (-1 : Int) > 0 by decide)]
    show l ((i : Int)).toNat ≤ _
    rw [Int.toNat_natCast]; omega
theorem opn_r {e : Due} (h : e ∈ opn ds l) : 0 ≤ e.r ∧ e.r < ds.length := by
  obtain ⟨i, d, h1, h2, h3⟩ := steps_mem.mp h
  rcases h3 with ⟨_, rfl⟩ | ⟨_, rfl⟩
  · exact ⟨Int.ofNat_nonneg i, Int.ofNat_lt.mpr h1⟩
  · exact ⟨Int.ofNat_nonneg i, Int.ofNat_lt.mpr h1⟩
theorem opn_ne {m : Int} (hd : ∀ d ∈ ds, DueOk m d) {e : Due} (h : e ∈ opn ds l) : e.p ≠ e.q := by
  obtain ⟨i, d, h1, h2, h3⟩ := steps_mem.mp h
  have := (hd d (List.mem_of_getElem? h2)).2.2.2.2.1
  rcases h3 with ⟨_, rfl⟩ | ⟨_, rfl⟩
  · exact this
  · exact this.symm
noncomputable def ini0 (n m : Nat) : Option Int := if m < n then some 0 else none
noncomputable def AllS (n : Nat) (F : Nat → Option Int) : Prop := ∀ m, m < n → ∃ y, F m = some y
theorem relax_min (hA : AllS n F) {e : Due} (p0 : 0 ≤ e.p) (p1 : e.p < n) (q0 : 0 ≤ e.q) (q1 : e.q < n) : AllS n (relax c F e) ∧ ∀ m, m < n → (relax c F e m).getD 0 = if m = e.q.toNat then (if (F e.p.toNat).getD 0 + c e < (F e.q.toNat).getD 0 then (F e.p.toNat).getD 0 + c e else (F e.q.toNat).getD 0) else (F m).getD 0 := by
  obtain ⟨y, hy⟩ := hA e.p.toNat (by omega)
  obtain ⟨z, hz⟩ := hA e.q.toNat (by omega)
  rw [hy, hz]
  by_cases h : y + c e < z
  · rw [relax_upd hy (.inr ⟨z, hz, h⟩)]
    refine ⟨fun m hm => ?_, fun m hm => ?_⟩
    · by_cases g : m = e.q.toNat
      · exact ⟨_, if_pos g⟩
      · obtain ⟨u, hu⟩ := hA m hm; exact ⟨u, (if_neg g).trans hu⟩
    · show (if m = e.q.toNat then some (y + c e) else F m).getD 0 = if m = e.q.toNat then (if y + c e < z then y + c e else z) else (F m).getD 0
      by_cases g : m = e.q.toNat
      · rw [if_pos g, if_pos g, if_pos h]; rfl
      · rw [if_neg g, if_neg g]
  · rw [relax_keep1 hy hz h]
    refine ⟨hA, fun m hm => ?_⟩
    show (F m).getD 0 = if m = e.q.toNat then (if y + c e < z then y + c e else z) else (F m).getD 0
    by_cases g : m = e.q.toNat
    · rw [if_pos g, if_neg h, g, hz]; rfl
    · rw [if_neg g]
theorem relaxL_all (hE : ∀ e ∈ E, 0 ≤ e.p ∧ e.p < n ∧ 0 ≤ e.q ∧ e.q < n) (hA : AllS n F) : AllS n (relaxL c F E) := by
  induction E generalizing F with
  | nil => exact hA
  | cons e es ih =>
    obtain ⟨p0, p1, q0, q1⟩ := hE e (.head _)
    exact ih (fun e he => hE e (.tail _ he)) (relax_min hA p0 p1 q0 q1).1
theorem far_all (hE : StOk n E) : ∀ t, AllS n (farF c E (ini0 n) t)
  | 0 => fun m hm => ⟨0, if_pos hm⟩
  | t + 1 => relaxL_all hE (far_all hE t)
noncomputable def hgtF (n : Nat) (E : List Due) (m : Nat) : Int := (farF Due.a E (ini0 n) n m).getD 0
theorem hgt_pot (hd : ∀ d ∈ ds, DueOk n d) (hP : PotOk (opn ds l) Due.a p) : PotOk (opn ds l) Due.a (hgtF n (opn ds l)) := fun e he => by
  obtain ⟨p0, p1, q0, q1⟩ := opn_ok hd e he
  have S := (far_turns (n := n) (ini := ini0 n) (opn_ok hd) hP n).short (opn_ok hd) (fun v x h => by
    unfold ini0 at h
    by_cases g : v < n
    · exact g
    · rw [if_neg g] at h; cases h) (by omega)
  obtain ⟨y, hy⟩ := far_all (c := Due.a) (opn_ok hd (l := l)) n e.p.toNat (by omega)
  obtain ⟨z, hz, hle⟩ := S.step (opn_ok hd) hP he hy
  unfold hgtF
  rw [hy, hz]; exact hle
theorem sumTo_le' {f g : Nat → Int} : ∀ {n : Nat}, (∀ m, m < n → f m ≤ g m) → My.sumTo f n ≤ My.sumTo g n
  | 0, _ => Int.le_refl _
  | n + 1, h => by
    have := sumTo_le' (n := n) fun m hm => h m (by omega)
    have := h n (by omega)
    show My.sumTo f n + f n ≤ My.sumTo g n + g n
    omega
theorem sumTo_lt' {f g : Nat → Int} {j : Nat} : ∀ {n : Nat}, (∀ m, m < n → f m ≤ g m) → j < n → f j < g j → My.sumTo f n < My.sumTo g n
  | 0, _, h, _ => absurd h (Nat.not_lt_zero _)
  | n + 1, hf, h, hj => by
    show My.sumTo f n + f n < My.sumTo g n + g n
    have h1 := hf n (by omega)
    rcases Nat.lt_or_eq_of_le (Nat.le_of_lt_succ h) with g' | g'
    · have := sumTo_lt' (n := n) (fun m hm => hf m (by omega)) g' hj; omega
    · rw [g'] at hj
      have := sumTo_le' (n := n) fun m hm => hf m (by omega)
      omega
noncomputable def wantS (n : Nat) (w : Nat → Int) : Nat := (My.sumTo (fun m => ((w m).toNat : Int)) n).toNat
theorem want_down {t s : Nat} {x : Int} (ht : t < n) (h1 : 1 ≤ x) (h2 : x ≤ w t) (h3 : x ≤ -w s) : wantS n (fun m => if m = t then w m - x else if m = s then w m + x else w m) < wantS n w := by
  unfold wantS
  have h0 : 0 ≤ My.sumTo (fun m => (((fun m => if m = t then w m - x else if m = s then w m + x else w m) m).toNat : Int)) n := sumTo_nn fun m _ => Int.ofNat_nonneg _
  have : My.sumTo (fun m => (((fun m => if m = t then w m - x else if m = s then w m + x else w m) m).toNat : Int)) n < My.sumTo (fun m => ((w m).toNat : Int)) n := by
    refine sumTo_lt' (j := t) (fun m _ => ?_) ht ?_
    · dsimp only
      by_cases a : m = t
      · rw [if_pos a]; omega
      · rw [if_neg a]
        by_cases b : m = s
        · rw [if_pos b, b]; omega
        · rw [if_neg b]; exact Int.le_refl _
    · dsimp only
      rw [if_pos rfl]; omega
  omega
end
noncomputable def spSteps (K : PySem.W.Frag) : Sp := fun vs H Q _ => ∃ (a b : Addr) (n : Nat) (ds : List Due) (l : Nat → Int), vs = [.ref a, .ref b] ∧ IsSh K H a ds ∧ H b = some (.lst ((vec ds.length l).map V.int)) ∧ ds.length ≤ 1000 ∧ (∀ d ∈ ds, DueOk n d) ∧ NewS H Q (opn ds l)
theorem spSteps_i {K : PySem.W.Frag} {a b : Addr} {n : Nat} {ds : List Due} {l : Nat → Int} {H : Hp} {Q : VK} {E : XK} (h1 : IsSh K H a ds) (h2 : H b = some (.lst ((vec ds.length l).map V.int))) (h3 : ds.length ≤ 1000) (hd : ∀ d ∈ ds, DueOk n d) (q : NewS H Q (opn ds l)) : spSteps K [.ref a, .ref b] H Q E := ⟨a, b, n, ds, l, rfl, h1, h2, h3, hd, q⟩
noncomputable def spHgt (K : PySem.W.Frag) : Sp := fun vs H Q _ => ∃ (a b : Addr) (n : Nat) (ds : List Due) (l : Nat → Int), vs = [.int n, .ref a, .ref b] ∧ IsSh K H a ds ∧ H b = some (.lst ((vec ds.length l).map V.int)) ∧ ds.length ≤ 1000 ∧ n ≤ 9 ∧ (∀ d ∈ ds, DueOk n d) ∧ NewL H Q (vec n (hgtF n (opn ds l)))
theorem spHgt_i {K : PySem.W.Frag} {a b : Addr} {n : Nat} {ds : List Due} {l : Nat → Int} {H : Hp} {Q : VK} {E : XK} (h1 : IsSh K H a ds) (h2 : H b = some (.lst ((vec ds.length l).map V.int))) (h3 : ds.length ≤ 1000) (h9 : n ≤ 9) (hd : ∀ d ∈ ds, DueOk n d) (q : NewL H Q (vec n (hgtF n (opn ds l)))) : spHgt K [.int n, .ref a, .ref b] H Q E := ⟨a, b, n, ds, l, rfl, h1, h2, h3, h9, hd, q⟩
noncomputable def spBack (K : PySem.W.Frag) : Sp := fun vs H Q _ => ∃ (t n : Nat) (b : Addr) (last : Nat → Option Due) (τ : Nat → Nat) (xs : List V), vs = [.int t, .ref b] ∧ H b = some (.lst xs) ∧ IsLs H n last xs ∧ t < n ∧ τ t ≤ 100 ∧ (∀ v e, v < n → last v = some e → 0 ≤ e.p ∧ e.p < n ∧ τ e.p.toNat < τ v) ∧ ∀ p H' ys es s, H p = none → Same H H' → H' p = some (.lst ys) → IsTs dueV H' ys es → Bk last t es s → Q (.ref p) H'
theorem spBack_i {K : PySem.W.Frag} {t n : Nat} {b : Addr} {last : Nat → Option Due} {τ : Nat → Nat} {xs : List V} {H : Hp} {Q : VK} {E : XK} (h1 : H b = some (.lst xs)) (h2 : IsLs H n last xs) (h3 : t < n) (h4 : τ t ≤ 100) (h5 : ∀ v e, v < n → last v = some e → 0 ≤ e.p ∧ e.p < n ∧ τ e.p.toNat < τ v) (q : ∀ p H' ys es s, H p = none → Same H H' → H' p = some (.lst ys) → IsTs dueV H' ys es → Bk last t es s → Q (.ref p) H') : spBack K [.int t, .ref b] H Q E := ⟨t, n, b, last, τ, xs, rfl, h1, h2, h3, h4, h5, q⟩
noncomputable def SentW (t s : Nat) (x : Int) (w : Nat → Int) : Nat → Int := fun m => if m = t then w m - x else if m = s then w m + x else w m
noncomputable def spSend (K : PySem.W.Frag) : Sp := fun vs H Q _ => ∃ (a b c d : Addr) (n t s : Nat) (ds es : List Due) (l w : Nat → Int) (ys : List V), vs = [.ref a, .ref b, .ref c, .ref d] ∧ IsSh K H a ds ∧ H b = some (.lst ((vec ds.length l).map V.int)) ∧ H c = some (.lst ((vec n w).map V.int)) ∧ b ≠ c ∧ d ≠ b ∧ d ≠ c ∧ H d = some (.lst ys) ∧ IsTs dueV H ys es ∧ es ≠ [] ∧ t < n ∧ s < n ∧ s ≠ t ∧ (∀ e, es[0]? = some e → e.q = (t : Int)) ∧ (∀ e, es[es.length - 1]? = some e → e.p = (s : Int)) ∧ (∀ e ∈ es, e ∈ opn ds l) ∧ (∀ e ∈ es, resF ds l e ≤ 100000000000000) ∧ 0 < w t ∧ w s < 0 ∧
  ∀ H' x, B2 b c H H' → H' b = some (.lst ((vec ds.length (updL l x es)).map V.int)) → H' c = some (.lst ((vec n (SentW t s x w)).map V.int)) → (∀ e ∈ es, x ≤ resF ds l e) → x ≤ w t → x ≤ -w s → (x = w t ∨ x = -w s ∨ ∃ e ∈ es, x = resF ds l e) → Q .non H'
noncomputable def spShort (K : PySem.W.Frag) (lP : Pos) (lQ : Str) : Sp := fun vs H Q _ => ∃ (a b c : Addr) (n : Nat) (ds : List Due) (l w p : Nat → Int), vs = [.int n, .ref a, .ref b, .ref c] ∧ IsSh K H a ds ∧ H b = some (.lst ((vec ds.length l).map V.int)) ∧ H c = some (.lst ((vec n w).map V.int)) ∧ n ≤ 9 ∧ ds.length ≤ 1000 ∧ (∀ d ∈ ds, DueOk n d) ∧ Thin n ds l w ∧ PotOk (opn ds l) Due.a p ∧ (∃ m, m < n ∧ 0 < w m) ∧ TbW K "shortest_way" lP lQ H ∧
  ∀ r H' ys es t s F last, H r = none → SameT H H' → TbW K "shortest_way" lP lQ H' → H' r = some (.lst ys) → IsTs dueV H' ys es → Short n (opn ds l) (wgt n) (iniF n w) F → Lst n (opn ds l) (wgt n) (iniF n w) F last → t < n → 0 < w t → F t ≠ none → Bk last t es s → Q (.ref r) H'
noncomputable def spThin (K : PySem.W.Frag) (lP : Pos) (lQ : Str) : Sp := fun vs H Q _ => ∃ (a : Addr) (n : Nat) (ds : List Due), vs = [.int n, .ref a] ∧ IsSh K H a ds ∧ 1 ≤ n ∧ n ≤ 9 ∧ ds.length ≤ 1000 ∧ (∀ d ∈ ds, DueOk n d) ∧ TbW K "shortest_way" lP lQ H ∧
  ∀ tp b h H' l g, H tp = none → H b = none → H h = none → SameT H H' → TbW K "shortest_way" lP lQ H' → H' tp = some (.tup [.ref b, .ref h]) → H' b = some (.lst ((vec ds.length l).map V.int)) → H' h = some (.lst ((vec n g).map V.int)) → (∀ i, i < ds.length → 0 ≤ l i ∧ l i ≤ amF ds i) → (∀ m, m < n → netsF (withF ds l) m = netsF ds m) → PotOk (opn ds l) Due.a g → Q (.ref tp) H'
theorem x_mk {ta : TA} {tb : TE} {j : Nat} {T : Addr} {lpos : Pos} {qu : Str} {σ : St} {H : Hp} {Q : VK} (h : ta σ H fun vs H1 => Tb H1 T lpos qu ∧ ∃ (r : Addr) (ns : List Int) (u : V) (g : Int → Int), vs = [.ref r] ∧ H1 r = some (.lst (ns.map V.int)) ∧ ns ≠ [] ∧ σ[j]? = some (some u) ∧
  (∀ x ∈ ns, ∀ H2, SameT H1 H2 → tb [some (.int x), some u] H2 (fun v H3 => v = .int (g x) ∧ Same H2 H3)) ∧
  ∀ x H3, x ∈ ns → (∀ y ∈ ns, g x ≤ g y) → SameT H1 H3 → Tb H3 T lpos qu → Q (.int x) H3) : tMK ta tb j T lpos qu σ H Q := h
end Internal

set_option Elab.async false
set_option linter.all false
set_option maxRecDepth 100000
set_option maxHeartbeats 4000000
namespace Internal
open PySem PySem.Spec PyProof.Rows
section
variable {n : Nat} {ds : List Due} {l l' g : Nat → Int}
noncomputable def gSum (g : Nat → Int) (es : List Due) (n : Nat) : Int := My.sumTo (fun m => g m * netsF es m) n
theorem gSum_snoc {es : List Due} {d : Due} (p0 : 0 ≤ d.p) (p1 : d.p < n) (q0 : 0 ≤ d.q) (q1 : d.q < n) : gSum g (es ++ [d]) n = gSum g es n + (g d.q.toNat * d.a - g d.p.toNat * d.a) := by
  have e : gSum g (es ++ [d]) n = My.sumTo (fun m => g m * netsF es m + ((if m = d.q.toNat then g d.q.toNat * d.a else 0) + (if m = d.p.toNat then -(g d.p.toNat * d.a) else 0))) n := sumTo_cong fun m hm => by
    rw [nets_snoc]
    have c1 : (d.q = (m : Int)) ↔ (m = d.q.toNat) := by omega
    have c2 : (d.p = (m : Int)) ↔ (m = d.p.toNat) := by omega
    by_cases a : m = d.q.toNat
    · rw [if_pos (c1.mpr a), if_pos a, ← a]
      by_cases b : m = d.p.toNat
      · rw [if_pos (c2.mpr b), if_pos b, ← b, Int.mul_sub, Int.mul_add]; omega
      · rw [if_neg (fun z => b (c2.mp z)), if_neg b, Int.mul_sub, Int.mul_add]; omega
    · rw [if_neg (fun z => a (c1.mp z)), if_neg a]
      by_cases b : m = d.p.toNat
      · rw [if_pos (c2.mpr b), if_pos b, ← b, Int.mul_sub, Int.mul_add]; omega
      · rw [if_neg (fun z => b (c2.mp z)), if_neg b, Int.mul_sub, Int.mul_add]; omega
  rw [e, sumTo_add, sumTo_add, sumTo_one (by omega), sumTo_one (by omega)]
  unfold gSum
  omega
theorem thin_least (hd : ∀ d ∈ ds, DueOk n d) (hl : ∀ i, i < ds.length → 0 ≤ l i ∧ l i ≤ amF ds i) (hl' : ∀ i, i < ds.length → 0 ≤ l' i ∧ l' i ≤ amF ds i) (hn : ∀ m, m < n → netsF (withF ds l) m = netsF (withF ds l') m) (hP : PotOk (opn ds l) Due.a g) : sumI (vec ds.length l) ≤ sumI (vec ds.length l') := by
  have key : ∀ t, t ≤ ds.length → sumI (vec t l) - gSum g ((withF ds l).take t) n ≤ sumI (vec t l') - gSum g ((withF ds l').take t) n := by
    intro t
    induction t with
    | zero =>
      intro _
      rw [List.take_zero, List.take_zero]
      exact Int.le_refl _
    | succ t ih =>
      intro ht
      obtain ⟨d, hdt⟩ := lt_some (show t < ds.length by omega)
      obtain ⟨p0, p1, q0, q1, _⟩ := hd d (List.mem_of_getElem? hdt)
      have h1 := ih (by omega)
      have b1 := hl t (by omega)
      have b2 := hl' t (by omega)
      rw [amF_get hdt] at b1 b2
      rw [withF_snoc hdt, withF_snoc hdt, vec_succ, vec_succ, sumI_snoc, sumI_snoc, gSum_snoc (d := ⟨d.p, d.q, d.r, l t⟩) p0 p1 q0 q1, gSum_snoc (d := ⟨d.p, d.q, d.r, l' t⟩) p0 p1 q0 q1]
      dsimp only
      have u1 : 0 < l t → g d.p.toNat ≤ g d.q.toNat + -1 := fun h => hP ⟨d.q, d.p, (t : Int), -1⟩ (steps_mem.mpr ⟨t, d, by omega, hdt, .inr ⟨h, rfl⟩⟩)
      have u2 : l t < d.a → g d.q.toNat ≤ g d.p.toNat + 1 := fun h => hP ⟨d.p, d.q, (t : Int), 1⟩ (steps_mem.mpr ⟨t, d, by omega, hdt, .inl ⟨h, rfl⟩⟩)
      have key : 0 ≤ (l' t - l t) * (1 - (g d.q.toNat - g d.p.toNat)) := by
        by_cases h : l' t - l t < 0
        · have v1 := u1 (by omega)
          exact Int.mul_nonneg_of_nonpos_of_nonpos (by omega) (by omega)
        · by_cases h2 : l' t = l t
          · rw [h2, Int.sub_self, Int.zero_mul]; exact Int.le_refl _
          · have v2 := u2 (by omega)
            exact Int.mul_nonneg (by omega) (by omega)
      rw [Int.mul_sub, Int.mul_sub, Int.sub_mul, Int.sub_mul, Int.mul_one, Int.sub_mul] at key
      have k1 := Int.mul_comm (l' t) (g d.q.toNat)
      have k2 := Int.mul_comm (l t) (g d.q.toNat)
      have k3 := Int.mul_comm (l' t) (g d.p.toNat)
      have k4 := Int.mul_comm (l t) (g d.p.toNat)
      omega
  have := key ds.length (Nat.le_refl _)
  rw [List.take_of_length_le (by rw [withF_len]; exact Nat.le_refl _), List.take_of_length_le (by rw [withF_len]; exact Nat.le_refl _)] at this
  have e : gSum g (withF ds l) n = gSum g (withF ds l') n := sumTo_cong fun m hm => by rw [hn m hm]
  omega
theorem rest_high (h1 : 1 ≤ n) (hd : ∀ d ∈ ds, DueOk n d) (hw : ∀ d ∈ withF ds l, DueOk n d) (hP : PotOk (opn ds l) Due.a g) : restL (withF ds l) n n = [] := by
  have hf : ∀ d ∈ withF ds l, 0 < d.a → g d.p.toNat < g d.q.toNat := fun d hd' ha => by
    obtain ⟨i, hi, e⟩ := List.getElem_of_mem hd'
    rw [withF_len] at hi
    obtain ⟨d0, h0⟩ := lt_some hi
    have h2 := withF_get (m := l) h0
    rw [List.getElem?_eq_getElem (by rw [withF_len]; exact hi), e] at h2
    cases h2
    have := hP ⟨d0.q, d0.p, (i : Int), -1⟩ (steps_mem.mpr ⟨i, d0, hi, h0, .inr ⟨ha, rfl⟩⟩)
    dsimp only at this ⊢
    omega
  cases e : restL (withF ds l) n n with
  | nil => rfl
  | cons x xs =>
    have : x ∈ restL (withF ds l) n n := by rw [e]; simp
    obtain ⟨g1, g2⟩ := List.mem_filter.mp this
    obtain ⟨y, hy, w⟩ := rev_way hw (List.mem_range.mp g1) g2
    exact absurd (way_none h1 hw hf y hy) w
theorem withF2 {f h : Nat → Int} : withF (withF ds f) h = withF ds h := by
  refine List.ext_getElem? fun i => ?_
  rcases Nat.lt_or_ge i ds.length with hi | hi
  · obtain ⟨d, hd⟩ := lt_some hi
    rw [withF_get (withF_get hd), withF_get hd]
  · rw [List.getElem?_eq_none (by rw [withF_len, withF_len]; exact hi), List.getElem?_eq_none (by rw [withF_len]; exact hi)]
theorem opn_with {f h : Nat → Int} {e : Due} (he : e ∈ opn (withF ds f) h) : ∃ (i : Nat) (d : Due), i < ds.length ∧ ds[i]? = some d ∧ ((h i < f i ∧ e = ⟨d.p, d.q, (i : Int), 1⟩) ∨ (0 < h i ∧ e = ⟨d.q, d.p, (i : Int), -1⟩)) := by
  obtain ⟨i, d, h1, h2, h3⟩ := steps_mem.mp he
  rw [withF_len] at h1
  obtain ⟨d0, hd0⟩ := lt_some h1
  rw [withF_get hd0] at h2
  cases h2
  exact ⟨i, d0, h1, hd0, h3⟩
theorem thin_again {l2 : Nat → Int} (hd : ∀ d ∈ ds, DueOk n d) (hl : ∀ i, i < ds.length → 0 ≤ l i ∧ l i ≤ amF ds i) (h2 : ∀ i, i < (withF ds l).length → 0 ≤ l2 i ∧ l2 i ≤ amF (withF ds l) i) (hn2 : ∀ m, m < n → netsF (withF (withF ds l) l2) m = netsF (withF ds l) m) (hP : PotOk (opn ds l) Due.a g) : sumI (vec ds.length l2) = sumI (vec ds.length l) := by
  rw [withF_len] at h2
  have h2' : ∀ i, i < ds.length → 0 ≤ l2 i ∧ l2 i ≤ l i := fun i hi => by
    have := h2 i hi
    rwa [amF_with hi] at this
  rw [withF2] at hn2
  have a1 := thin_least (l' := l2) hd hl (fun i hi => ⟨(h2' i hi).1, Int.le_trans (h2' i hi).2 (hl i hi).2⟩) (fun m hm => (hn2 m hm).symm) hP
  have a2 : sumI (vec ds.length l2) ≤ sumI (vec ds.length l) := by
    rw [sumI_vec, sumI_vec]
    exact sumTo_le' fun m hm => (h2' m hm).2
  omega
theorem nets_mul {c : Int} (l : Nat → Int) (m : Nat) : netsF (withF ds fun i => c * l i) m = c * netsF (withF ds l) m := by
  have key : ∀ t, t ≤ ds.length → netsF ((withF ds fun i => c * l i).take t) m = c * netsF ((withF ds l).take t) m := by
    intro t
    induction t with
    | zero => intro _; rw [List.take_zero, List.take_zero]; show (0 : Int) - 0 = c * (0 - 0); simp
    | succ t ih =>
      intro ht
      obtain ⟨d, hdt⟩ := lt_some (show t < ds.length by omega)
      rw [withF_snoc hdt, withF_snoc hdt, nets_snoc, nets_snoc, ih (by omega)]
      dsimp only
      split <;> split <;> simp only [Int.mul_add, Int.mul_sub] <;> omega
  have := key ds.length (Nat.le_refl _)
  rwa [List.take_of_length_le (by rw [withF_len]; exact Nat.le_refl _), List.take_of_length_le (by rw [withF_len]; exact Nat.le_refl _)] at this
theorem sum_mul {c : Int} {f : Nat → Int} : ∀ k, My.sumTo (fun m => c * f m) k = c * My.sumTo f k
  | 0 => by show (0 : Int) = c * 0; simp
  | k + 1 => by
    show My.sumTo _ k + c * f k = c * (My.sumTo f k + f k)
    rw [sum_mul k, Int.mul_add]
theorem nets_am : netsF (withF ds (amF ds)) = netsF ds := by rw [amF_self]
theorem thin_three {l4 g4 : Nat → Int} (hd : ∀ d ∈ ds, DueOk n d) (h3 : ∀ d ∈ withF ds (fun i => 3 * amF ds i), DueOk n d) (hl : ∀ i, i < ds.length → 0 ≤ l i ∧ l i ≤ amF ds i) (hn : ∀ m, m < n → netsF (withF ds l) m = netsF ds m) (hP : PotOk (opn ds l) Due.a g)
    (h4 : ∀ i, i < (withF ds fun i => 3 * amF ds i).length → 0 ≤ l4 i ∧ l4 i ≤ amF (withF ds fun i => 3 * amF ds i) i) (hn4 : ∀ m, m < n → netsF (withF (withF ds fun i => 3 * amF ds i) l4) m = netsF (withF ds fun i => 3 * amF ds i) m) (hP4 : PotOk (opn (withF ds fun i => 3 * amF ds i) l4) Due.a g4) : sumI (vec ds.length l4) = 3 * sumI (vec ds.length l) := by
  have es : sumI (vec ds.length fun i => 3 * l i) = 3 * sumI (vec ds.length l) := by rw [sumI_vec, sumI_vec, sum_mul]
  have hl3 : ∀ i, i < (withF ds fun i => 3 * amF ds i).length → 0 ≤ 3 * l i ∧ 3 * l i ≤ amF (withF ds fun i => 3 * amF ds i) i := fun i hi => by
    rw [withF_len] at hi
    rw [amF_with hi]
    have := hl i hi; omega
  have hnn : ∀ m, m < n → netsF (withF (withF ds fun i => 3 * amF ds i) fun i => 3 * l i) m = netsF (withF (withF ds fun i => 3 * amF ds i) l4) m := fun m hm => by
    rw [hn4 m hm, withF2, nets_mul, nets_mul, nets_am, hn m hm]
  have hPP : PotOk (opn (withF ds fun i => 3 * amF ds i) fun i => 3 * l i) Due.a g := fun e he => by
    obtain ⟨i, d, q1, q2, q3⟩ := opn_with he
    refine hP e (steps_mem.mpr ⟨i, d, q1, q2, ?_⟩)
    rw [amF_get q2] at q3
    rcases q3 with ⟨a, b⟩ | ⟨a, b⟩
    · exact .inl ⟨by omega, b⟩
    · exact .inr ⟨by omega, b⟩
  have a1 := thin_least h3 hl3 h4 hnn hPP
  have a2 := thin_least h3 h4 hl3 (fun m hm => (hnn m hm).symm) hP4
  rw [withF_len] at a1 a2
  omega
theorem nets_app (xs ys : List Due) (m : Nat) : netsF (xs ++ ys) m = netsF xs m + netsF ys m := by
  have key : ∀ t, t ≤ ys.length → netsF (xs ++ ys.take t) m = netsF xs m + netsF (ys.take t) m := by
    intro t
    induction t with
    | zero => intro _; rw [List.take_zero, List.append_nil]; show netsF xs m = netsF xs m + (0 - 0); omega
    | succ t ih =>
      intro ht
      obtain ⟨d, hdt⟩ := lt_some (show t < ys.length by omega)
      rw [take_snoc hdt, ← List.append_assoc, nets_snoc, nets_snoc, ih (by omega)]; omega
  have := key ys.length (Nat.le_refl _)
  rwa [List.take_length] at this
theorem nets_rev (xs : List Due) : netsF xs.reverse = netsF xs := funext fun m => by
  induction xs with
  | nil => rfl
  | cons d xs ih =>
    rw [List.reverse_cons, nets_app, ih, show d :: xs = [d] ++ xs from rfl, nets_app]; omega
theorem rev_get {α : Type} {xs : List α} {i : Nat} (h : i < xs.length) : xs.reverse[i]? = xs[xs.length - 1 - i]? := List.getElem?_reverse h
theorem with_rev {f : Nat → Int} : withF ds.reverse f = (withF ds fun i => f (ds.length - 1 - i)).reverse := by
  refine List.ext_getElem? fun i => ?_
  rcases Nat.lt_or_ge i ds.length with hi | hi
  · obtain ⟨d, hd⟩ := lt_some (show ds.length - 1 - i < ds.length by omega)
    have hr : ds.reverse[i]? = some d := by rw [rev_get hi]; exact hd
    rw [withF_get hr, rev_get (by rw [withF_len]; exact hi), withF_len, withF_get hd, show ds.length - 1 - (ds.length - 1 - i) = i by omega]
  · rw [List.getElem?_eq_none (by rw [withF_len, List.length_reverse]; exact hi), List.getElem?_eq_none (by rw [List.length_reverse, withF_len]; exact hi)]
theorem sum_rev {f : Nat → Int} : ∀ k, My.sumTo (fun i => f (k - 1 - i)) k = My.sumTo f k := by
  have h0 : ∀ (f : Nat → Int) k, My.sumTo f (k + 1) = f 0 + My.sumTo (fun i => f (i + 1)) k := by
    intro f k
    induction k with
    | zero => show (0 : Int) + f 0 = f 0 + 0; omega
    | succ k ih =>
      show My.sumTo f (k + 1) + f (k + 1) = f 0 + (My.sumTo (fun i => f (i + 1)) k + f (k + 1))
      rw [ih]; omega
  intro k
  induction k with
  | zero => rfl
  | succ k ih =>
    rw [h0 (fun i => f (k + 1 - 1 - i)) k]
    show f (k + 1 - 1 - 0) + My.sumTo (fun i => f (k + 1 - 1 - (i + 1))) k = My.sumTo f k + f k
    rw [← ih, show k + 1 - 1 - 0 = k by omega, sumTo_cong (f := fun i => f (k + 1 - 1 - (i + 1))) (g := fun i => f (k - 1 - i)) fun m _ => by rw [show k + 1 - 1 - (m + 1) = k - 1 - m by omega]]
    omega
theorem am_rev {i : Nat} (h : i < ds.length) : amF ds.reverse i = amF ds (ds.length - 1 - i) := by
  obtain ⟨d, hd⟩ := lt_some (show ds.length - 1 - i < ds.length by omega)
  rw [amF_get hd, amF_get (show ds.reverse[i]? = some d by rw [rev_get h]; exact hd)]
theorem thin_rev {l5 g5 : Nat → Int} (hd : ∀ d ∈ ds, DueOk n d) (hl : ∀ i, i < ds.length → 0 ≤ l i ∧ l i ≤ amF ds i) (hn : ∀ m, m < n → netsF (withF ds l) m = netsF ds m) (hP : PotOk (opn ds l) Due.a g)
    (h5 : ∀ i, i < ds.reverse.length → 0 ≤ l5 i ∧ l5 i ≤ amF ds.reverse i) (hn5 : ∀ m, m < n → netsF (withF ds.reverse l5) m = netsF ds.reverse m) (hP5 : PotOk (opn ds.reverse l5) Due.a g5) : sumI (vec ds.length l5) = sumI (vec ds.length l) := by
  have hr : netsF ds.reverse = netsF ds := nets_rev ds
  have hw : ∀ f : Nat → Int, netsF (withF ds.reverse f) = netsF (withF ds fun i => f (ds.length - 1 - i)) := fun f => by rw [with_rev]; exact nets_rev _
  rw [List.length_reverse] at h5
  have e5 : sumI (vec ds.length fun i => l5 (ds.length - 1 - i)) = sumI (vec ds.length l5) := by rw [sumI_vec, sumI_vec, sum_rev]
  have el : sumI (vec ds.length fun i => l (ds.length - 1 - i)) = sumI (vec ds.length l) := by rw [sumI_vec, sumI_vec, sum_rev]
  have a1 := thin_least (l' := fun i => l5 (ds.length - 1 - i)) hd hl (fun i hi => by
    have := h5 (ds.length - 1 - i) (by omega)
    rwa [am_rev (by omega), show ds.length - 1 - (ds.length - 1 - i) = i by omega] at this) (fun m hm => by rw [hn m hm, ← hw, hn5 m hm, hr]) hP
  have a2 := thin_least (ds := ds.reverse) (l := l5) (l' := fun i => l (ds.length - 1 - i)) (fun d h => hd d (List.mem_reverse.mp h)) (by rw [List.length_reverse]; exact h5) (fun i hi => by
    rw [List.length_reverse] at hi
    rw [am_rev hi]
    exact hl (ds.length - 1 - i) (by omega)) (fun m hm => by
    rw [hn5 m hm, hr, hw]
    have e : (withF ds fun i => (fun i => l (ds.length - 1 - i)) (ds.length - 1 - i)) = withF ds l := withF_congr fun i hi => by
      show l (ds.length - 1 - (ds.length - 1 - i)) = l i
      rw [show ds.length - 1 - (ds.length - 1 - i) = i by omega]
    rw [e, hn m hm]) hP5
  rw [List.length_reverse] at a2
  omega
end
end Internal

set_option Elab.async false
set_option linter.all false
set_option maxRecDepth 100000
namespace Internal
open PySem PySem.Spec PyProof.Rows
theorem BT.reversed : bootBuiltins "reversed" = some (.type "reversed") := by decide +kernel
theorem slot_lri_hint : typeLookup (.type "list_reverseiterator") "__length_hint__" = pure (some (.builtin "list_reverseiterator.__length_hint__")) := by rw [typeLookup_type, builtinLookup_eq_fast]; kernel_rfl
theorem slot_lri_len : typeLookup (.type "list_reverseiterator") "__len__" = pure none := by rw [typeLookup_type, builtinLookup_eq_fast]; kernel_rfl
section
variable {prog : Program} {w : World} {A : Around} {E : Value → Shared → Prop} {s : Shared}
theorem hint_rev {it l : Addr} {i : Int} {Q : Bool → Shared → Prop} (hit : s.heap.IsRevIter it l i) (h : Q false s) : wpAny (model prog w) A (Builtin.List.listLengthHint (.ref it)) Q E s := by
  unfold Builtin.List.listLengthHint
  refine wpAny_bind (wpAny_specialOf hit.typeIs slot_lri_len ?_)
  try dsimp only
  refine wpAny_ite_split (fun hab => absurd hab (by decide)) (fun _ => ?_)
  refine wpAny_ite_split (fun hab => absurd hab (by decide)) (fun _ => ?_)
  refine wpAny_bind (wpAny_specialOf hit.typeIs slot_lri_hint ?_)
  generalize hid : ("list_reverseiterator.__length_hint__" : String) = id0
  wp_delta
  rw [show splitId id0 = some ("list_reverseiterator", "__length_hint__") from by subst hid; decide +kernel]
  subst hid
  refine wpAny_bind (wpAny_isInstance (T := "list_reverseiterator") (b := true) hit.typeIs (by rw [isSubtype_type]; kernel_rfl) ?_)
  refine wpAny_ite_split (fun hab => absurd hab (by decide)) (fun _ => ?_)
  refine wpAny_ite_split (fun _ => ?_) (fun hab => absurd (by decide +kernel) hab)
  exact wpAny_ite_split (fun hab => absurd hab (by decide +kernel)) (fun _ => wpAny_pure h)
theorem extend_rev {R : Result → Shared → Prop} {I l : Addr} {items : Array Value} (hh : A.handled = none) (hit : s.heap.IsRevIter I l ((items.size : Int) - 1)) (hl : s.heap.IsList l items) (hne : l ≠ I) (hlen : items.size ≤ 100000) (S : Addr) (hSl : S ≠ l) (hSI : S ≠ I) (res : Value) (c₀ : Nat) (hS : s.heap.get? S = some { cls := .type "list", data := .seq #[] c₀ })
    (hR : ∀ h' tk acc' c', (∀ b o, b ≠ S → b ≠ I → s.heap.get? b = some o → h'.get? b = some o) → h'.get? S = some { cls := .type "list", dict := none, data := .seq acc' c', slots := #[] } →
      ItemsOf (fun i v => items[items.size - 1 - i]? = some v) acc' items.size → R (.ok (.ret res)) { s with heap := h', toks := tk }) :
    wpAny (model prog w) A.in1 (Builtin.List.listExtendWith (.ref S) (.ref I) res)
      (fun fin s' => match fin with | .done f => R (.ok f) s' | .again c' => c'.quiet = true ∧ codeAny (model prog w) A c' R s') (fun e s' => R (.error e) s') s := by
  have hSf : S ∉ [I, l] := fun hm => by
    rcases List.mem_cons.mp hm with e | hm
    · exact hSI e
    · exact hSl (List.mem_singleton.mp hm)
  have W := (Walks.listRev (prog := prog) (w := w) (A := A.in1) hh I l hne items).toS
  have hz : (items.size : Int) - 1 = (items.size : Int) - 1 - ((0 : Nat) : Int) := by omega
  unfold Builtin.List.listExtendWith
  refine wpAny_bind (wpAny_typeOf (T := "list_reverseiterator") hit.typeIs ?_)
  have h1 : Builtin.List.listSameRef (.ref S) (.ref I) = false := by simp [Builtin.List.listSameRef, hSI]
  have h2 : (Value.type "list_reverseiterator" == Value.type "list") = false := by decide
  have h3 : (Value.type "list_reverseiterator" == Value.type "tuple") = false := by decide
  simp only [h1, h2, h3, Bool.or_false, Bool.false_eq_true, if_false]
  refine wpAny_bind (wpAny_pyIter_revIter hit ?_)
  refine wpAny_bind (wpAny_holding (hint_rev hit ?_))
  refine wpAny_ite_split (fun hab => absurd hab (by decide)) (fun _ => wpAny_pure ⟨plainId_quiet F.plain_extend_loop _, ?_⟩)
  refine codeAny_extend_loopS W (by rw [sizeLine_eq]; omega) S hSf res items.size 0 _ #[] c₀ rfl (Nat.zero_le _) ⟨Nat.zero_le _, hz ▸ hit, hl⟩ hS (ItemsOf.nil _) fun s' acc' c' hm hS' hacc => ?_
  rw [Moved.eq_with hm]
  refine hR s'.heap s'.toks acc' c' (fun b o hb hb' e => hm.heap b o (fun hmem => ?_) e) hS' hacc
  rcases List.mem_cons.mp hmem with e' | hmem
  · exact hb e'
  · exact hb' (List.mem_singleton.mp hmem)
theorem init_rev {R : Result → Shared → Prop} {I l : Addr} {items : Array Value} (hh : A.handled = none) (hit : s.heap.IsRevIter I l ((items.size : Int) - 1)) (hl : s.heap.IsList l items) (hne : l ≠ I) (hlen : items.size ≤ 100000) (S : Addr) (hSl : S ≠ l) (hSI : S ≠ I) (hS : s.heap.get? S = some { cls := .type "list", data := .seq #[] })
    (hR : ∀ h' tk acc' c', (∀ b o, b ≠ S → b ≠ I → s.heap.get? b = some o → h'.get? b = some o) → h'.get? S = some { cls := .type "list", dict := none, data := .seq acc' c', slots := #[] } →
      ItemsOf (fun i v => items[items.size - 1 - i]? = some v) acc' items.size → R (.ok (.ret .none)) { s with heap := h', toks := tk }) :
    wpAny (model prog w) A.in1 (Builtin.«list.__init__» ⟨[.ref S, .ref I], []⟩)
      (fun fin s' => match fin with | .done f => R (.ok f) s' | .again c' => c'.quiet = true ∧ codeAny (model prog w) A c' R s') (fun e s' => R (.error e) s') s := by
  show wpAny _ _ (do let old ← Builtin.List.listItems (.ref S); Builtin.List.listUpdate (.ref S) (fun _ => #[]); letGo old.toList.reverse; Builtin.List.listExtendWith (.ref S) (.ref I) .none) _ _ s
  refine wpAny_bind ?_
  unfold Builtin.List.listItems
  refine wpAny_bind (wpAny_seqItems hS rfl (wpAny_pure ?_))
  show wpAny _ _ (updateSeq S (fun _ => #[]) >>= fun _ => letGo (#[] : Array Value).toList.reverse >>= fun _ => Builtin.List.listExtendWith (.ref S) (.ref I) .none) _ _ s
  refine wpAny_bind (wpAny_updateSeq hS rfl ?_)
  have hS₂ := Heap.get?_update_self (Obj.mapSeq (fun _ => (#[] : Array Value))) hS rfl
  have oth : ∀ b o, b ≠ S → s.heap.get? b = some o → (s.heap.update S (Obj.mapSeq (fun _ => (#[] : Array Value)))).get? b = some o :=
    fun b o hb e => (Heap.get?_update_other _ _ (Ne.symm hb)).trans e
  refine wpAny_bind (wpAny_letGo ?_)
  refine extend_rev hh (hit.at fun o e => oth I o (Ne.symm hSI) e) (hl.at fun o e => oth l o (Ne.symm hSl) e) hne hlen S hSl hSI .none _ hS₂ fun h' tk acc' c' hk hS' hacc => ?_
  exact hR h' tk acc' c' (fun b o hb hb' e => hk b o hb hb' (oth b o hb e)) hS' hacc
theorem call_list_rev {Q : Value → Shared → Prop} {I l : Addr} {items : Array Value} (hh : A.handled = none) (hit : s.heap.IsRevIter I l ((items.size : Int) - 1)) (hl : s.heap.IsList l items) (hne : l ≠ I) (hlen : items.size ≤ 100000)
    (hQ : ∀ h' tk acc' c', (∀ b o, b ≠ I → s.heap.get? b = some o → h'.get? b = some o) →
      h'.get? s.heap.objs.size = some { cls := .type "list", dict := none, data := .seq acc' c', slots := #[] } → ItemsOf (fun i v => items[items.size - 1 - i]? = some v) acc' items.size → Q (.ref s.heap.objs.size) { s with heap := h', toks := tk }) :
    wpAny (model prog w) A (call (.type "list") [.ref I]) Q E s := by
  refine callType_codes (Q₁ := fun obj s₁ => obj = .ref s.heap.objs.size ∧ s₁ = { s with heap := s.heap.push { cls := .type "list", data := .seq #[] } }) F.called_list (F.typeCall_list_1 _) F.entry_list_init
    (code_list_new _ ⟨rfl, rfl⟩) fun obj s₁ h₁ => ?_
  obtain ⟨rfl, rfl⟩ := h₁
  have hS : (s.heap.push { cls := .type "list", data := .seq #[] }).get? s.heap.objs.size = some { cls := .type "list", data := .seq #[] } := Heap.get?_push_size _ rfl
  obtain ⟨o1, ho1, _⟩ := id hit
  obtain ⟨o2, ho2, _⟩ := id hl
  have n1 : s.heap.objs.size ≠ I := (Nat.ne_of_lt (Heap.lt_size ho1)).symm
  have n2 : s.heap.objs.size ≠ l := (Nat.ne_of_lt (Heap.lt_size ho2)).symm
  refine ⟨⟨_, hS, rfl⟩, F.args_list_init_2 _ _, init_rev (A := A.in1) hh (hit.at fun o e => Heap.get?_push_of_some _ e) (hl.at fun o e => Heap.get?_push_of_some _ e) hne hlen _ n2 n1 hS fun h' tk acc' c' hk hS' hacc => ?_⟩
  exact ⟨rfl, hQ h' tk acc' c' (fun b o hb e => hk b o (Nat.ne_of_lt (Heap.lt_size e)) hb (Heap.get?_push_of_some _ e)) hS' hacc⟩
end
theorem vals_rev {xs : List V} {its acc : List Value} (h : Vals xs its) (hl : acc.length = its.length) (ha : ∀ j v, acc[j]? = some v → its[its.length - 1 - j]? = some v) : Vals xs.reverse acc := by
  have e : acc = its.reverse := by
    refine List.ext_getElem? fun i => ?_
    by_cases hi : i < acc.length
    · obtain ⟨v, hv⟩ := lt_some hi
      rw [hv, List.getElem?_reverse (by omega)]
      exact (ha i v hv).symm
    · rw [List.getElem?_eq_none (by omega), List.getElem?_eq_none (by rw [List.length_reverse]; omega)]
  rw [e]
  exact h.reverse
noncomputable def rListRev (K : PySem.W.Frag) (x : V) (H : Hp) (Q : VK) : Prop := ∃ (a : Addr) (xs : List V), x = .ref a ∧ SqL K H a xs ∧ xs.length ≤ 100000 ∧ ∀ l, H l = none → Q (.ref l) (upd H l (.lst xs.reverse))
theorem pe_listRev {X : Cx} {p p2 pos pos2 : Pos} {e : Expr} {te : TE} (hc : X.calm = true) (hg : Gl X "list") (hm : X.mg "list" = none) (hv : bootBuiltins "list" = some (.type "list")) (hg2 : Gl X "reversed") (hm2 : X.mg "reversed" = none) (hv2 : bootBuiltins "reversed" = some (.type "reversed")) (he : PE X e te)
    (h1 : autoParam (starEach [.Call (.Name "reversed" p2) [e] [] pos2] X.env = [(false, eval (.Call (.Name "reversed" p2) [e] [] pos2) X.env)]) Internal.aut2._auto_1) (h2 : autoParam (starEach [e] X.env = [(false, eval e X.env)]) Internal.aut2._auto_1) : PE X (.Call (.Name "list" p) [.Call (.Name "reversed" p2) [e] [] pos2] [] pos) (tUn (rListRev X.K) te) := by
  intro pins s σ H Q I h
  refine wpAny_Call_Name_kw (ld_blt I hg hm hv ?_ (by decide) (by decide))
  refine PyProof.Rows.callWith_type1 ?_ h1 rfl
  rw [h1]
  show wpAny _ _ (spliced ((false, eval (.Call (.Name "reversed" p2) [e] [] pos2) X.env) :: backTo pos [])) _ _ s
  refine Calls.spliced_cons ?_
  refine wpAny_Call_Name_kw (ld_blt I hg2 hm2 hv2 ?_ (by decide) (by decide))
  refine PyProof.Rows.callWith_type1 ?_ h2 rfl
  rw [h2]
  show wpAny _ _ (spliced ((false, eval e X.env) :: backTo pos2 [])) _ _ s
  refine Calls.spliced_cons ?_
  refine thn (he pins s σ H _ I h) fun u s1 zz => ?_
  obtain ⟨x, H1, I1, rx, a, xs, ex, hq, hl, q⟩ := zz
  subst ex
  cases (show u = Value.ref a from rx)
  obtain ⟨its, rv, pl, hil, hlt⟩ := I1.walk hq
  refine Calls.spliced_nil (call_reversed_list pl (Calls.spliced_nil ?_))
  have hsz : (its.toArray.size : Int) = its.length := by simp
  have hit : (s1.heap.push (revObj a ((its.toArray.size : Int) - 1))).IsRevIter s1.heap.objs.size a ((its.toArray.size : Int) - 1) := ⟨_, Heap.get?_push_size _ rfl, rfl, rfl⟩
  refine call_list_rev (I1.ok.hd hc) hit (pl.at fun o e => Heap.get?_push_of_some _ e) (Nat.ne_of_lt hlt) (by simp; omega) fun h' tk acc c' hk hS hacc => ?_
  have hps : (s1.heap.push (revObj a ((its.toArray.size : Int) - 1))).objs.size = s1.heap.objs.size + 1 := by simp [Heap.push]
  have hv' : Vals xs.reverse acc.toList := vals_rev rv (by have := hacc.1; simpa using this) fun j v hj => by
    have := hacc.2 j v (by simpa using hj)
    simpa using this
  rw [hps] at hS
  have J : Inv X pins σ (upd H1 (s1.heap.objs.size + 1) (.lst xs.reverse)) { s1 with heap := h', toks := tk } := I1.laid (fun b o e => hk b o (Nat.ne_of_lt (Heap.lt_size e)) (Heap.get?_push_of_some _ e)) (Nat.le_succ _) ⟨by rw [List.length_reverse]; exact small_le hl, acc.toList, c', hv', hS⟩
  rw [hps]
  exact ⟨.ref (s1.heap.objs.size + 1), _, J, rfl, q _ (I1.hok.fresh (Nat.le_succ _))⟩
theorem x_listRev {K : PySem.W.Frag} {H : Hp} {Q : VK} {a : Addr} {xs : List V} (h : SqL K H a xs) (hl : xs.length ≤ 100000) (q : ∀ l H', H l = none → Same H H' → H' l = some (.lst xs.reverse) → Q (.ref l) H') : rListRev K (.ref a) H Q :=
  ⟨a, xs, rfl, h, hl, fun l hn => q l _ hn (Same.new hn _) upd_same⟩
end Internal

set_option Elab.async false
set_option linter.all false
set_option maxRecDepth 100000
set_option maxHeartbeats 4000000
namespace Internal
open PySem PySem.Spec PyProof.Rows
inductive Ch (ds : List Due) : List Nat → Int → Int → Prop
  | nil {u : Int} : Ch ds [] u u
  | cons {k : Nat} {ks : List Nat} {d : Due} {v : Int} : ds[k]? = some d → Ch ds ks d.q v → Ch ds (k :: ks) d.p v
section
variable {ds : List Due} {l : Nat → Int} {n : Nat}
theorem Ch.snoc {ks : List Nat} {u v : Int} (h : Ch ds ks u v) {k : Nat} {d : Due} (hk : ds[k]? = some d) (hp : d.p = v) : Ch ds (ks ++ [k]) u d.q := by
  induction h with
  | nil => subst hp; exact .cons hk .nil
  | cons h1 _ ih => exact .cons h1 (ih hp)
noncomputable def payF (ds : List Due) (k : Nat) : Int := match ds[k]? with
  | none => 0
  | some d => d.p
theorem Ch.drop {ks : List Nat} {u v : Int} (h : Ch ds ks u v) : ∀ {j k : Nat}, ks[j]? = some k → Ch ds (ks.drop j) (payF ds k) v := by
  induction h with
  | nil => intro j k h; cases h
  | cons h1 h2 ih =>
    rename_i k0 ks d v
    intro j k hj
    cases j with
    | zero =>
      cases hj
      have e : payF ds k0 = d.p := by unfold payF; rw [h1]
      rw [e]
      exact .cons h1 h2
    | succ j => exact ih (by simpa using hj)
noncomputable def sub1 (f : Int) (l : Nat → Int) (k : Nat) : Nat → Int := fun i => if i = k then l k - f else l i
noncomputable def subL (f : Int) (l : Nat → Int) (ks : List Nat) : Nat → Int := ks.foldl (sub1 f) l
theorem subL_snoc (f : Int) (l : Nat → Int) (ks : List Nat) (k : Nat) : subL f l (ks ++ [k]) = sub1 f (subL f l ks) k := by unfold subL; rw [List.foldl_append]; rfl
theorem subL_out {f : Int} {i : Nat} : ∀ (ks : List Nat) (l : Nat → Int), i ∉ ks → subL f l ks i = l i
  | [], _, _ => rfl
  | k :: ks, l, h => by
    show subL f (sub1 f l k) ks i = l i
    rw [subL_out ks _ fun z => h (.tail _ z)]
    exact if_neg fun z => h (by rw [z]; exact .head _)
theorem subL_at {f : Int} {i : Nat} : ∀ (ks : List Nat) (l : Nat → Int), i ∈ ks → ks.Nodup → subL f l ks i = l i - f
  | [], _, h, _ => nomatch h
  | k :: ks, l, h, hn => by
    show subL f (sub1 f l k) ks i = l i - f
    obtain ⟨h1, h2⟩ := List.nodup_cons.mp hn
    rcases List.mem_cons.mp h with rfl | h
    · rw [subL_out ks _ h1]
      exact if_pos rfl
    · rw [subL_at ks _ h h2]
      have : ¬ i = k := fun z => h1 (z ▸ h)
      show (if i = k then l k - f else l i) - f = l i - f
      rw [if_neg this]
theorem Ch.nets {f : Int} {ks : List Nat} {u v : Int} (h : Ch ds ks u v) : ∀ (l : Nat → Int) (m : Nat), netsF (withF ds (subL f l ks)) m = netsF (withF ds l) m + (if u = (m : Int) then f else 0) - (if v = (m : Int) then f else 0) := by
  induction h with
  | nil => intro l m; show netsF (withF ds l) m = _; split <;> omega
  | cons h1 h2 ih =>
    rename_i k ks d v
    intro l m
    show netsF (withF ds (subL f (sub1 f l k) ks)) m = _
    rw [ih (sub1 f l k) m]
    have e := nets_upd (g := l) (v := l k - f) h1 m
    have e1 : withF ds (sub1 f l k) = withF ds fun i => if i = k then l k - f else l i := rfl
    rw [e1, e]
    split <;> split <;> split <;> omega
noncomputable def RingK (ds : List Due) (l : Nat → Int) (ks : List Nat) : Prop := (∃ u, Ch ds ks u u) ∧ ks.Nodup ∧ ∀ k ∈ ks, k < ds.length ∧ 0 < l k
noncomputable def Keeps (n : Nat) (ds : List Due) (l : Nat → Int) : Prop := (∀ i, i < ds.length → 0 ≤ l i ∧ l i ≤ amF ds i) ∧ ∀ m, m < n → netsF (withF ds l) m = netsF ds m
theorem Keeps.start (hd : ∀ d ∈ ds, DueOk n d) : Keeps n ds (amF ds) := ⟨fun i hi => by
  obtain ⟨d, h⟩ := lt_some hi
  rw [amF_get h]
  exact ⟨(hd d (List.mem_of_getElem? h)).2.2.2.2.2.2.2.1, Int.le_refl _⟩, fun m _ => by rw [nets_am]⟩
theorem Keeps.ring (K : Keeps n ds l) {ks : List Nat} (R : RingK ds l ks) {f : Int} (h0 : 0 ≤ f) (h1 : ∀ k ∈ ks, f ≤ l k) : Keeps n ds (subL f l ks) := by
  obtain ⟨⟨u, C⟩, hn, hk⟩ := R
  refine ⟨fun i hi => ?_, fun m hm => ?_⟩
  · by_cases h : i ∈ ks
    · rw [subL_at ks l h hn]
      have := K.1 i hi
      have := h1 i h
      omega
    · rw [subL_out ks l h]; exact K.1 i hi
  · rw [C.nets l m, K.2 m hm]; omega
set_option genInjectivity false in
set_option genSizeOf false in
structure Gone (n : Nat) (ds : List Due) (l : Nat → Int) (ks : List Nat) (u : Nat) : Prop where
  ch : ∃ s, Ch ds ks s (u : Int)
  nd : (ks.map (payF ds)).Nodup
  ok : ∀ k ∈ ks, k < ds.length ∧ 0 < l k
  new : (u : Int) ∉ ks.map (payF ds)
  lt : u < n
theorem nodup_of_map {α β : Type} {f : α → β} {xs : List α} (h : (xs.map f).Nodup) : xs.Nodup := by
  rw [List.nodup_iff_pairwise_ne, List.pairwise_map] at h
  rw [List.nodup_iff_pairwise_ne]
  exact h.imp fun h z => h (by rw [z])
theorem Gone.step (hd : ∀ d ∈ ds, DueOk n d) {ks : List Nat} {u k : Nat} {d : Due} (G : Gone n ds l ks u) (hk : ds[k]? = some d) (hp : d.p = (u : Int)) (ha : 0 < l k) (hn : d.q ∉ (ks ++ [k]).map (payF ds)) : Gone n ds l (ks ++ [k]) d.q.toNat := by
  obtain ⟨s, C⟩ := G.ch
  obtain ⟨p0, p1, q0, q1, _⟩ := hd d (List.mem_of_getElem? hk)
  have ep : payF ds k = (u : Int) := by unfold payF; rw [hk]; exact hp
  refine ⟨⟨s, ?_⟩, ?_, fun x hx => ?_, ?_, by omega⟩
  · rw [show ((d.q.toNat : Nat) : Int) = d.q by omega]; exact C.snoc hk hp
  · rw [List.map_append]
    refine List.nodup_append.mpr ⟨G.nd, by simp, fun x hx y hy e => ?_⟩
    rw [List.map_singleton, List.mem_singleton] at hy
    subst hy; subst e
    rw [ep] at hx
    exact G.new hx
  · rcases List.mem_append.mp hx with h | h
    · exact G.ok x h
    · rw [List.mem_singleton.mp h]; exact ⟨(List.getElem?_eq_some_iff.mp hk).1, ha⟩
  · rw [show ((d.q.toNat : Nat) : Int) = d.q by omega]; exact hn
theorem Gone.ring {ks : List Nat} {u k j : Nat} {d : Due} (G : Gone n ds l ks u) (hk : ds[k]? = some d) (hp : d.p = (u : Int)) (ha : 0 < l k) (hj : ((ks ++ [k]).map (payF ds))[j]? = some d.q) : RingK ds l ((ks ++ [k]).drop j) := by
  obtain ⟨s, C⟩ := G.ch
  have ep : payF ds k = (u : Int) := by unfold payF; rw [hk]; exact hp
  have hnd : ((ks ++ [k]).map (payF ds)).Nodup := by
    rw [List.map_append]
    refine List.nodup_append.mpr ⟨G.nd, by simp, fun x hx y hy e => ?_⟩
    rw [List.map_singleton, List.mem_singleton] at hy
    subst hy; subst e
    rw [ep] at hx
    exact G.new hx
  rw [List.getElem?_map] at hj
  cases hx : (ks ++ [k])[j]? with
  | none => rw [hx] at hj; cases hj
  | some x =>
    rw [hx] at hj
    have hq : payF ds x = d.q := Option.some.inj hj
    have C2 := (C.snoc hk hp).drop hx
    rw [hq] at C2
    refine ⟨⟨_, C2⟩, (nodup_of_map hnd).sublist (List.drop_sublist _ _), fun y hy => ?_⟩
    rcases List.mem_append.mp (List.mem_of_mem_drop hy) with h | h
    · exact G.ok y h
    · rw [List.mem_singleton.mp h]; exact ⟨(List.getElem?_eq_some_iff.mp hk).1, ha⟩
theorem ring_nil : RingK ds l [] := ⟨⟨0, .nil⟩, List.nodup_nil, fun _ h => nomatch h⟩
end
theorem sum_bd {f : Nat → Int} {B : Int} : ∀ k : Nat, (∀ i, i < k → 0 ≤ f i ∧ f i ≤ B) → 0 ≤ sumI (vec k f) ∧ sumI (vec k f) ≤ (k : Int) * B
  | 0, _ => by rw [sumI_vec]; exact ⟨Int.le_refl _, by show (0 : Int) ≤ 0 * B; simp⟩
  | k + 1, h => by
    have h1 := sum_bd k fun i hi => h i (by omega)
    have h2 := h k (by omega)
    rw [vec_succ, sumI_snoc]
    have e : ((k + 1 : Nat) : Int) * B = (k : Int) * B + B := by push_cast; rw [Int.add_mul, Int.one_mul]
    omega
theorem IsTs.rev' {α : Type} {f : α → List V} {H : Hp} : ∀ {vs : List V} {xs : List α}, IsTs f H vs xs → IsTs f H vs.reverse xs.reverse
  | [], [], _ => trivial
  | v :: vs, x :: xs, ⟨q, r⟩ => by
    rw [List.reverse_cons, List.reverse_cons]
    exact IsTs.cat (ws := [v]) (ys := [x]) ⟨q, trivial⟩ (IsTs.rev' r)
noncomputable def spOn (K : PySem.W.Frag) : Sp := fun vs H Q _ => ∃ (m : Int) (a b : Addr) (xs : List V) (ds : List Due) (l : Nat → Int), vs = [.int m, .ref a, .ref b] ∧ H a = some (.lst xs) ∧ IsTs dueV H xs ds ∧ H b = some (.lst ((vec ds.length l).map V.int)) ∧ ds.length ≤ 1000 ∧ Q .non H ∧ ∀ k d, ds[k]? = some d → d.p = m → 0 < l k → Q (.int (k : Int)) H
theorem spOn_i {K : PySem.W.Frag} {m : Int} {a b : Addr} {xs : List V} {ds : List Due} {l : Nat → Int} {H : Hp} {Q : VK} {E : XK} (h1 : H a = some (.lst xs)) (h2 : IsTs dueV H xs ds) (h3 : H b = some (.lst ((vec ds.length l).map V.int))) (h4 : ds.length ≤ 1000) (q1 : Q .non H) (q2 : ∀ k d, ds[k]? = some d → d.p = m → 0 < l k → Q (.int (k : Int)) H) : spOn K [.int m, .ref a, .ref b] H Q E := ⟨m, a, b, xs, ds, l, rfl, h1, h2, h3, h4, q1, q2⟩
noncomputable def spRound (K : PySem.W.Frag) : Sp := fun vs H Q _ => ∃ (u n : Nat) (a b : Addr) (xs : List V) (ds : List Due) (l : Nat → Int), vs = [.int u, .int n, .ref a, .ref b] ∧ H a = some (.lst xs) ∧ IsTs dueV H xs ds ∧ H b = some (.lst ((vec ds.length l).map V.int)) ∧ ds.length ≤ 1000 ∧ n ≤ 9 ∧ u < n ∧ (∀ d ∈ ds, DueOk n d) ∧ ∀ p H' ks, H p = none → Same H H' → H' p = some (.lst ((natI ks).map V.int)) → RingK ds l ks → ks.length ≤ 9 → Q (.ref p) H'
theorem spRound_i {K : PySem.W.Frag} {u n : Nat} {a b : Addr} {xs : List V} {ds : List Due} {l : Nat → Int} {H : Hp} {Q : VK} {E : XK} (h1 : H a = some (.lst xs)) (h2 : IsTs dueV H xs ds) (h3 : H b = some (.lst ((vec ds.length l).map V.int))) (h4 : ds.length ≤ 1000) (h5 : n ≤ 9) (h6 : u < n) (h7 : ∀ d ∈ ds, DueOk n d) (q : ∀ p H' ks, H p = none → Same H H' → H' p = some (.lst ((natI ks).map V.int)) → RingK ds l ks → ks.length ≤ 9 → Q (.ref p) H') : spRound K [.int u, .int n, .ref a, .ref b] H Q E := ⟨u, n, a, b, xs, ds, l, rfl, h1, h2, h3, h4, h5, h6, h7, q⟩
noncomputable def spOther17 (K : PySem.W.Frag) : Sp := fun vs H Q _ => ∃ (s : Addr) (ns : List Int) (n : Nat) (a : Addr) (xs : List V) (ds : List Due), vs = [.ref s, .int n, .ref a] ∧ SqL K H s (ns.map V.int) ∧ H a = some (.lst xs) ∧ IsTs dueV H xs ds ∧ ds.length ≤ 1000 ∧ 1 ≤ n ∧ n ≤ 9 ∧ (∀ d ∈ ds, DueOk n d) ∧ ∀ p H' l, H p = none → Same H H' → H' p = some (.lst ((vec ds.length l).map V.int)) → Keeps n ds l → Q (.ref p) H'
theorem spOther17_i {K : PySem.W.Frag} {s : Addr} {ns : List Int} {n : Nat} {a : Addr} {xs : List V} {ds : List Due} {H : Hp} {Q : VK} {E : XK} (h0 : SqL K H s (ns.map V.int)) (h1 : H a = some (.lst xs)) (h2 : IsTs dueV H xs ds) (h4 : ds.length ≤ 1000) (h5 : 1 ≤ n) (h6 : n ≤ 9) (h7 : ∀ d ∈ ds, DueOk n d) (q : ∀ p H' l, H p = none → Same H H' → H' p = some (.lst ((vec ds.length l).map V.int)) → Keeps n ds l → Q (.ref p) H') : spOther17 K [.ref s, .int n, .ref a] H Q E := ⟨s, ns, n, a, xs, ds, rfl, h0, h1, h2, h4, h5, h6, h7, q⟩
end Internal

set_option Elab.async false
set_option linter.all false
set_option maxRecDepth 100000
set_option maxHeartbeats 4000000
namespace Internal.K
open PySem Internal
local macro_rules | `(tactic| walk_at "z") => `(tactic| first
  | assumption
  | exact sz200 (by omega) (by omega)
  | ((with_reducible apply sz_mul); (focus walk_at "z"); walk_at "z")
  | exact szL (by decide) (by omega) (by omega)
  | ((with_reducible apply Nat.le_trans (m := _)); (focus assumption); omega))
local macro_rules | `(tactic| walk_at "h") => `(tactic| first
  | assumption
  | (with_reducible exact Same.refl _)
  | ((with_reducible apply Same.at); (focus assumption); walk_at "h")
  | ((with_reducible apply LBut.tup); (focus assumption); walk_at "h")
  | ((with_reducible apply LBut.lst); (focus assumption); (focus walk_at "h"); walk_at "h")
  | ((with_reducible apply SqL.keep); (focus (show SqL _ _ _ _; assumption)); walk_at "h")
  | ((with_reducible apply SqL.of); walk_at "h")
  | ((with_reducible apply Same.after); (focus assumption); walk_at "h")
  | ((with_reducible apply LBut.same); (focus assumption); (focus walk_at "h"); walk_at "h")
  | ((with_reducible apply Same.none); (focus assumption); walk_at "h")
  | ((with_reducible apply TbW.same); (focus assumption); walk_at "h")
  | ((with_reducible apply SameT.tup); (focus assumption); walk_at "h")
  | ((with_reducible apply SameT.seq); (focus assumption); walk_at "h")
  | ((with_reducible apply Same.isTs); (focus assumption); walk_at "h")
  | ((with_reducible apply LBut.isTs); (focus assumption); walk_at "h")
  | ((with_reducible apply Same.isSh); (focus assumption); walk_at "h")
  | ((with_reducible apply IsSh.of); (focus walk_at "h"); walk_at "h")
  | ((with_reducible apply LBut.ins); (focus assumption); walk_at "h")
  | ((with_reducible apply Bk.same); (focus walk_at "h"); (focus assumption))
  | ((with_reducible apply ne_new); (focus assumption); walk_at "h")
  | ((with_reducible apply ne_new'); (focus assumption); walk_at "h"))
local macro_rules | `(tactic| walk_at "x1") => `(tactic| first
  | ((with_reducible apply x_var); (focus (exact rfl)))
  | (with_reducible (first
      | apply x_bl
      | apply x_truB
      | apply x_eqI
      | apply x_neI
      | apply x_add
      | apply x_i0
      | apply x_neg
      | apply x_call
      | apply x_max
      | apply x_min
      | apply x_andV
      | apply x_notU
      | apply x_iteT
      | apply x_iteF
      | apply x_iteNT))
  | (with_reducible refine x_iteNY (by assumption) ?_)
  | (with_reducible refine x_ite (fun _ => ?_) (fun _ => ?_))
  | (with_reducible refine x_iteN (fun _ => ?_) (fun _ => ?_))
  | (with_reducible refine x_iteB (fun _ => ?_) (fun _ => ?_))
  | (with_reducible (first
      | apply x_tup
      | apply x_lst))
  | ((with_reducible show rIx _ (V.ref _) (V.int _) _ _); first
      | refine x_ixTs (by assumption) (by rfl) ?_
      | refine x_ixVec (by assumption) (by omega) (by omega) ?_
      | refine x_ixTs (by walk_at "h") (by rfl) ?_
      | refine x_ixVec (by walk_at "h") (by omega) (by omega) ?_
      | refine x_ixLs (by walk_at "h") (by assumption) ?_
      | refine x_ixL (by walk_at "h") (by assumption) ?_
      | refine x_ixLs (by walk_at "h") (by rfl) ?_)
  | ((with_reducible show rIsiU _ [V.int _, _] _ _); refine x_isU ?_)
  | ((with_reducible show rIsiU _ [V.bl _, _] _ _); refine x_isU ?_)
  | (with_reducible (first
      | apply x_isII
      | apply x_isIB))
  | ((with_reducible show rIsiU _ [V.ref _, V.ty "tuple"] _ _); refine x_isU ?_; first | refine IsQ.isT (by walk_at "h") ?_ | refine x_isTT (by walk_at "h") ?_ | refine x_isLT (by walk_at "h") ?_)
  | ((with_reducible show rIsiU _ [V.ref _, V.ty "list"] _ _); refine x_isU ?_; first | refine x_isLL (by walk_at "h") ?_ | refine x_isTL (by walk_at "h") ?_)
  | ((with_reducible show rTup _ [] _); refine x_tupN (by first | decide | simp) (fun _ _ _ _ _ => ?_))
  | ((with_reducible show rTup _ [_] _); refine x_tupN (by first | decide | simp) (fun _ _ _ _ _ => ?_))
  | ((with_reducible show rTup _ (_ :: _ :: _ :: _) _); refine x_tupN (by first | decide | simp) (fun _ _ _ _ _ => ?_))
  | ((with_reducible show rLen _ [V.ref _] _ _); first | refine IsQ.len (by walk_at "h") ?_ | refine x_lenL (by walk_at "h") ?_ | refine x_lenT' (by walk_at "h") ?_)
  | (with_reducible refine spWhole_i ?_)
  | ((with_reducible show spCell _ _ _ _ _); refine spCell_i (by walk_at "h") (by first | decide | omega) ?_)
  | (with_reducible (first
      | apply x_for
      | apply x_comp
      | apply x_isNone
      | apply x_augS
      | apply x_ip
      | apply x_gNil
      | apply x_gCons))
  | ((with_reducible show gTup _ _ _ (V.ref _) _ _ _); refine x_gTup (by assumption) rfl ?_)
  | ((with_reducible show rIxL _ (V.ref _) (V.int _) _ _); first
      | refine x_getVec (by walk_at "h") (by omega) (by omega) ?_
      | refine x_getL (by walk_at "h") (by assumption) ?_)
  | ((with_reducible show rSetL (V.ref _) (V.int _) (V.int _) _ _); refine x_setVec (by walk_at "h") (by omega) (by omega) (fun _ _ _ => ?_))
  | ((with_reducible show rMulU (V.ref _) (V.int _) _ _); first | refine x_repVec (by walk_at "h") (by omega) (by omega) (fun _ _ _ _ _ => ?_) | refine x_repOpt (by walk_at "h") (by omega) (by omega) (fun _ _ _ _ _ => ?_) | refine x_repBl (by walk_at "h") (by omega) (by omega) (fun _ _ _ _ _ => ?_))
  | ((with_reducible show rIn _ false (V.int _) (V.ref _) _ _); refine x_in (by walk_at "h") ?_)
  | ((with_reducible show rIn _ true (V.int _) (V.ref _) _ _); refine x_notIn (by walk_at "h") ?_)
  | ((with_reducible show rRange [V.int _] _ _); refine x_rangeN (fun _ _ _ _ _ => ?_))
  | ((with_reducible show rListRng [V.ref _] _ _); refine x_listRng (by walk_at "h") (by omega) (by omega) (fun _ _ _ _ _ => ?_))
  | ((with_reducible show spWays _ _ _ _ _); refine spWays_i (by walk_at "h") (by omega) (by omega) (by omega) (by assumption) (fun _ _ _ _ _ => ?_))
  | ((with_reducible show spRing _ _ _ _ _); refine spRing_i (by walk_at "h") (by omega) (by omega) (by omega) (by assumption) (fun _ _ _ _ _ _ _ => ?_))
  | ((with_reducible show spPaid _ _ _ _ _); refine spPaid_i (by walk_at "h") (by walk_at "h") (by walk_at "h") (by walk_at "h") (by assumption) (by omega) ?_)
  | ((with_reducible show spRingless _ _ _ _ _); refine spRingless_i (by walk_at "h") (by walk_at "h") (by walk_at "h") (by assumption) (by omega) (by omega) (by omega) (by assumption) (fun _ _ => ?_))
  | ((with_reducible show spCut _ _ _ _ _); refine spCut_i (by walk_at "h") (by omega) (by omega) (by omega) (by assumption) (fun _ _ _ _ _ _ _ _ _ _ _ _ _ _ _ _ _ _ _ => ?_))
  | ((with_reducible show rMinL _ [V.ref _] _ _); first | refine x_minK (by walk_at "h") (by assumption) ?_ | refine x_minL (by walk_at "h") (by assumption) (fun _ _ _ => ?_))
  | ((with_reducible show spAmong _ _ _ _ _); refine spAmong_i (by walk_at "h") (by walk_at "h") (by omega) (by omega) (by assumption) (fun _ _ _ _ _ => ?_))
  | ((with_reducible show rSum _ [V.ref _] _ _); refine x_sum (by walk_at "h") ?_)
  | ((with_reducible show rRng1 _ [V.int _] _); refine x_rngk1 (by omega) (by omega) ?_)
  | ((with_reducible show rItL _ _ (V.ref _) _); refine x_itk (by walk_at "h") ?_)
  | ((with_reducible show rEnum _ _ [V.ref _] _); refine x_enumk (by walk_at "h") ?_)
  | ((with_reducible show spNets _ _ _ _ _); refine spNets_i (by walk_at "h") (by omega) (by omega) (by assumption) (fun _ _ _ _ _ => ?_))
  | ((with_reducible show spDrawn _ _ _ _ _); refine spDrawn_i (by walk_at "h") (by omega) (by omega) (by omega) (by omega) (fun _ _ _ => ?_))
  | ((with_reducible show spAmount _ _ _ _); refine spAmount_i (by omega) (by omega) (by omega) (by omega) (fun _ _ _ => ?_))
  | ((with_reducible show spDue _ _ _ _); refine spDue_i (by omega) (by omega) (by omega) (by omega) (by omega) (by omega) (fun _ _ _ _ _ _ _ => ?_))
  | ((with_reducible show spSheet _ _ _ _ _); refine spSheet_i (by walk_at "h") (by omega) (by omega) (by omega) (by omega) (by omega) (fun _ _ _ _ _ _ _ _ _ _ _ => ?_))
  | ((with_reducible show spAmountsOf _ _ _ _ _); refine spAmountsOf_i (by walk_at "h") (by omega) (fun _ _ _ _ _ => ?_))
  | ((with_reducible show spWith _ _ _ _ _); refine spWith_i (by walk_at "h") (by walk_at "h") (by omega) (by omega) (fun _ _ _ _ _ _ _ => ?_))
  | ((with_reducible show spWholes _ _ _ _ _); first | refine spWholes_v (by walk_at "h") (by omega) ?_ | refine spWholes_i (by walk_at "h") ?_)
  | ((with_reducible show rEqU _ (V.ref _) (V.ref _) _ _); first | refine x_eqInts (by walk_at "h") (by walk_at "h") rfl ?_ | refine x_eqSh (by walk_at "h") (by walk_at "h") rfl ?_ | refine x_eqQs (by walk_at "h") (by walk_at "h") (by walk_at "h") (by walk_at "h") ?_)
  | ((with_reducible show rNeU _ (V.ref _) (V.ref _) _ _); first | refine x_neInts (by walk_at "h") (by walk_at "h") rfl ?_ | refine x_neRows (by walk_at "h") (by walk_at "h") (by walk_at "h") (by walk_at "h") (by omega) (fun _ _ _ _ => rfl) ?_ | refine x_neSh (by walk_at "h") (by walk_at "h") rfl ?_ | refine x_neQs (by walk_at "h") (by walk_at "h") (by walk_at "h") (by walk_at "h") ?_)
  | (with_reducible (first
      | apply x_rng1
      | apply x_itL
      | apply x_bm
      | apply x_part
      | apply x_partI))
  | ((with_reducible show tyV _ "list" (V.ref _) _ ∧ _); refine x_tyL (by walk_at "h") ?_)
  | ((with_reducible show rAppend (V.ref _) [_] _ _); refine x_appN (by walk_at "h") (by omega) (fun _ _ _ => ?_))
  | ((with_reducible show NewQ _ _ _); intro _ _ _ _)
  | ((with_reducible show rLst _ _ _); refine x_lstN (by first | decide | simp) (fun _ _ _ _ _ => ?_))
  | ((with_reducible show rListOf _ _ _ _); refine x_listOfN (by walk_at "h") (fun _ _ _ _ _ => ?_))
  | ((with_reducible show rSlL _ _ _ _ _ _); refine x_cutN (by walk_at "h") (fun _ _ _ _ _ => ?_))
  | ((with_reducible show rModU _ _ _ _); refine x_mod (by first | decide | omega) ?_)
  | ((with_reducible show rMulU _ _ _ _); refine x_mul (by first | assumption | (apply CMulS.of; (focus walk_at "z"); (focus walk_at "z"); first | decide | omega)) ?_)
  | ((with_reducible show rDivU _ _ _ _); refine x_div (by first | walk_at "h" | decide) (by first | walk_at "h" | exact szL (by decide) (by decide) (by decide)) ?_)
  | ((with_reducible show rI CPow _ _ _ _ _); refine x_pow ⟨by decide, by decide, by decide⟩ rfl ?_; (try simp only [Int.reduceToNat, Int.reducePow]))
  | ((with_reducible show Ends.nx _ _ _); dsimp only [List.set, Ends.gone]))
local macro_rules | `(tactic| walk_at "x") => `(tactic| repeat' (walk_at "x1"))

noncomputable def top (i : Nat) : Stmt := PySem.Challenge.pw_quits_k17_whole_the_least_is_left.main.body.getD i (.Pass ⟨0, 0, 0, 0⟩)
noncomputable abbrev s_nets : Stmt := top 1
noncomputable abbrev s_amounts_of : Stmt := top 2
noncomputable abbrev s_with_amounts : Stmt := top 3
noncomputable abbrev s_thinned : Stmt := top 5
noncomputable abbrev s_steps_of : Stmt := top 6
noncomputable abbrev s_shortest_way : Stmt := top 7
noncomputable abbrev s_way_back : Stmt := top 8
noncomputable abbrev s_send : Stmt := top 9
noncomputable abbrev s_heights_of : Stmt := top 10
noncomputable abbrev s_a_ring : Stmt := top 12
noncomputable abbrev s_ways_onward : Stmt := top 13
noncomputable abbrev s_dues_among : Stmt := top 14
noncomputable abbrev s_cut : Stmt := top 16
noncomputable abbrev s__law_cell : Stmt := top 18
noncomputable abbrev s__law_whole : Stmt := top 19
noncomputable abbrev s__law_wholes : Stmt := top 20
noncomputable abbrev s__law_drawn : Stmt := top 21
noncomputable abbrev s__law_amount : Stmt := top 22
noncomputable abbrev s__law_due : Stmt := top 23
noncomputable abbrev s__law_sheet : Stmt := top 24
noncomputable abbrev s__law_paid_by : Stmt := top 25
noncomputable abbrev s__law_ringless : Stmt := top 26
noncomputable abbrev s__law_with : Stmt := top 27
noncomputable abbrev s__law_on : Stmt := top 28
noncomputable abbrev s__law_round : Stmt := top 29
noncomputable abbrev s__law_other : Stmt := top 30
noncomputable abbrev s_law : Stmt := top 31
theorem sc_nets : FnScope ["many", "sheet", "sums", "payer", "payee", "rank", "amount"] ["many", "sheet"] (defScope s_nets) := ⟨rfl, rfl, rfl, by decide +kernel, rfl, by decide +kernel, by decide +kernel⟩
theorem sc_amounts_of : FnScope ["sheet"] ["sheet"] (defScope s_amounts_of) := ⟨rfl, rfl, rfl, by decide +kernel, rfl, by decide +kernel, by decide +kernel⟩
theorem sc_with_amounts : FnScope ["sheet", "amounts"] ["sheet", "amounts"] (defScope s_with_amounts) := ⟨rfl, rfl, rfl, by decide +kernel, rfl, by decide +kernel, by decide +kernel⟩
theorem sc_thinned : FnScope ["many", "sheet", "left", "wanting"] ["many", "sheet"] (defScope s_thinned) := ⟨rfl, rfl, rfl, by decide +kernel, rfl, by decide +kernel, by decide +kernel⟩
theorem sc_steps_of : FnScope ["sheet", "left", "steps", "number", "due"] ["sheet", "left"] (defScope s_steps_of) := ⟨rfl, rfl, rfl, by decide +kernel, rfl, by decide +kernel, by decide +kernel⟩
theorem sc_shortest_way : FnScope ["many", "sheet", "left", "wanting", "far", "last_steps", "steps", "turn", "step", "there", "ends"] ["many", "sheet", "left", "wanting"] (defScope s_shortest_way) := ⟨rfl, rfl, rfl, by decide +kernel, rfl, by decide +kernel, by decide +kernel⟩
theorem sc_way_back : FnScope ["end", "last_steps", "way", "member"] ["end", "last_steps"] (defScope s_way_back) := ⟨rfl, rfl, rfl, by decide +kernel, rfl, by decide +kernel, by decide +kernel⟩
theorem sc_send : FnScope ["sheet", "left", "wanting", "way", "start", "end", "room", "step"] ["sheet", "left", "wanting", "way"] (defScope s_send) := ⟨rfl, rfl, rfl, by decide +kernel, rfl, by decide +kernel, by decide +kernel⟩
theorem sc_heights_of : FnScope ["many", "sheet", "left", "heights", "steps", "turn", "step"] ["many", "sheet", "left"] (defScope s_heights_of) := ⟨rfl, rfl, rfl, by decide +kernel, rfl, by decide +kernel, by decide +kernel⟩
theorem sc_a_ring : FnScope ["many", "sheet", "onward", "going", "payers", "member"] ["many", "sheet"] (defScope s_a_ring) := ⟨rfl, rfl, rfl, by decide +kernel, rfl, by decide +kernel, by decide +kernel⟩
theorem sc_ways_onward : FnScope ["many", "sheet", "going", "onward", "turn"] ["many", "sheet"] (defScope s_ways_onward) := ⟨rfl, rfl, rfl, by decide +kernel, rfl, by decide +kernel, by decide +kernel⟩
theorem sc_dues_among : FnScope ["sheet", "going", "onward", "number", "due"] ["sheet", "going"] (defScope s_dues_among) := ⟨rfl, rfl, rfl, by decide +kernel, rfl, by decide +kernel, by decide +kernel⟩
theorem sc_cut : FnScope ["many", "sheet", "left", "cuts", "ring", "fewest", "number"] ["many", "sheet"] (defScope s_cut) := ⟨rfl, rfl, rfl, by decide +kernel, rfl, by decide +kernel, by decide +kernel⟩
theorem sc__law_cell : FnScope ["_law_script", "_law_k"] ["_law_script", "_law_k"] (defScope s__law_cell) := ⟨rfl, rfl, rfl, by decide +kernel, rfl, by decide +kernel, by decide +kernel⟩
theorem sc__law_whole : FnScope ["_law_thing"] ["_law_thing"] (defScope s__law_whole) := ⟨rfl, rfl, rfl, by decide +kernel, rfl, by decide +kernel, by decide +kernel⟩
theorem sc__law_wholes : FnScope ["_law_told", "_law_size", "_law_thing"] ["_law_told", "_law_size"] (defScope s__law_wholes) := ⟨rfl, rfl, rfl, by decide +kernel, rfl, by decide +kernel, by decide +kernel⟩
theorem sc__law_drawn : FnScope ["_law_script", "_law_k", "_law_seed"] ["_law_script", "_law_k", "_law_seed"] (defScope s__law_drawn) := ⟨rfl, rfl, rfl, by decide +kernel, rfl, by decide +kernel, by decide +kernel⟩
theorem sc__law_amount : FnScope ["_law_number", "_law_seed", "_law_way"] ["_law_number", "_law_seed"] (defScope s__law_amount) := ⟨rfl, rfl, rfl, by decide +kernel, rfl, by decide +kernel, by decide +kernel⟩
theorem sc__law_due : FnScope ["_law_number", "_law_many", "_law_seed", "_law_payer", "_law_payee", "_law_rank"] ["_law_number", "_law_many", "_law_seed"] (defScope s__law_due) := ⟨rfl, rfl, rfl, by decide +kernel, rfl, by decide +kernel, by decide +kernel⟩
theorem sc__law_sheet : FnScope ["_law_script", "_law_many", "_law_most", "_law_seed", "_law_count"] ["_law_script", "_law_many", "_law_most"] (defScope s__law_sheet) := ⟨rfl, rfl, rfl, by decide +kernel, rfl, by decide +kernel, by decide +kernel⟩
theorem sc__law_paid_by : FnScope ["_law_member", "_law_rest", "_law_sheet_here", "_law_left", "_law_k"] ["_law_member", "_law_rest", "_law_sheet_here", "_law_left"] (defScope s__law_paid_by) := ⟨rfl, rfl, rfl, by decide +kernel, rfl, by decide +kernel, by decide +kernel⟩
theorem sc__law_ringless : FnScope ["_law_many", "_law_sheet_here", "_law_left", "_law_rest", "_law_turn", "_law_kept"] ["_law_many", "_law_sheet_here", "_law_left"] (defScope s__law_ringless) := ⟨rfl, rfl, rfl, by decide +kernel, rfl, by decide +kernel, by decide +kernel⟩
theorem sc__law_with : FnScope ["_law_sheet_here", "_law_left"] ["_law_sheet_here", "_law_left"] (defScope s__law_with) := ⟨rfl, rfl, rfl, by decide +kernel, rfl, by decide +kernel, by decide +kernel⟩
theorem sc__law_on : FnScope ["_law_member", "_law_sheet_here", "_law_left", "_law_k"] ["_law_member", "_law_sheet_here", "_law_left"] (defScope s__law_on) := ⟨rfl, rfl, rfl, by decide +kernel, rfl, by decide +kernel, by decide +kernel⟩
theorem sc__law_round : FnScope ["_law_member", "_law_many", "_law_sheet_here", "_law_left", "_law_came", "_law_gone", "_law_turn", "_law_number"] ["_law_member", "_law_many", "_law_sheet_here", "_law_left"] (defScope s__law_round) := ⟨rfl, rfl, rfl, by decide +kernel, rfl, by decide +kernel, by decide +kernel⟩
theorem sc__law_other : FnScope ["_law_script", "_law_many", "_law_sheet_here", "_law_left", "_law_turn", "_law_start", "_law_ring", "_law_coins", "_law_number"] ["_law_script", "_law_many", "_law_sheet_here"] (defScope s__law_other) := ⟨rfl, rfl, rfl, by decide +kernel, rfl, by decide +kernel, by decide +kernel⟩
theorem sc_law : FnScope ["_law_script", "_law_many", "_law_sheet_here", "_law_left", "_law_coins", "_law_thrice"] ["_law_script"] (defScope s_law) := ⟨rfl, rfl, rfl, by decide +kernel, rfl, by decide +kernel, by decide +kernel⟩
theorem lenZ {α : Type} {us : List α} (h : us.length = 0) : us = [] := List.eq_nil_of_length_eq_zero h
theorem lenS {α : Type} {us : List α} {n : Nat} (h : us.length = n + 1) : ∃ a vs, us = a :: vs ∧ vs.length = n := by
  cases us with
  | nil => cases h
  | cons a vs => exact ⟨a, vs, rfl, Nat.succ.inj h⟩
theorem len1 {α : Type} {us : List α} (h : us.length = 1) : ∃ a0, us = [a0] := by
  obtain ⟨a0, us0, rfl, h0⟩ := lenS h
  obtain rfl := lenZ h0
  exact ⟨a0, rfl⟩
theorem len2 {α : Type} {us : List α} (h : us.length = 2) : ∃ a0 a1, us = [a0, a1] := by
  obtain ⟨a0, us0, rfl, h0⟩ := lenS h
  obtain ⟨a1, us1, rfl, h1⟩ := lenS h0
  obtain rfl := lenZ h1
  exact ⟨a0, a1, rfl⟩
theorem len3 {α : Type} {us : List α} (h : us.length = 3) : ∃ a0 a1 a2, us = [a0, a1, a2] := by
  obtain ⟨a0, us0, rfl, h0⟩ := lenS h
  obtain ⟨a1, us1, rfl, h1⟩ := lenS h0
  obtain ⟨a2, us2, rfl, h2⟩ := lenS h1
  obtain rfl := lenZ h2
  exact ⟨a0, a1, a2, rfl⟩
theorem len4 {α : Type} {us : List α} (h : us.length = 4) : ∃ a0 a1 a2 a3, us = [a0, a1, a2, a3] := by
  obtain ⟨a0, us0, rfl, h0⟩ := lenS h
  obtain ⟨a1, us1, rfl, h1⟩ := lenS h0
  obtain ⟨a2, us2, rfl, h2⟩ := lenS h1
  obtain ⟨a3, us3, rfl, h3⟩ := lenS h2
  obtain rfl := lenZ h3
  exact ⟨a0, a1, a2, a3, rfl⟩
set_option genInjectivity false in
set_option genSizeOf false in
set_option genInjectivity false in
set_option genSizeOf false in
structure Dfn (K : PySem.W.Frag) (mg : Str → Option Value) (x qual : Str) (st : Stmt) (ps : List Str) where
  a : Addr
  fd : FuncData
  F : Fun K x qual st a fd
  b : Binds K fd ps []
  m : mg x = some (.ref a)
set_option genInjectivity false in
set_option genSizeOf false in
set_option genInjectivity false in
set_option genSizeOf false in
structure Txt (K : PySem.W.Frag) (mg : Str → Option Value) where
  d_nets : Dfn K mg "nets" "nets" s_nets ["many", "sheet"]
  d_amounts_of : Dfn K mg "amounts_of" "amounts_of" s_amounts_of ["sheet"]
  d_with_amounts : Dfn K mg "with_amounts" "with_amounts" s_with_amounts ["sheet", "amounts"]
  d_thinned : Dfn K mg "thinned" "thinned" s_thinned ["many", "sheet"]
  d_steps_of : Dfn K mg "steps_of" "steps_of" s_steps_of ["sheet", "left"]
  d_shortest_way : Dfn K mg "shortest_way" "shortest_way" s_shortest_way ["many", "sheet", "left", "wanting"]
  d_way_back : Dfn K mg "way_back" "way_back" s_way_back ["end", "last_steps"]
  d_send : Dfn K mg "send" "send" s_send ["sheet", "left", "wanting", "way"]
  d_heights_of : Dfn K mg "heights_of" "heights_of" s_heights_of ["many", "sheet", "left"]
  d_a_ring : Dfn K mg "a_ring" "a_ring" s_a_ring ["many", "sheet"]
  d_ways_onward : Dfn K mg "ways_onward" "ways_onward" s_ways_onward ["many", "sheet"]
  d_dues_among : Dfn K mg "dues_among" "dues_among" s_dues_among ["sheet", "going"]
  d_cut : Dfn K mg "cut" "cut" s_cut ["many", "sheet"]
  d__law_cell : Dfn K mg "_law_cell" "_law_cell" s__law_cell ["_law_script", "_law_k"]
  d__law_whole : Dfn K mg "_law_whole" "_law_whole" s__law_whole ["_law_thing"]
  d__law_wholes : Dfn K mg "_law_wholes" "_law_wholes" s__law_wholes ["_law_told", "_law_size"]
  d__law_drawn : Dfn K mg "_law_drawn" "_law_drawn" s__law_drawn ["_law_script", "_law_k", "_law_seed"]
  d__law_amount : Dfn K mg "_law_amount" "_law_amount" s__law_amount ["_law_number", "_law_seed"]
  d__law_due : Dfn K mg "_law_due" "_law_due" s__law_due ["_law_number", "_law_many", "_law_seed"]
  d__law_sheet : Dfn K mg "_law_sheet" "_law_sheet" s__law_sheet ["_law_script", "_law_many", "_law_most"]
  d__law_paid_by : Dfn K mg "_law_paid_by" "_law_paid_by" s__law_paid_by ["_law_member", "_law_rest", "_law_sheet_here", "_law_left"]
  d__law_ringless : Dfn K mg "_law_ringless" "_law_ringless" s__law_ringless ["_law_many", "_law_sheet_here", "_law_left"]
  d__law_with : Dfn K mg "_law_with" "_law_with" s__law_with ["_law_sheet_here", "_law_left"]
  d__law_on : Dfn K mg "_law_on" "_law_on" s__law_on ["_law_member", "_law_sheet_here", "_law_left"]
  d__law_round : Dfn K mg "_law_round" "_law_round" s__law_round ["_law_member", "_law_many", "_law_sheet_here", "_law_left"]
  d__law_other : Dfn K mg "_law_other" "_law_other" s__law_other ["_law_script", "_law_many", "_law_sheet_here"]
  d_law : Dfn K mg "law" "law" s_law ["_law_script"]
  cw_shortest_way : Addr
  tw_shortest_way : Addr
  tb_shortest_way : PySem.W.tabIn K "shortest_way" = some (cw_shortest_way, tw_shortest_way)
  cc_shortest_way : d_shortest_way.fd.code = .ref cw_shortest_way
  bl_law : ∀ (s : Shared) (v : Value), BindsTo s d_law.fd ⟨[v], []⟩ [("_law_script", v)]
  z_any : mg "any" = none
  z_bool : mg "bool" = none
  z_enumerate : mg "enumerate" = none
  z_int : mg "int" = none
  z_isinstance : mg "isinstance" = none
  z_len : mg "len" = none
  z_list : mg "list" = none
  z_max : mg "max" = none
  z_min : mg "min" = none
  z_range : mg "range" = none
  z_reversed : mg "reversed" = none
  z_sum : mg "sum" = none
noncomputable def txt_mk {K : PySem.W.Frag} {h : Heap} {mg : Str → Option Value} (X : K.In h) (G : h.Ns mainGlobals mg)
    {f_nets : Addr} {oc_nets kV_nets dc_nets pm_nets cd_nets ct_nets : Value} {od_nets an_nets : Option Addr} {sl_nets : Array (Option Value)}
    {f_amounts_of : Addr} {oc_amounts_of kV_amounts_of dc_amounts_of pm_amounts_of cd_amounts_of ct_amounts_of : Value} {od_amounts_of an_amounts_of : Option Addr} {sl_amounts_of : Array (Option Value)}
    {f_with_amounts : Addr} {oc_with_amounts kV_with_amounts dc_with_amounts pm_with_amounts cd_with_amounts ct_with_amounts : Value} {od_with_amounts an_with_amounts : Option Addr} {sl_with_amounts : Array (Option Value)}
    {f_thinned : Addr} {oc_thinned kV_thinned dc_thinned pm_thinned cd_thinned ct_thinned : Value} {od_thinned an_thinned : Option Addr} {sl_thinned : Array (Option Value)}
    {f_steps_of : Addr} {oc_steps_of kV_steps_of dc_steps_of pm_steps_of cd_steps_of ct_steps_of : Value} {od_steps_of an_steps_of : Option Addr} {sl_steps_of : Array (Option Value)}
    {f_shortest_way : Addr} {oc_shortest_way kV_shortest_way dc_shortest_way pm_shortest_way cd_shortest_way ct_shortest_way : Value} {od_shortest_way an_shortest_way : Option Addr} {sl_shortest_way : Array (Option Value)}
    {f_way_back : Addr} {oc_way_back kV_way_back dc_way_back pm_way_back cd_way_back ct_way_back : Value} {od_way_back an_way_back : Option Addr} {sl_way_back : Array (Option Value)}
    {f_send : Addr} {oc_send kV_send dc_send pm_send cd_send ct_send : Value} {od_send an_send : Option Addr} {sl_send : Array (Option Value)}
    {f_heights_of : Addr} {oc_heights_of kV_heights_of dc_heights_of pm_heights_of cd_heights_of ct_heights_of : Value} {od_heights_of an_heights_of : Option Addr} {sl_heights_of : Array (Option Value)}
    {f_a_ring : Addr} {oc_a_ring kV_a_ring dc_a_ring pm_a_ring cd_a_ring ct_a_ring : Value} {od_a_ring an_a_ring : Option Addr} {sl_a_ring : Array (Option Value)}
    {f_ways_onward : Addr} {oc_ways_onward kV_ways_onward dc_ways_onward pm_ways_onward cd_ways_onward ct_ways_onward : Value} {od_ways_onward an_ways_onward : Option Addr} {sl_ways_onward : Array (Option Value)}
    {f_dues_among : Addr} {oc_dues_among kV_dues_among dc_dues_among pm_dues_among cd_dues_among ct_dues_among : Value} {od_dues_among an_dues_among : Option Addr} {sl_dues_among : Array (Option Value)}
    {f_cut : Addr} {oc_cut kV_cut dc_cut pm_cut cd_cut ct_cut : Value} {od_cut an_cut : Option Addr} {sl_cut : Array (Option Value)}
    {f__law_cell : Addr} {oc__law_cell kV__law_cell dc__law_cell pm__law_cell cd__law_cell ct__law_cell : Value} {od__law_cell an__law_cell : Option Addr} {sl__law_cell : Array (Option Value)}
    {f__law_whole : Addr} {oc__law_whole kV__law_whole dc__law_whole pm__law_whole cd__law_whole ct__law_whole : Value} {od__law_whole an__law_whole : Option Addr} {sl__law_whole : Array (Option Value)}
    {f__law_wholes : Addr} {oc__law_wholes kV__law_wholes dc__law_wholes pm__law_wholes cd__law_wholes ct__law_wholes : Value} {od__law_wholes an__law_wholes : Option Addr} {sl__law_wholes : Array (Option Value)}
    {f__law_drawn : Addr} {oc__law_drawn kV__law_drawn dc__law_drawn pm__law_drawn cd__law_drawn ct__law_drawn : Value} {od__law_drawn an__law_drawn : Option Addr} {sl__law_drawn : Array (Option Value)}
    {f__law_amount : Addr} {oc__law_amount kV__law_amount dc__law_amount pm__law_amount cd__law_amount ct__law_amount : Value} {od__law_amount an__law_amount : Option Addr} {sl__law_amount : Array (Option Value)}
    {f__law_due : Addr} {oc__law_due kV__law_due dc__law_due pm__law_due cd__law_due ct__law_due : Value} {od__law_due an__law_due : Option Addr} {sl__law_due : Array (Option Value)}
    {f__law_sheet : Addr} {oc__law_sheet kV__law_sheet dc__law_sheet pm__law_sheet cd__law_sheet ct__law_sheet : Value} {od__law_sheet an__law_sheet : Option Addr} {sl__law_sheet : Array (Option Value)}
    {f__law_paid_by : Addr} {oc__law_paid_by kV__law_paid_by dc__law_paid_by pm__law_paid_by cd__law_paid_by ct__law_paid_by : Value} {od__law_paid_by an__law_paid_by : Option Addr} {sl__law_paid_by : Array (Option Value)}
    {f__law_ringless : Addr} {oc__law_ringless kV__law_ringless dc__law_ringless pm__law_ringless cd__law_ringless ct__law_ringless : Value} {od__law_ringless an__law_ringless : Option Addr} {sl__law_ringless : Array (Option Value)}
    {f__law_with : Addr} {oc__law_with kV__law_with dc__law_with pm__law_with cd__law_with ct__law_with : Value} {od__law_with an__law_with : Option Addr} {sl__law_with : Array (Option Value)}
    {f__law_on : Addr} {oc__law_on kV__law_on dc__law_on pm__law_on cd__law_on ct__law_on : Value} {od__law_on an__law_on : Option Addr} {sl__law_on : Array (Option Value)}
    {f__law_round : Addr} {oc__law_round kV__law_round dc__law_round pm__law_round cd__law_round ct__law_round : Value} {od__law_round an__law_round : Option Addr} {sl__law_round : Array (Option Value)}
    {f__law_other : Addr} {oc__law_other kV__law_other dc__law_other pm__law_other cd__law_other ct__law_other : Value} {od__law_other an__law_other : Option Addr} {sl__law_other : Array (Option Value)}
    {f_law : Addr} {oc_law kV_law dc_law pm_law cd_law ct_law : Value} {od_law an_law : Option Addr} {sl_law : Array (Option Value)}
    {cw_shortest_way tw_shortest_way : Addr} {ow_shortest_way : Value} {xw_shortest_way : Option Addr} {vw_shortest_way : Array Value} {sw_shortest_way : Array (Option Value)}
    (a_nets : PySem.W.nsIn K mainGlobals "nets" = some (some (.ref f_nets))) (l_nets : K.lookup f_nets = some ⟨oc_nets, od_nets, .func (PySem.W.fnOf "nets" "nets" (defArgs s_nets) (defBody s_nets) (defScope s_nets) .none kV_nets dc_nets pm_nets an_nets cd_nets ct_nets), sl_nets⟩) (c_nets : PySem.W.codeIn K cd_nets "nets" = true) (k_nets : PySem.W.keepIn K (.ref f_nets) = true)
    (a_amounts_of : PySem.W.nsIn K mainGlobals "amounts_of" = some (some (.ref f_amounts_of))) (l_amounts_of : K.lookup f_amounts_of = some ⟨oc_amounts_of, od_amounts_of, .func (PySem.W.fnOf "amounts_of" "amounts_of" (defArgs s_amounts_of) (defBody s_amounts_of) (defScope s_amounts_of) .none kV_amounts_of dc_amounts_of pm_amounts_of an_amounts_of cd_amounts_of ct_amounts_of), sl_amounts_of⟩) (c_amounts_of : PySem.W.codeIn K cd_amounts_of "amounts_of" = true) (k_amounts_of : PySem.W.keepIn K (.ref f_amounts_of) = true)
    (a_with_amounts : PySem.W.nsIn K mainGlobals "with_amounts" = some (some (.ref f_with_amounts))) (l_with_amounts : K.lookup f_with_amounts = some ⟨oc_with_amounts, od_with_amounts, .func (PySem.W.fnOf "with_amounts" "with_amounts" (defArgs s_with_amounts) (defBody s_with_amounts) (defScope s_with_amounts) .none kV_with_amounts dc_with_amounts pm_with_amounts an_with_amounts cd_with_amounts ct_with_amounts), sl_with_amounts⟩) (c_with_amounts : PySem.W.codeIn K cd_with_amounts "with_amounts" = true) (k_with_amounts : PySem.W.keepIn K (.ref f_with_amounts) = true)
    (a_thinned : PySem.W.nsIn K mainGlobals "thinned" = some (some (.ref f_thinned))) (l_thinned : K.lookup f_thinned = some ⟨oc_thinned, od_thinned, .func (PySem.W.fnOf "thinned" "thinned" (defArgs s_thinned) (defBody s_thinned) (defScope s_thinned) .none kV_thinned dc_thinned pm_thinned an_thinned cd_thinned ct_thinned), sl_thinned⟩) (c_thinned : PySem.W.codeIn K cd_thinned "thinned" = true) (k_thinned : PySem.W.keepIn K (.ref f_thinned) = true)
    (a_steps_of : PySem.W.nsIn K mainGlobals "steps_of" = some (some (.ref f_steps_of))) (l_steps_of : K.lookup f_steps_of = some ⟨oc_steps_of, od_steps_of, .func (PySem.W.fnOf "steps_of" "steps_of" (defArgs s_steps_of) (defBody s_steps_of) (defScope s_steps_of) .none kV_steps_of dc_steps_of pm_steps_of an_steps_of cd_steps_of ct_steps_of), sl_steps_of⟩) (c_steps_of : PySem.W.codeIn K cd_steps_of "steps_of" = true) (k_steps_of : PySem.W.keepIn K (.ref f_steps_of) = true)
    (a_shortest_way : PySem.W.nsIn K mainGlobals "shortest_way" = some (some (.ref f_shortest_way))) (l_shortest_way : K.lookup f_shortest_way = some ⟨oc_shortest_way, od_shortest_way, .func (PySem.W.fnOf "shortest_way" "shortest_way" (defArgs s_shortest_way) (defBody s_shortest_way) (defScope s_shortest_way) .none kV_shortest_way dc_shortest_way pm_shortest_way an_shortest_way cd_shortest_way ct_shortest_way), sl_shortest_way⟩) (c_shortest_way : PySem.W.codeIn K cd_shortest_way "shortest_way" = true) (k_shortest_way : PySem.W.keepIn K (.ref f_shortest_way) = true)
    (a_way_back : PySem.W.nsIn K mainGlobals "way_back" = some (some (.ref f_way_back))) (l_way_back : K.lookup f_way_back = some ⟨oc_way_back, od_way_back, .func (PySem.W.fnOf "way_back" "way_back" (defArgs s_way_back) (defBody s_way_back) (defScope s_way_back) .none kV_way_back dc_way_back pm_way_back an_way_back cd_way_back ct_way_back), sl_way_back⟩) (c_way_back : PySem.W.codeIn K cd_way_back "way_back" = true) (k_way_back : PySem.W.keepIn K (.ref f_way_back) = true)
    (a_send : PySem.W.nsIn K mainGlobals "send" = some (some (.ref f_send))) (l_send : K.lookup f_send = some ⟨oc_send, od_send, .func (PySem.W.fnOf "send" "send" (defArgs s_send) (defBody s_send) (defScope s_send) .none kV_send dc_send pm_send an_send cd_send ct_send), sl_send⟩) (c_send : PySem.W.codeIn K cd_send "send" = true) (k_send : PySem.W.keepIn K (.ref f_send) = true)
    (a_heights_of : PySem.W.nsIn K mainGlobals "heights_of" = some (some (.ref f_heights_of))) (l_heights_of : K.lookup f_heights_of = some ⟨oc_heights_of, od_heights_of, .func (PySem.W.fnOf "heights_of" "heights_of" (defArgs s_heights_of) (defBody s_heights_of) (defScope s_heights_of) .none kV_heights_of dc_heights_of pm_heights_of an_heights_of cd_heights_of ct_heights_of), sl_heights_of⟩) (c_heights_of : PySem.W.codeIn K cd_heights_of "heights_of" = true) (k_heights_of : PySem.W.keepIn K (.ref f_heights_of) = true)
    (a_a_ring : PySem.W.nsIn K mainGlobals "a_ring" = some (some (.ref f_a_ring))) (l_a_ring : K.lookup f_a_ring = some ⟨oc_a_ring, od_a_ring, .func (PySem.W.fnOf "a_ring" "a_ring" (defArgs s_a_ring) (defBody s_a_ring) (defScope s_a_ring) .none kV_a_ring dc_a_ring pm_a_ring an_a_ring cd_a_ring ct_a_ring), sl_a_ring⟩) (c_a_ring : PySem.W.codeIn K cd_a_ring "a_ring" = true) (k_a_ring : PySem.W.keepIn K (.ref f_a_ring) = true)
    (a_ways_onward : PySem.W.nsIn K mainGlobals "ways_onward" = some (some (.ref f_ways_onward))) (l_ways_onward : K.lookup f_ways_onward = some ⟨oc_ways_onward, od_ways_onward, .func (PySem.W.fnOf "ways_onward" "ways_onward" (defArgs s_ways_onward) (defBody s_ways_onward) (defScope s_ways_onward) .none kV_ways_onward dc_ways_onward pm_ways_onward an_ways_onward cd_ways_onward ct_ways_onward), sl_ways_onward⟩) (c_ways_onward : PySem.W.codeIn K cd_ways_onward "ways_onward" = true) (k_ways_onward : PySem.W.keepIn K (.ref f_ways_onward) = true)
    (a_dues_among : PySem.W.nsIn K mainGlobals "dues_among" = some (some (.ref f_dues_among))) (l_dues_among : K.lookup f_dues_among = some ⟨oc_dues_among, od_dues_among, .func (PySem.W.fnOf "dues_among" "dues_among" (defArgs s_dues_among) (defBody s_dues_among) (defScope s_dues_among) .none kV_dues_among dc_dues_among pm_dues_among an_dues_among cd_dues_among ct_dues_among), sl_dues_among⟩) (c_dues_among : PySem.W.codeIn K cd_dues_among "dues_among" = true) (k_dues_among : PySem.W.keepIn K (.ref f_dues_among) = true)
    (a_cut : PySem.W.nsIn K mainGlobals "cut" = some (some (.ref f_cut))) (l_cut : K.lookup f_cut = some ⟨oc_cut, od_cut, .func (PySem.W.fnOf "cut" "cut" (defArgs s_cut) (defBody s_cut) (defScope s_cut) .none kV_cut dc_cut pm_cut an_cut cd_cut ct_cut), sl_cut⟩) (c_cut : PySem.W.codeIn K cd_cut "cut" = true) (k_cut : PySem.W.keepIn K (.ref f_cut) = true)
    (a__law_cell : PySem.W.nsIn K mainGlobals "_law_cell" = some (some (.ref f__law_cell))) (l__law_cell : K.lookup f__law_cell = some ⟨oc__law_cell, od__law_cell, .func (PySem.W.fnOf "_law_cell" "_law_cell" (defArgs s__law_cell) (defBody s__law_cell) (defScope s__law_cell) .none kV__law_cell dc__law_cell pm__law_cell an__law_cell cd__law_cell ct__law_cell), sl__law_cell⟩) (c__law_cell : PySem.W.codeIn K cd__law_cell "_law_cell" = true) (k__law_cell : PySem.W.keepIn K (.ref f__law_cell) = true)
    (a__law_whole : PySem.W.nsIn K mainGlobals "_law_whole" = some (some (.ref f__law_whole))) (l__law_whole : K.lookup f__law_whole = some ⟨oc__law_whole, od__law_whole, .func (PySem.W.fnOf "_law_whole" "_law_whole" (defArgs s__law_whole) (defBody s__law_whole) (defScope s__law_whole) .none kV__law_whole dc__law_whole pm__law_whole an__law_whole cd__law_whole ct__law_whole), sl__law_whole⟩) (c__law_whole : PySem.W.codeIn K cd__law_whole "_law_whole" = true) (k__law_whole : PySem.W.keepIn K (.ref f__law_whole) = true)
    (a__law_wholes : PySem.W.nsIn K mainGlobals "_law_wholes" = some (some (.ref f__law_wholes))) (l__law_wholes : K.lookup f__law_wholes = some ⟨oc__law_wholes, od__law_wholes, .func (PySem.W.fnOf "_law_wholes" "_law_wholes" (defArgs s__law_wholes) (defBody s__law_wholes) (defScope s__law_wholes) .none kV__law_wholes dc__law_wholes pm__law_wholes an__law_wholes cd__law_wholes ct__law_wholes), sl__law_wholes⟩) (c__law_wholes : PySem.W.codeIn K cd__law_wholes "_law_wholes" = true) (k__law_wholes : PySem.W.keepIn K (.ref f__law_wholes) = true)
    (a__law_drawn : PySem.W.nsIn K mainGlobals "_law_drawn" = some (some (.ref f__law_drawn))) (l__law_drawn : K.lookup f__law_drawn = some ⟨oc__law_drawn, od__law_drawn, .func (PySem.W.fnOf "_law_drawn" "_law_drawn" (defArgs s__law_drawn) (defBody s__law_drawn) (defScope s__law_drawn) .none kV__law_drawn dc__law_drawn pm__law_drawn an__law_drawn cd__law_drawn ct__law_drawn), sl__law_drawn⟩) (c__law_drawn : PySem.W.codeIn K cd__law_drawn "_law_drawn" = true) (k__law_drawn : PySem.W.keepIn K (.ref f__law_drawn) = true)
    (a__law_amount : PySem.W.nsIn K mainGlobals "_law_amount" = some (some (.ref f__law_amount))) (l__law_amount : K.lookup f__law_amount = some ⟨oc__law_amount, od__law_amount, .func (PySem.W.fnOf "_law_amount" "_law_amount" (defArgs s__law_amount) (defBody s__law_amount) (defScope s__law_amount) .none kV__law_amount dc__law_amount pm__law_amount an__law_amount cd__law_amount ct__law_amount), sl__law_amount⟩) (c__law_amount : PySem.W.codeIn K cd__law_amount "_law_amount" = true) (k__law_amount : PySem.W.keepIn K (.ref f__law_amount) = true)
    (a__law_due : PySem.W.nsIn K mainGlobals "_law_due" = some (some (.ref f__law_due))) (l__law_due : K.lookup f__law_due = some ⟨oc__law_due, od__law_due, .func (PySem.W.fnOf "_law_due" "_law_due" (defArgs s__law_due) (defBody s__law_due) (defScope s__law_due) .none kV__law_due dc__law_due pm__law_due an__law_due cd__law_due ct__law_due), sl__law_due⟩) (c__law_due : PySem.W.codeIn K cd__law_due "_law_due" = true) (k__law_due : PySem.W.keepIn K (.ref f__law_due) = true)
    (a__law_sheet : PySem.W.nsIn K mainGlobals "_law_sheet" = some (some (.ref f__law_sheet))) (l__law_sheet : K.lookup f__law_sheet = some ⟨oc__law_sheet, od__law_sheet, .func (PySem.W.fnOf "_law_sheet" "_law_sheet" (defArgs s__law_sheet) (defBody s__law_sheet) (defScope s__law_sheet) .none kV__law_sheet dc__law_sheet pm__law_sheet an__law_sheet cd__law_sheet ct__law_sheet), sl__law_sheet⟩) (c__law_sheet : PySem.W.codeIn K cd__law_sheet "_law_sheet" = true) (k__law_sheet : PySem.W.keepIn K (.ref f__law_sheet) = true)
    (a__law_paid_by : PySem.W.nsIn K mainGlobals "_law_paid_by" = some (some (.ref f__law_paid_by))) (l__law_paid_by : K.lookup f__law_paid_by = some ⟨oc__law_paid_by, od__law_paid_by, .func (PySem.W.fnOf "_law_paid_by" "_law_paid_by" (defArgs s__law_paid_by) (defBody s__law_paid_by) (defScope s__law_paid_by) .none kV__law_paid_by dc__law_paid_by pm__law_paid_by an__law_paid_by cd__law_paid_by ct__law_paid_by), sl__law_paid_by⟩) (c__law_paid_by : PySem.W.codeIn K cd__law_paid_by "_law_paid_by" = true) (k__law_paid_by : PySem.W.keepIn K (.ref f__law_paid_by) = true)
    (a__law_ringless : PySem.W.nsIn K mainGlobals "_law_ringless" = some (some (.ref f__law_ringless))) (l__law_ringless : K.lookup f__law_ringless = some ⟨oc__law_ringless, od__law_ringless, .func (PySem.W.fnOf "_law_ringless" "_law_ringless" (defArgs s__law_ringless) (defBody s__law_ringless) (defScope s__law_ringless) .none kV__law_ringless dc__law_ringless pm__law_ringless an__law_ringless cd__law_ringless ct__law_ringless), sl__law_ringless⟩) (c__law_ringless : PySem.W.codeIn K cd__law_ringless "_law_ringless" = true) (k__law_ringless : PySem.W.keepIn K (.ref f__law_ringless) = true)
    (a__law_with : PySem.W.nsIn K mainGlobals "_law_with" = some (some (.ref f__law_with))) (l__law_with : K.lookup f__law_with = some ⟨oc__law_with, od__law_with, .func (PySem.W.fnOf "_law_with" "_law_with" (defArgs s__law_with) (defBody s__law_with) (defScope s__law_with) .none kV__law_with dc__law_with pm__law_with an__law_with cd__law_with ct__law_with), sl__law_with⟩) (c__law_with : PySem.W.codeIn K cd__law_with "_law_with" = true) (k__law_with : PySem.W.keepIn K (.ref f__law_with) = true)
    (a__law_on : PySem.W.nsIn K mainGlobals "_law_on" = some (some (.ref f__law_on))) (l__law_on : K.lookup f__law_on = some ⟨oc__law_on, od__law_on, .func (PySem.W.fnOf "_law_on" "_law_on" (defArgs s__law_on) (defBody s__law_on) (defScope s__law_on) .none kV__law_on dc__law_on pm__law_on an__law_on cd__law_on ct__law_on), sl__law_on⟩) (c__law_on : PySem.W.codeIn K cd__law_on "_law_on" = true) (k__law_on : PySem.W.keepIn K (.ref f__law_on) = true)
    (a__law_round : PySem.W.nsIn K mainGlobals "_law_round" = some (some (.ref f__law_round))) (l__law_round : K.lookup f__law_round = some ⟨oc__law_round, od__law_round, .func (PySem.W.fnOf "_law_round" "_law_round" (defArgs s__law_round) (defBody s__law_round) (defScope s__law_round) .none kV__law_round dc__law_round pm__law_round an__law_round cd__law_round ct__law_round), sl__law_round⟩) (c__law_round : PySem.W.codeIn K cd__law_round "_law_round" = true) (k__law_round : PySem.W.keepIn K (.ref f__law_round) = true)
    (a__law_other : PySem.W.nsIn K mainGlobals "_law_other" = some (some (.ref f__law_other))) (l__law_other : K.lookup f__law_other = some ⟨oc__law_other, od__law_other, .func (PySem.W.fnOf "_law_other" "_law_other" (defArgs s__law_other) (defBody s__law_other) (defScope s__law_other) .none kV__law_other dc__law_other pm__law_other an__law_other cd__law_other ct__law_other), sl__law_other⟩) (c__law_other : PySem.W.codeIn K cd__law_other "_law_other" = true) (k__law_other : PySem.W.keepIn K (.ref f__law_other) = true)
    (a_law : PySem.W.nsIn K mainGlobals "law" = some (some (.ref f_law))) (l_law : K.lookup f_law = some ⟨oc_law, od_law, .func (PySem.W.fnOf "law" "law" (defArgs s_law) (defBody s_law) (defScope s_law) .none kV_law dc_law pm_law an_law cd_law ct_law), sl_law⟩) (c_law : PySem.W.codeIn K cd_law "law" = true) (k_law : PySem.W.keepIn K (.ref f_law) = true)
    (cq_shortest_way : cd_shortest_way = .ref cw_shortest_way) (lc_shortest_way : K.lookup cw_shortest_way = some ⟨ow_shortest_way, xw_shortest_way, .fields vw_shortest_way, sw_shortest_way⟩) (ve_shortest_way : vw_shortest_way[11]? = some (.ref tw_shortest_way))
    (w_any : PySem.W.nsIn K mainGlobals "any" = some none)
    (w_bool : PySem.W.nsIn K mainGlobals "bool" = some none)
    (w_enumerate : PySem.W.nsIn K mainGlobals "enumerate" = some none)
    (w_int : PySem.W.nsIn K mainGlobals "int" = some none)
    (w_isinstance : PySem.W.nsIn K mainGlobals "isinstance" = some none)
    (w_len : PySem.W.nsIn K mainGlobals "len" = some none)
    (w_list : PySem.W.nsIn K mainGlobals "list" = some none)
    (w_max : PySem.W.nsIn K mainGlobals "max" = some none)
    (w_min : PySem.W.nsIn K mainGlobals "min" = some none)
    (w_range : PySem.W.nsIn K mainGlobals "range" = some none)
    (w_reversed : PySem.W.nsIn K mainGlobals "reversed" = some none)
    (w_sum : PySem.W.nsIn K mainGlobals "sum" = some none) : Txt K mg := {
    d_nets := { a := f_nets, fd := _, F := fun_mk (st := s_nets) l_nets c_nets k_nets, b := (fun_mk (st := s_nets) l_nets c_nets k_nets).binds (ps := ["many", "sheet"]) fun _ _ _ _ _ _ us hl => (by obtain ⟨_, _, rfl⟩ := len2 hl; rfl), m := PySem.W.mg_of X G a_nets },
    d_amounts_of := { a := f_amounts_of, fd := _, F := fun_mk (st := s_amounts_of) l_amounts_of c_amounts_of k_amounts_of, b := (fun_mk (st := s_amounts_of) l_amounts_of c_amounts_of k_amounts_of).binds (ps := ["sheet"]) fun _ _ _ _ _ _ us hl => (by obtain ⟨_, rfl⟩ := len1 hl; rfl), m := PySem.W.mg_of X G a_amounts_of },
    d_with_amounts := { a := f_with_amounts, fd := _, F := fun_mk (st := s_with_amounts) l_with_amounts c_with_amounts k_with_amounts, b := (fun_mk (st := s_with_amounts) l_with_amounts c_with_amounts k_with_amounts).binds (ps := ["sheet", "amounts"]) fun _ _ _ _ _ _ us hl => (by obtain ⟨_, _, rfl⟩ := len2 hl; rfl), m := PySem.W.mg_of X G a_with_amounts },
    d_thinned := { a := f_thinned, fd := _, F := fun_mk (st := s_thinned) l_thinned c_thinned k_thinned, b := (fun_mk (st := s_thinned) l_thinned c_thinned k_thinned).binds (ps := ["many", "sheet"]) fun _ _ _ _ _ _ us hl => (by obtain ⟨_, _, rfl⟩ := len2 hl; rfl), m := PySem.W.mg_of X G a_thinned },
    d_steps_of := { a := f_steps_of, fd := _, F := fun_mk (st := s_steps_of) l_steps_of c_steps_of k_steps_of, b := (fun_mk (st := s_steps_of) l_steps_of c_steps_of k_steps_of).binds (ps := ["sheet", "left"]) fun _ _ _ _ _ _ us hl => (by obtain ⟨_, _, rfl⟩ := len2 hl; rfl), m := PySem.W.mg_of X G a_steps_of },
    d_shortest_way := { a := f_shortest_way, fd := _, F := fun_mk (st := s_shortest_way) l_shortest_way c_shortest_way k_shortest_way, b := (fun_mk (st := s_shortest_way) l_shortest_way c_shortest_way k_shortest_way).binds (ps := ["many", "sheet", "left", "wanting"]) fun _ _ _ _ _ _ us hl => (by obtain ⟨_, _, _, _, rfl⟩ := len4 hl; rfl), m := PySem.W.mg_of X G a_shortest_way },
    d_way_back := { a := f_way_back, fd := _, F := fun_mk (st := s_way_back) l_way_back c_way_back k_way_back, b := (fun_mk (st := s_way_back) l_way_back c_way_back k_way_back).binds (ps := ["end", "last_steps"]) fun _ _ _ _ _ _ us hl => (by obtain ⟨_, _, rfl⟩ := len2 hl; rfl), m := PySem.W.mg_of X G a_way_back },
    d_send := { a := f_send, fd := _, F := fun_mk (st := s_send) l_send c_send k_send, b := (fun_mk (st := s_send) l_send c_send k_send).binds (ps := ["sheet", "left", "wanting", "way"]) fun _ _ _ _ _ _ us hl => (by obtain ⟨_, _, _, _, rfl⟩ := len4 hl; rfl), m := PySem.W.mg_of X G a_send },
    d_heights_of := { a := f_heights_of, fd := _, F := fun_mk (st := s_heights_of) l_heights_of c_heights_of k_heights_of, b := (fun_mk (st := s_heights_of) l_heights_of c_heights_of k_heights_of).binds (ps := ["many", "sheet", "left"]) fun _ _ _ _ _ _ us hl => (by obtain ⟨_, _, _, rfl⟩ := len3 hl; rfl), m := PySem.W.mg_of X G a_heights_of },
    d_a_ring := { a := f_a_ring, fd := _, F := fun_mk (st := s_a_ring) l_a_ring c_a_ring k_a_ring, b := (fun_mk (st := s_a_ring) l_a_ring c_a_ring k_a_ring).binds (ps := ["many", "sheet"]) fun _ _ _ _ _ _ us hl => (by obtain ⟨_, _, rfl⟩ := len2 hl; rfl), m := PySem.W.mg_of X G a_a_ring },
    d_ways_onward := { a := f_ways_onward, fd := _, F := fun_mk (st := s_ways_onward) l_ways_onward c_ways_onward k_ways_onward, b := (fun_mk (st := s_ways_onward) l_ways_onward c_ways_onward k_ways_onward).binds (ps := ["many", "sheet"]) fun _ _ _ _ _ _ us hl => (by obtain ⟨_, _, rfl⟩ := len2 hl; rfl), m := PySem.W.mg_of X G a_ways_onward },
    d_dues_among := { a := f_dues_among, fd := _, F := fun_mk (st := s_dues_among) l_dues_among c_dues_among k_dues_among, b := (fun_mk (st := s_dues_among) l_dues_among c_dues_among k_dues_among).binds (ps := ["sheet", "going"]) fun _ _ _ _ _ _ us hl => (by obtain ⟨_, _, rfl⟩ := len2 hl; rfl), m := PySem.W.mg_of X G a_dues_among },
    d_cut := { a := f_cut, fd := _, F := fun_mk (st := s_cut) l_cut c_cut k_cut, b := (fun_mk (st := s_cut) l_cut c_cut k_cut).binds (ps := ["many", "sheet"]) fun _ _ _ _ _ _ us hl => (by obtain ⟨_, _, rfl⟩ := len2 hl; rfl), m := PySem.W.mg_of X G a_cut },
    d__law_cell := { a := f__law_cell, fd := _, F := fun_mk (st := s__law_cell) l__law_cell c__law_cell k__law_cell, b := (fun_mk (st := s__law_cell) l__law_cell c__law_cell k__law_cell).binds (ps := ["_law_script", "_law_k"]) fun _ _ _ _ _ _ us hl => (by obtain ⟨_, _, rfl⟩ := len2 hl; rfl), m := PySem.W.mg_of X G a__law_cell },
    d__law_whole := { a := f__law_whole, fd := _, F := fun_mk (st := s__law_whole) l__law_whole c__law_whole k__law_whole, b := (fun_mk (st := s__law_whole) l__law_whole c__law_whole k__law_whole).binds (ps := ["_law_thing"]) fun _ _ _ _ _ _ us hl => (by obtain ⟨_, rfl⟩ := len1 hl; rfl), m := PySem.W.mg_of X G a__law_whole },
    d__law_wholes := { a := f__law_wholes, fd := _, F := fun_mk (st := s__law_wholes) l__law_wholes c__law_wholes k__law_wholes, b := (fun_mk (st := s__law_wholes) l__law_wholes c__law_wholes k__law_wholes).binds (ps := ["_law_told", "_law_size"]) fun _ _ _ _ _ _ us hl => (by obtain ⟨_, _, rfl⟩ := len2 hl; rfl), m := PySem.W.mg_of X G a__law_wholes },
    d__law_drawn := { a := f__law_drawn, fd := _, F := fun_mk (st := s__law_drawn) l__law_drawn c__law_drawn k__law_drawn, b := (fun_mk (st := s__law_drawn) l__law_drawn c__law_drawn k__law_drawn).binds (ps := ["_law_script", "_law_k", "_law_seed"]) fun _ _ _ _ _ _ us hl => (by obtain ⟨_, _, _, rfl⟩ := len3 hl; rfl), m := PySem.W.mg_of X G a__law_drawn },
    d__law_amount := { a := f__law_amount, fd := _, F := fun_mk (st := s__law_amount) l__law_amount c__law_amount k__law_amount, b := (fun_mk (st := s__law_amount) l__law_amount c__law_amount k__law_amount).binds (ps := ["_law_number", "_law_seed"]) fun _ _ _ _ _ _ us hl => (by obtain ⟨_, _, rfl⟩ := len2 hl; rfl), m := PySem.W.mg_of X G a__law_amount },
    d__law_due := { a := f__law_due, fd := _, F := fun_mk (st := s__law_due) l__law_due c__law_due k__law_due, b := (fun_mk (st := s__law_due) l__law_due c__law_due k__law_due).binds (ps := ["_law_number", "_law_many", "_law_seed"]) fun _ _ _ _ _ _ us hl => (by obtain ⟨_, _, _, rfl⟩ := len3 hl; rfl), m := PySem.W.mg_of X G a__law_due },
    d__law_sheet := { a := f__law_sheet, fd := _, F := fun_mk (st := s__law_sheet) l__law_sheet c__law_sheet k__law_sheet, b := (fun_mk (st := s__law_sheet) l__law_sheet c__law_sheet k__law_sheet).binds (ps := ["_law_script", "_law_many", "_law_most"]) fun _ _ _ _ _ _ us hl => (by obtain ⟨_, _, _, rfl⟩ := len3 hl; rfl), m := PySem.W.mg_of X G a__law_sheet },
    d__law_paid_by := { a := f__law_paid_by, fd := _, F := fun_mk (st := s__law_paid_by) l__law_paid_by c__law_paid_by k__law_paid_by, b := (fun_mk (st := s__law_paid_by) l__law_paid_by c__law_paid_by k__law_paid_by).binds (ps := ["_law_member", "_law_rest", "_law_sheet_here", "_law_left"]) fun _ _ _ _ _ _ us hl => (by obtain ⟨_, _, _, _, rfl⟩ := len4 hl; rfl), m := PySem.W.mg_of X G a__law_paid_by },
    d__law_ringless := { a := f__law_ringless, fd := _, F := fun_mk (st := s__law_ringless) l__law_ringless c__law_ringless k__law_ringless, b := (fun_mk (st := s__law_ringless) l__law_ringless c__law_ringless k__law_ringless).binds (ps := ["_law_many", "_law_sheet_here", "_law_left"]) fun _ _ _ _ _ _ us hl => (by obtain ⟨_, _, _, rfl⟩ := len3 hl; rfl), m := PySem.W.mg_of X G a__law_ringless },
    d__law_with := { a := f__law_with, fd := _, F := fun_mk (st := s__law_with) l__law_with c__law_with k__law_with, b := (fun_mk (st := s__law_with) l__law_with c__law_with k__law_with).binds (ps := ["_law_sheet_here", "_law_left"]) fun _ _ _ _ _ _ us hl => (by obtain ⟨_, _, rfl⟩ := len2 hl; rfl), m := PySem.W.mg_of X G a__law_with },
    d__law_on := { a := f__law_on, fd := _, F := fun_mk (st := s__law_on) l__law_on c__law_on k__law_on, b := (fun_mk (st := s__law_on) l__law_on c__law_on k__law_on).binds (ps := ["_law_member", "_law_sheet_here", "_law_left"]) fun _ _ _ _ _ _ us hl => (by obtain ⟨_, _, _, rfl⟩ := len3 hl; rfl), m := PySem.W.mg_of X G a__law_on },
    d__law_round := { a := f__law_round, fd := _, F := fun_mk (st := s__law_round) l__law_round c__law_round k__law_round, b := (fun_mk (st := s__law_round) l__law_round c__law_round k__law_round).binds (ps := ["_law_member", "_law_many", "_law_sheet_here", "_law_left"]) fun _ _ _ _ _ _ us hl => (by obtain ⟨_, _, _, _, rfl⟩ := len4 hl; rfl), m := PySem.W.mg_of X G a__law_round },
    d__law_other := { a := f__law_other, fd := _, F := fun_mk (st := s__law_other) l__law_other c__law_other k__law_other, b := (fun_mk (st := s__law_other) l__law_other c__law_other k__law_other).binds (ps := ["_law_script", "_law_many", "_law_sheet_here"]) fun _ _ _ _ _ _ us hl => (by obtain ⟨_, _, _, rfl⟩ := len3 hl; rfl), m := PySem.W.mg_of X G a__law_other },
    d_law := { a := f_law, fd := _, F := fun_mk (st := s_law) l_law c_law k_law, b := (fun_mk (st := s_law) l_law c_law k_law).binds (ps := ["_law_script"]) fun _ _ _ _ _ _ us hl => (by obtain ⟨_, rfl⟩ := len1 hl; rfl), m := PySem.W.mg_of X G a_law },
    bl_law := fun s v => .of_eq rfl,
    cw_shortest_way := cw_shortest_way, tw_shortest_way := tw_shortest_way, tb_shortest_way := tab_mk a_shortest_way l_shortest_way cq_shortest_way lc_shortest_way ve_shortest_way, cc_shortest_way := cq_shortest_way,
    z_any := PySem.W.mg_none_of X G w_any,
    z_bool := PySem.W.mg_none_of X G w_bool,
    z_enumerate := PySem.W.mg_none_of X G w_enumerate,
    z_int := PySem.W.mg_none_of X G w_int,
    z_isinstance := PySem.W.mg_none_of X G w_isinstance,
    z_len := PySem.W.mg_none_of X G w_len,
    z_list := PySem.W.mg_none_of X G w_list,
    z_max := PySem.W.mg_none_of X G w_max,
    z_min := PySem.W.mg_none_of X G w_min,
    z_range := PySem.W.mg_none_of X G w_range,
    z_reversed := PySem.W.mg_none_of X G w_reversed,
    z_sum := PySem.W.mg_none_of X G w_sum }
section
variable {P : Program} {w : World} {K : PySem.W.Frag} {mg : Str → Option Value} {base : Heap} [TabX K mg base "shortest_way"]
noncomputable abbrev lP : Pos := ⟨39, 34, 39, 60⟩
noncomputable abbrev lQ : Str := ("shortest_way" : Str) ++ ".<locals>." ++ "<lambda>"

theorem ok_steps_of (T : Txt K mg) : FnOk P w K mg base (CXF P w) 1 T.d_steps_of.a T.d_steps_of.fd ["sheet", "left"] (spSteps K) := by
  refine T.d_steps_of.F.okN sc_steps_of (fun vs H Q E h => ?_) (fun cdv A outer s H vs Q E hr h => ?_)
  · obtain ⟨a, b, n, ds, l, rfl, _⟩ := h; rfl
  obtain ⟨a, b, n, ds, l, rfl, ⟨xs, hS, hT⟩, hb, hl, hd, k⟩ := h
  have hxl := hT.length
  refine ⟨_, (pss_cons (ps_set (i := 2) sc_steps_of.nd rfl (Or.inl rfl) (pe_lst pa_nil))
 (pss_cons (ps_for PassesOwn.never rfl (show PI _ _ _ (iEnum K _) from pi_enum rfl T.z_enumerate (pa_cons (pv 0) pa_nil)) (show PG _ _ (gTup K 2 _) from pg_tup (n := 2) rfl (pgs_cons (pg_name (i := 3) sc_steps_of.nd rfl (Or.inl rfl)) (pgs_cons (pg_name (i := 4) sc_steps_of.nd rfl (Or.inl rfl)) pgs_nil)))
  (pss_mid (ps_if (pt_cmpR op_lt (pe_ix (show IxR _ (rIx K) from ix_seq) (pv 1) (pv 3) (fun _ _ => rfl)) (pe_ix (show IxR _ (rIx K) from ix_seq) (pv 4) pe_int (fun _ _ => rfl)) (nomark _))
  (pss_one (ps_expr (show PE _ _ (tBM K _ _ _ _) from pe_bm PySem.F.plainAttrs_list PySem.F.slot_list_append PySem.F.type_list_append mt_append (pv 2) (pa_cons (pe_tup (pa_cons (pe_ix (show IxR _ (rIx K) from ix_seq) (pv 4) pe_int (fun _ _ => rfl)) (pa_cons (pe_ix (show IxR _ (rIx K) from ix_seq) (pv 4) pe_int (fun _ _ => rfl)) (pa_cons (pv 3) (pa_cons pe_int pa_nil))))) pa_nil))))
  pss_nil)
 (pss_one (ps_if (pt_cmpR op_gt (pe_ix (show IxR _ (rIx K) from ix_seq) (pv 1) (pv 3) (fun _ _ => rfl)) pe_int (nomark _))
  (pss_one (ps_expr (show PE _ _ (tBM K _ _ _ _) from pe_bm PySem.F.plainAttrs_list PySem.F.slot_list_append PySem.F.type_list_append mt_append (pv 2) (pa_cons (pe_tup (pa_cons (pe_ix (show IxR _ (rIx K) from ix_seq) (pv 4) pe_int (fun _ _ => rfl)) (pa_cons (pe_ix (show IxR _ (rIx K) from ix_seq) (pv 4) pe_int (fun _ _ => rfl)) (pa_cons (pv 3) (pa_cons (pe_un un_neg pe_int) pa_nil))))) pa_nil))))
  pss_nil))))
 (pss_one (ps_ret (pv 2))))), ?_⟩
  refine x_start (σ0 := [some (.ref a), some (.ref b), none, none, none]) rfl ?_
  walk_at "x"
  rename_i st H1 fst e1 hst
  refine x_forS (src_enum (K := K) (a := a) (xs := xs)) (fun i σ' H' => ∃ (f3 f4 : Option V) (ys : List V), σ' = [some (.ref a), some (.ref b), some (.ref st), f3, f4] ∧ H' st = some (.lst ys) ∧ IsTs dueV H' ys (stepsF ds l i) ∧ ys.length ≤ 2 * i ∧ Same H H') ⟨_, _, [], rfl, hst, trivial, Nat.le_refl _, e1⟩ ?_ ?_ ?_
  · rintro i σ' H' ⟨_, _, _, _, _, _, _, e⟩; exact hS.keep e
  · rintro i x σ' H2 H3 hi ⟨f3, f4, ys, rfl, hy, hI, hyl, e2⟩ e3 ⟨tt, v, rfl, hx, htt⟩
    obtain ⟨bd, d, rfl, hdi, hbd⟩ := (hT.same (e2.trans e3)).get hx
    have htt' : H3 tt = some (.tup [.int (i : Int), .ref bd]) := htt
    have hbd' : H3 bd = some (.tup [.int d.p, .int d.q, .int d.r, .int d.a]) := hbd
    have hy3 := e3.at hy
    have hI3 := hI.same e3
    have e03 := e2.trans e3
    have hil : i < ds.length := by omega
    have es : stepsF ds l (i + 1) = stepsF ds l i ++ ((if l i < d.a then [⟨d.p, d.q, (i : Int), 1⟩] else []) ++ (if 0 < l i then [⟨d.q, d.p, (i : Int), -1⟩] else [])) := by
      show stepsF ds l i ++ _ = _
      rw [hdi]
    walk_at "x"
    refine x_mid (fun σ' H' => σ' = [some (.ref a), some (.ref b), some (.ref st), some (.int (i : Int)), some (.ref bd)] ∧ ∃ ys', H' st = some (.lst ys') ∧ IsTs dueV H' ys' (stepsF ds l i ++ (if l i < d.a then [⟨d.p, d.q, (i : Int), 1⟩] else [])) ∧ ys'.length ≤ 2 * i + 1 ∧ Same H H') ?_ ?_
    · walk_at "x"
      · rename_i g1 t1 H4 ft1 e4 ht1 H5 b5 h5
        rw [Int.toNat_natCast] at g1
        refine ⟨rfl, _, h5, ?_, by simp only [List.length_append, List.length_singleton]; omega, b5.same (e03.trans e4) fst⟩
        rw [if_pos g1]
        exact IsTs.app (f := dueV) (x := ⟨d.p, d.q, (i : Int), 1⟩) (b5.tup ht1) ((hI3.same e4).but b5)
      · rename_i g1
        rw [Int.toNat_natCast] at g1
        refine ⟨rfl, _, hy3, ?_, by omega, e03⟩
        rw [if_neg g1, List.append_nil]; exact hI3
    rintro σ' H5 ⟨rfl, ys', h5, hI5, hyl5, e5⟩
    have hbd5 : H5 bd = some (.tup [.int d.p, .int d.q, .int d.r, .int d.a]) := by
      obtain ⟨bd', q1, q2⟩ := (hT.same e5).getI hdi
      rw [hx] at q1
      cases q1; exact q2
    have hb5 := e5.at hb
    rw [← List.append_assoc] at es
    walk_at "x"
    · rename_i g2 t2 H6 ft2 e6 ht2 H7 b7 h7
      rw [Int.toNat_natCast] at g2
      rw [if_pos g2] at es
      refine ⟨_, _, _, rfl, h7, ?_, by simp only [List.length_append, List.length_singleton]; omega, b7.same (e5.trans e6) fst⟩
      rw [es]
      exact IsTs.app (f := dueV) (x := ⟨d.q, d.p, (i : Int), -1⟩) (b7.tup ht2) ((hI5.same e6).but b7)
    · rename_i g2
      rw [Int.toNat_natCast] at g2
      rw [if_neg g2, List.append_nil] at es
      refine ⟨_, _, _, rfl, h5, ?_, by omega, e5⟩
      rw [es]; exact hI5
  · rintro σ' H2 ⟨f3, f4, ys, rfl, hy, hI, hyl, e2⟩
    rw [hxl] at hI
    walk_at "x"
    exact k st H2 ys fst e2 hy hI
theorem ok_way_back (T : Txt K mg) : FnOk P w K mg base (CXF P w) 1 T.d_way_back.a T.d_way_back.fd ["end", "last_steps"] (spBack K) := by
  refine T.d_way_back.F.okN sc_way_back (fun vs H Q E h => ?_) (fun cdv A outer s H vs Q E hr h => ?_)
  · obtain ⟨t, n, b, last, τ, xs, rfl, _⟩ := h; rfl
  obtain ⟨t, n, b, last, τ, xs, rfl, hb, hL, ht, ht9, hτ, k⟩ := h
  refine ⟨_, (pss_cons (ps_set (i := 2) sc_way_back.nd rfl (Or.inl rfl) (pe_lst pa_nil))
 (pss_cons (ps_set (i := 3) sc_way_back.nd rfl (Or.inl rfl) (pv 0))
 (pss_cons (ps_while PassesOwn.never (pt_cmpR op_notN (pe_ix (show IxR _ (rIx K) from ix_seq) (pv 1) (pv 3) (fun _ _ => rfl)) pe_non (nomark _))
  (pss_cons (ps_expr (show PE _ _ (tBM K _ _ _ _) from pe_bm PySem.F.plainAttrs_list PySem.F.slot_list_append PySem.F.type_list_append mt_append (pv 2) (pa_cons (pe_ix (show IxR _ (rIx K) from ix_seq) (pv 1) (pv 3) (fun _ _ => rfl)) pa_nil)))
 (pss_one (ps_set (i := 3) sc_way_back.nd rfl (Or.inl rfl) (pe_ix (show IxR _ (rIx K) from ix_seq) (pe_ix (show IxR _ (rIx K) from ix_seq) (pv 1) (pv 3) (fun _ _ => rfl)) pe_int (fun _ _ => rfl))))))
 (pss_one (ps_ret (pv 2)))))), ?_⟩
  refine x_start (σ0 := [some (.int (t : Int)), some (.ref b), none, none]) rfl ?_
  walk_at "x"
  rename_i wy H1 fwy e1 hwy
  refine ⟨fun mm σ H' => ∃ (h : Nat) (ys : List V) (es : List Internal.Due), σ = [some (.int (t : Int)), some (.ref b), some (.ref wy), some (.int (h : Int))] ∧ h < n ∧ H' wy = some (.lst ys) ∧ IsTs dueV H' ys es ∧ Same H H' ∧ (∀ rest s, Bk last h rest s → Bk last t (es ++ rest) s) ∧ es.length + τ h ≤ τ t ∧ mm = τ h, ⟨_, t, [], [], rfl, ht, hwy, trivial, e1, fun _ _ r => r, Nat.le_of_eq (Nat.zero_add _), rfl⟩, ?_⟩
  rintro mm σ H2 ⟨h, ys, es, rfl, hh, hy2, hI, e2, hbk, hlen, rfl⟩
  have hb2 := e2.at hb
  obtain ⟨u, hu1, hu2⟩ := (hL.keep e2.tups).2 h hh
  have hat : atI xs (h : Int) = some u := atI_nat hu1
  have hyl := hI.length
  cases hon : last h with
  | none =>
    rw [hon] at hu2
    have hu3 : u = .non := hu2
    subst hu3
    walk_at "x"
    · exact absurd rfl (by assumption)
    · refine k wy H2 ys es h fwy e2 hy2 hI ?_
      have := hbk [] h (Bk.nil hon)
      rwa [List.append_nil] at this
  | some e =>
    rw [hon] at hu2
    obtain ⟨c, rfl, hc⟩ := hu2
    obtain ⟨p0, p1, p2⟩ := hτ h e hh hon
    have hc' : H2 c = some (.tup [.int e.p, .int e.q, .int e.r, .int e.a]) := hc
    walk_at "x"
    · refine ⟨fun σ' H' => ∃ (h' : Nat) (ys' : List V), σ' = [some (.int (t : Int)), some (.ref b), some (.ref wy), some (.int (h' : Int))] ∧ h' = e.p.toNat ∧ H' wy = some (.lst ys') ∧ IsTs dueV H' ys' (es ++ [e]) ∧ Same H H', ?_, ?_⟩
      · rintro σ' H' ⟨h', ys', rfl, rfl, h1, h2, h3⟩
        refine ⟨τ e.p.toNat, p2, e.p.toNat, ys', es ++ [e], rfl, by omega, h1, h2, h3, fun rest s hr => ?_, ?_, rfl⟩
        · rw [List.append_assoc]
          exact hbk _ s (Bk.cons hon hr)
        · rw [List.length_append]; simp only [List.length_singleton]; omega
      · walk_at "x"
        rename_i hz H3 b3 h3
        have e3 := b3.same e2 fwy
        have hb3 := e3.at hb
        have hc3 : H3 c = some (.tup [.int e.p, .int e.q, .int e.r, .int e.a]) := b3.tup hc'
        walk_at "x"
        exact ⟨e.p.toNat, _, by rw [← show e.p = ((e.p.toNat : Nat) : Int) by omega], rfl, h3, IsTs.app (f := dueV) hc3 (hI.but b3), e3⟩
    · rename_i hz
      cases hz

theorem ok_heights_of (T : Txt K mg) : FnOk P w K mg base (CXF P w) 2 T.d_heights_of.a T.d_heights_of.fd ["many", "sheet", "left"] (spHgt K) := by
  refine T.d_heights_of.F.okN sc_heights_of (fun vs H Q E h => ?_) (fun cdv A outer s H vs Q E hr h => ?_)
  · obtain ⟨a, b, n, ds, l, rfl, _⟩ := h; rfl
  obtain ⟨a, b, n, ds, l, rfl, hS, hb, hl, h9, hd, k⟩ := h
  have hok := opn_ok hd (l := l)
  refine ⟨_, (pss_cons (ps_set (i := 3) sc_heights_of.nd rfl (Or.inl rfl) (pe_op op_mulU (pe_lst (pa_cons pe_int pa_nil)) (pv 0)))
 (pss_cons (ps_set (i := 4) sc_heights_of.nd rfl (Or.inl rfl) (pe_call (ok_steps_of (base := base) T) (hr.mono (by decide)) rfl T.d_steps_of.m T.d_steps_of.F.kp T.d_steps_of.b .nil (passN nox_F) (pa_cons (pv 1) (pa_cons (pv 2) pa_nil))))
 (pss_cons (ps_for PassesOwn.never rfl (pi_range1 rfl T.z_range (pa_cons (pv 0) pa_nil)) (pg_name (i := 5) sc_heights_of.nd rfl (Or.inl rfl))
  (pss_one (ps_for PassesOwn.never rfl (show PI _ _ _ (iList K _) from pi_list (pv 4)) (pg_name (i := 6) sc_heights_of.nd rfl (Or.inl rfl))
  (pss_one (ps_asg (pe_callB (call_minU rfl) rfl T.z_min BT.min (pa_cons (pe_ix (show IxR _ (rIx K) from ix_seq) (pv 3) (pe_ix (show IxR _ (rIx K) from ix_seq) (pv 6) pe_int (fun _ _ => rfl)) (fun _ _ => rfl)) (pa_cons (pe_op (show OpR _ (binaryOp .Add) (rAddU K) from op_addU) (pe_ix (show IxR _ (rIx K) from ix_seq) (pv 3) (pe_ix (show IxR _ (rIx K) from ix_seq) (pv 6) pe_int (fun _ _ => rfl)) (fun _ _ => rfl)) (pe_ix (show IxR _ (rIx K) from ix_seq) (pv 6) pe_int (fun _ _ => rfl))) pa_nil))) (pg_sub (pv 3) (pe_ix (show IxR _ (rIx K) from ix_seq) (pv 6) pe_int (fun _ _ => rfl)) set_list))))))
 (pss_one (ps_ret (pv 3)))))), ?_⟩
  refine x_start (σ0 := [some (.int (n : Int)), some (.ref a), some (.ref b), none, none, none, none]) rfl ?_
  walk_at "x"
  rename_i l0 H0 fl0 e0 hl0 he H1 fhe' e1' hhe
  have e1 := e0.trans e1'
  have fhe := Same.none fhe' e0
  rw [Int.toNat_natCast] at hhe
  walk_at "x"
  refine spSteps_i (hS.same e1) (e1.at hb) hl hd ?_
  intro st H2 ys fst e2 hst hI
  have hhe2 := e2.at hhe
  have e02 := e1.trans e2
  walk_at "x"
  have hsy : ∀ {H' : Hp}, B2 he he H2 H' → H' st = some (.lst ys) ∧ IsTs dueV H' ys (opn ds l) := fun g => ⟨g _ _ (ne_new' fst hhe) (ne_new' fst hhe) hst, hI.keep (g.tups hhe2 hhe2)⟩
  refine x_forR (fun t σ' H' => ∃ (f5 f6 : Option V), σ' = [some (.int (n : Int)), some (.ref a), some (.ref b), some (.ref he), some (.ref st), f5, f6] ∧ H' he = some (.lst ((vec n fun m => (farF Due.a (opn ds l) (ini0 n) t m).getD 0).map V.int)) ∧ B2 he he H2 H' ∧ Same H H') ?_ ?_ ?_
  · refine ⟨_, _, rfl, ?_, B2.refl, e02⟩
    rw [hhe2]
    congr 3
    exact vec_congr fun m hm => by
      show (0 : Int) = (ini0 n m).getD 0
      unfold ini0; rw [if_pos hm]; rfl
  · rintro t σ' H3 ht ⟨f5, f6, rfl, hh3, g3, e3⟩
    have hA := far_all (c := Due.a) hok t
    have hst3 := (hsy g3).1
    walk_at "x"
    refine x_forL (xs := ys) (fun i σ' H' => ∃ (f6 : Option V) (F : Nat → Option Int), σ' = [some (.int (n : Int)), some (.ref a), some (.ref b), some (.ref he), some (.ref st), some (.int (t : Int)), f6] ∧ F = relaxL Due.a (farF Due.a (opn ds l) (ini0 n) t) ((opn ds l).take i) ∧ AllS n F ∧ H' he = some (.lst ((vec n fun m => (F m).getD 0).map V.int)) ∧ B2 he he H2 H' ∧ Same H H') ?_ ?_ ?_ ?_
    · exact ⟨f6, _, by rw [show ((0 : Int) + (t : Int)) = (t : Int) by omega]; rfl, rfl, hA, hh3, g3, e3⟩
    · rintro i σ' H' _ ⟨_, _, _, _, _, _, g, _⟩; exact SqL.of (hsy g).1
    · rintro i x σ' H4 hx ⟨f6, F, rfl, hF, hA4, hh4, g4, e4⟩
      obtain ⟨c, e, rfl, hei, hc⟩ := (hsy g4).2.get hx
      have hc' : H4 c = some (.tup [.int e.p, .int e.q, .int e.r, .int e.a]) := hc
      obtain ⟨p0, p1, q0, q1⟩ := hok e (List.mem_of_getElem? hei)
      obtain ⟨r1, r2⟩ := relax_min (c := Due.a) hA4 p0 p1 q0 q1
      walk_at "x"
      rename_i H5 b5 h5
      refine ⟨_, relax Due.a F e, rfl, ?_, r1, ?_, g4.lft b5, b5.same e4 fhe⟩
      · rw [take_snoc hei, relaxL_snoc, hF]
      · rw [h5]
        congr 3
        refine vec_congr fun m hm => ?_
        rw [r2 m hm]
    · rintro σ' H4 ⟨f6, F, rfl, hF, hA4, hh4, g4, e4⟩
      rw [hI.length, List.take_length] at hF
      refine ⟨_, _, rfl, ?_, g4, e4⟩
      rw [hF] at hh4; exact hh4
  · rintro σ' H3 ⟨f5, f6, rfl, hh3, g3, e3⟩
    rw [Int.toNat_natCast] at hh3
    walk_at "x"
    exact k he H3 fhe e3 hh3
theorem ok_send (T : Txt K mg) : FnOk P w K mg base (CXF P w) 1 T.d_send.a T.d_send.fd ["sheet", "left", "wanting", "way"] (spSend K) := by
  refine T.d_send.F.okN sc_send (fun vs H Q E h => ?_) (fun cdv A outer s H vs Q E hr h => ?_)
  · obtain ⟨a, b, c, d, n, t, s, ds, es, l, w, ys, rfl, _⟩ := h; rfl
  obtain ⟨a, b, c, d, n, t, sr, ds, es, l, w, ys, rfl, ⟨xs, hS, hT⟩, hb, hc, nbc, ndb, ndc, hd, hI, hne, ht, hs, hst, hq0, hp1, hop, hres, hwt, hws, k⟩ := h
  have hyl := hI.length
  have hpos : 0 < es.length := List.length_pos_iff.mpr hne
  obtain ⟨e0, he0⟩ := lt_some hpos
  obtain ⟨e1, he1⟩ := lt_some (show es.length - 1 < es.length by omega)
  obtain ⟨c0, hc0, hd0⟩ := hI.getI he0
  obtain ⟨c1, hc1, hd1⟩ := hI.getI he1
  have eq0 := hq0 e0 he0
  have ep1 := hp1 e1 he1
  have hd0' : H c0 = some (.tup [.int e0.p, .int (t : Int), .int e0.r, .int e0.a]) := by rw [← eq0]; exact hd0
  have hd1' : H c1 = some (.tup [.int (sr : Int), .int e1.q, .int e1.r, .int e1.a]) := by rw [← ep1]; exact hd1
  have at0 : atI ys 0 = some (.ref c0) := atI_lt (by decide) hc0
  have at1 : atI ys (-1) = some (.ref c1) := by
    unfold atI ixN
    rw [if_neg (by decide), if_pos (by omega), show (-1 + (ys.length : Int)).toNat = es.length - 1 by omega]; exact hc1
  have hrs : ∀ e ∈ es, 0 ≤ e.r ∧ e.r < ds.length := fun e he => opn_r (hop e he)
  refine ⟨_, (pss_cons (ps_set (i := 4) sc_send.nd rfl (Or.inl rfl) (pe_ix (show IxR _ (rIx K) from ix_seq) (pe_ix (show IxR _ (rIx K) from ix_seq) (pv 3) (pe_un un_neg pe_int) (fun _ _ => rfl)) pe_int (fun _ _ => rfl)))
 (pss_cons (ps_set (i := 5) sc_send.nd rfl (Or.inl rfl) (pe_ix (show IxR _ (rIx K) from ix_seq) (pe_ix (show IxR _ (rIx K) from ix_seq) (pv 3) pe_int (fun _ _ => rfl)) pe_int (fun _ _ => rfl)))
 (pss_cons (ps_set (i := 6) sc_send.nd rfl (Or.inl rfl) (pe_callB (call_minU rfl) rfl T.z_min BT.min (pa_cons (pe_ix (show IxR _ (rIx K) from ix_seq) (pv 2) (pv 5) (fun _ _ => rfl)) (pa_cons (pe_un un_neg (pe_ix (show IxR _ (rIx K) from ix_seq) (pv 2) (pv 4) (fun _ _ => rfl))) pa_nil))))
 (pss_cons (ps_for PassesOwn.never rfl (show PI _ _ _ (iList K _) from pi_list (pv 3)) (pg_name (i := 7) sc_send.nd rfl (Or.inl rfl))
  (pss_one (ps_if (pt_cmpR op_gt (pe_ix (show IxR _ (rIx K) from ix_seq) (pv 7) pe_int (fun _ _ => rfl)) pe_int (nomark _))
  (pss_one (ps_set (i := 6) sc_send.nd rfl (Or.inl rfl) (pe_callB (call_minU rfl) rfl T.z_min BT.min (pa_cons (pv 6) (pa_cons (pe_op op_sub (pe_ix (show IxR _ (rIx K) from ix_seq) (pe_ix (show IxR _ (rIx K) from ix_seq) (pv 0) (pe_ix (show IxR _ (rIx K) from ix_seq) (pv 7) pe_int (fun _ _ => rfl)) (fun _ _ => rfl)) pe_int (fun _ _ => rfl)) (pe_ix (show IxR _ (rIx K) from ix_seq) (pv 1) (pe_ix (show IxR _ (rIx K) from ix_seq) (pv 7) pe_int (fun _ _ => rfl)) (fun _ _ => rfl))) pa_nil)))))
  (pss_one (ps_set (i := 6) sc_send.nd rfl (Or.inl rfl) (pe_callB (call_minU rfl) rfl T.z_min BT.min (pa_cons (pv 6) (pa_cons (pe_ix (show IxR _ (rIx K) from ix_seq) (pv 1) (pe_ix (show IxR _ (rIx K) from ix_seq) (pv 7) pe_int (fun _ _ => rfl)) (fun _ _ => rfl)) pa_nil))))))))
 (pss_cons (ps_for PassesOwn.never rfl (show PI _ _ _ (iList K _) from pi_list (pv 3)) (pg_name (i := 7) sc_send.nd rfl (Or.inl rfl))
  (pss_one (ps_augS (pv 1) (pe_ix (show IxR _ (rIx K) from ix_seq) (pv 7) pe_int (fun _ _ => rfl)) (show PGet _ (rIxL K) from get_listL) (pe_op op_mulU (pe_ix (show IxR _ (rIx K) from ix_seq) (pv 7) pe_int (fun _ _ => rfl)) (pv 6)) ip_add set_list)))
 (pss_cons (ps_augS (pv 2) (pv 4) (show PGet _ (rIxL K) from get_listL) (pv 6) ip_add set_list)
 (pss_one (ps_augS (pv 2) (pv 5) (show PGet _ (rIxL K) from get_listL) (pv 6) ip_sub set_list)))))))), ?_⟩
  refine x_start (σ0 := [some (.ref a), some (.ref b), some (.ref c), some (.ref d), none, none, none, none]) rfl ?_
  walk_at "x"
  refine x_forL (xs := ys) (fun i σ' H' => ∃ (r : Int) (f7 : Option V), σ' = [some (.ref a), some (.ref b), some (.ref c), some (.ref d), some (.int (sr : Int)), some (.int (t : Int)), some (.int r), f7] ∧ H = H' ∧ (∀ e ∈ es.take i, r ≤ resF ds l e) ∧ r ≤ w t ∧ r ≤ -w sr ∧ (r = w t ∨ r = -w sr ∨ ∃ e ∈ es, r = resF ds l e)) ?_ ?_ ?_ ?_
  · rw [Int.toNat_natCast, Int.toNat_natCast]
    refine ⟨_, _, rfl, rfl, fun _ h => (nomatch h), ?_, ?_, ?_⟩
    · split <;> omega
    · split <;> omega
    · split
      · exact .inr (.inl rfl)
      · exact .inl rfl
  · rintro i σ' H' _ ⟨_, _, _, e, _⟩; exact e ▸ SqL.of hd
  · rintro i x σ' H2 hx ⟨r, f7, rfl, rfl, hr1, hr2, hr3, hr4⟩
    obtain ⟨c2, e, rfl, hei, hc2⟩ := hI.get hx
    have hem := List.mem_of_getElem? hei
    have hc2' : H c2 = some (.tup [.int e.p, .int e.q, .int e.r, .int e.a]) := hc2
    obtain ⟨r0, r1⟩ := hrs e hem
    obtain ⟨dd, hdd⟩ := lt_some (show e.r.toNat < ds.length by omega)
    obtain ⟨bb, hbx, hbb⟩ := hT.getI hdd
    have hbb' : H bb = some (.tup [.int dd.p, .int dd.q, .int dd.r, .int dd.a]) := hbb
    have atx : atI xs e.r = some (.ref bb) := atI_lt r0 hbx
    have eam := amF_get hdd
    have fin : ∀ y, y = resF ds l e → ∃ (r' : Int) (f7 : Option V), [some (V.ref a), some (.ref b), some (.ref c), some (.ref d), some (.int (sr : Int)), some (.int (t : Int)), some (.int (if y < r then y else r)), some (.ref c2)] = [some (.ref a), some (.ref b), some (.ref c), some (.ref d), some (.int (sr : Int)), some (.int (t : Int)), some (.int r'), f7] ∧ H = H ∧ (∀ e ∈ es.take (i + 1), r' ≤ resF ds l e) ∧ r' ≤ w t ∧ r' ≤ -w sr ∧ (r' = w t ∨ r' = -w sr ∨ ∃ e ∈ es, r' = resF ds l e) := fun y hy => by
      refine ⟨_, _, rfl, rfl, fun e' he' => ?_, by split <;> omega, by split <;> omega, ?_⟩
      · rw [take_snoc hei] at he'
        rcases List.mem_append.mp he' with h | h
        · have := hr1 e' h; split <;> omega
        · rw [List.mem_singleton.mp h, ← hy]; split <;> omega
      · split
        · exact .inr (.inr ⟨e, hem, hy⟩)
        · exact hr4
    walk_at "x"
    · rename_i ha
      refine fin _ ?_
      unfold resF
      rw [if_pos ha, eam]
    · rename_i ha
      refine fin _ ?_
      unfold resF
      rw [if_neg ha]
  rintro σ' H2 ⟨r, f7, rfl, rfl, hr1, hr2, hr3, hr4⟩
  rw [hyl, List.take_length] at hr1
  have rr1 : 1 ≤ r := by
    rcases hr4 with h | h | ⟨e, he, h⟩
    · omega
    · omega
    · rw [h]; exact res_pos (hop e he)
  have rr2 : r ≤ 100000000000000 := Int.le_trans (hr1 e0 (List.mem_of_getElem? he0)) (hres e0 (List.mem_of_getElem? he0))
  walk_at "x"
  refine x_forL (xs := ys) (fun i σ' H' => ∃ (f7 : Option V), σ' = [some (.ref a), some (.ref b), some (.ref c), some (.ref d), some (.int (sr : Int)), some (.int (t : Int)), some (.int r), f7] ∧ H' b = some (.lst ((vec ds.length (updL l r (es.take i))).map V.int)) ∧ B2 b c H H' ∧ H' c = some (.lst ((vec n w).map V.int))) ⟨_, rfl, hb, B2.refl, hc⟩ ?_ ?_ ?_
  · rintro i σ' H' _ ⟨_, _, _, g, _⟩; exact SqL.of (g _ _ ndb ndc hd)
  · rintro i x σ' H2 hx ⟨f7, rfl, hb2, g2, hc2⟩
    obtain ⟨c3, e, rfl, hei, hc3⟩ := (hI.keep (g2.tups hb hc)).get hx
    have hem := List.mem_of_getElem? hei
    have hc3' : H2 c3 = some (.tup [.int e.p, .int e.q, .int e.r, .int e.a]) := hc3
    obtain ⟨r0, r1⟩ := hrs e hem
    have hsg := opn_sgn (hop e hem)
    walk_at "x"
    rename_i H3 b3 h3
    refine ⟨_, rfl, ?_, g2.lft b3, b3.lst hc2 fun z => nbc z.symm⟩
    rw [h3, take_snoc hei, updL_snoc]
    rfl
  · rintro σ' H2 ⟨f7, rfl, hb2, g2, hc2⟩
    rw [hyl, List.take_length] at hb2
    walk_at "x"
    rename_i H3 b3 h3 H4 b4 h4
    refine k H4 r ((g2.rgt b3).rgt b4) (b4.lst (b3.lst hb2 nbc) nbc) ?_ hr1 hr2 hr3 hr4
    rw [h4]
    congr 3
    refine vec_congr fun m hm => ?_
    unfold SentW
    rw [Int.toNat_natCast, Int.toNat_natCast]
    by_cases h : m = t
    · rw [if_pos h, if_pos h, if_neg fun z => hst z.symm, h]
    · rw [if_neg h, if_neg h]
      by_cases g : m = sr
      · rw [if_pos g, if_pos g, g]
      · rw [if_neg g, if_neg g]

theorem ok_shortest_way (T : Txt K mg) : FnOk P w K mg base (CXF P w) 2 T.d_shortest_way.a T.d_shortest_way.fd ["many", "sheet", "left", "wanting"] (spShort K lP lQ) := by
  have tx := TabX.ex (K := K) (mg := mg) (base := base) (x := "shortest_way") T.cw_shortest_way T.tw_shortest_way T.tb_shortest_way
  have eT : tabP K "shortest_way" = T.tw_shortest_way := by unfold tabP; rw [T.tb_shortest_way]
  refine T.d_shortest_way.F.okC T.cc_shortest_way sc_shortest_way (fun vs H Q E h => ?_) (fun A outer s H vs Q E hr h => ?_)
  · obtain ⟨a, b, c, n, ds, l, w, p, rfl, _⟩ := h; rfl
  obtain ⟨a, b, c, n, ds, l, wa, p, rfl, hS, hb, hc, h9, hl, hd, X, hP, ⟨m0, hm0, hw0⟩, hT, k⟩ := h
  have hok := opn_ok hd (l := l)
  have hvl : ((vec n wa).map V.int).length = n := by rw [List.length_map, vec_len]
  refine ⟨_, (pss_cons (ps_set (i := 4) sc_shortest_way.nd rfl (Or.inr rfl) (pe_comp rfl (show PI _ _ _ (iList K _) from pi_list (pv 3)) (compScope_of (Ni := ["want"]) (caps := [none]) (by rfl)) (fun S _ _ _ _ _ => (pg_nameC (gi := 0) S (Or.inl rfl) rfl)) (fun _ _ _ _ _ => pf_nil) (fun _ _ _ _ _ => (pe_ifExp (pt_cmpR op_lt (pv 0) pe_int (nomark _)) pe_int pe_non))))
 (pss_cons (ps_set (i := 5) sc_shortest_way.nd rfl (Or.inl rfl) (pe_op op_mulU (pe_lst (pa_cons pe_non pa_nil)) (pv 0)))
 (pss_cons (ps_set (i := 6) sc_shortest_way.nd rfl (Or.inl rfl) (pe_call (ok_steps_of (base := base) T) (hr.mono (by decide)) rfl T.d_steps_of.m T.d_steps_of.F.kp T.d_steps_of.b .nil (passN nox_F) (pa_cons (pv 1) (pa_cons (pv 2) pa_nil))))
 (pss_cons (ps_for PassesOwn.never rfl (pi_range1 rfl T.z_range (pa_cons (pv 0) pa_nil)) (pg_name (i := 7) sc_shortest_way.nd rfl (Or.inl rfl))
  (pss_one (ps_for PassesOwn.never rfl (show PI _ _ _ (iList K _) from pi_list (pv 6)) (pg_name (i := 8) sc_shortest_way.nd rfl (Or.inl rfl))
  (pss_one (ps_if (pt_cmpR op_notN (pe_ix (show IxR _ (rIx K) from ix_seq) (pv 4) (pe_ix (show IxR _ (rIx K) from ix_seq) (pv 8) pe_int (fun _ _ => rfl)) (fun _ _ => rfl)) pe_non (nomark _))
  (pss_cons (ps_set (i := 9) sc_shortest_way.nd rfl (Or.inl rfl) (pe_op (show OpR _ (binaryOp .Add) (rAddU K) from op_addU) (pe_op (show OpR _ (binaryOp .Add) (rAddU K) from op_addU) (pe_ix (show IxR _ (rIx K) from ix_seq) (pv 4) (pe_ix (show IxR _ (rIx K) from ix_seq) (pv 8) pe_int (fun _ _ => rfl)) (fun _ _ => rfl)) (pe_op op_mulU (pe_ix (show IxR _ (rIx K) from ix_seq) (pv 8) pe_int (fun _ _ => rfl)) (pe_op (show OpR _ (binaryOp .Add) (rAddU K) from op_addU) (pv 0) pe_int))) pe_int))
 (pss_one (ps_if (PW.pt (pw_or (pt_cmpR op_isN (pe_ix (show IxR _ (rIx K) from ix_seq) (pv 4) (pe_ix (show IxR _ (rIx K) from ix_seq) (pv 8) pe_int (fun _ _ => rfl)) (fun _ _ => rfl)) pe_non (nomark _)) (pw_or1 (pt_cmpR op_lt (pv 9) (pe_ix (show IxR _ (rIx K) from ix_seq) (pv 4) (pe_ix (show IxR _ (rIx K) from ix_seq) (pv 8) pe_int (fun _ _ => rfl)) (fun _ _ => rfl)) (nomark _)))))
  (pss_cons (ps_asg (pv 9) (pg_sub (pv 4) (pe_ix (show IxR _ (rIx K) from ix_seq) (pv 8) pe_int (fun _ _ => rfl)) set_list))
 (pss_one (ps_asg (pv 8) (pg_sub (pv 5) (pe_ix (show IxR _ (rIx K) from ix_seq) (pv 8) pe_int (fun _ _ => rfl)) set_list))))
  pss_nil)))
  pss_nil)))))
 (pss_cons (ps_setC (i := 10) sc_shortest_way.nd rfl rfl rfl (pi_range1 rfl T.z_range (pa_cons (pv 0) pa_nil)) (compScope_of (Ni := ["member", "wanting", "far"]) (caps := [none, some 3, some 4]) (by rfl)) (fun S _ _ _ _ _ => (pg_nameC (gi := 0) S (Or.inl rfl) rfl)) (fun _ _ _ _ _ => (pf_one (PW.pt (pw_and (pt_cmpR op_gt (pe_ix (show IxR _ (rIx K) from ix_seq) (pv 1) (pv 0) (fun _ _ => rfl)) pe_int (nomark _)) (pw_and1 (pt_cmpR op_notN (pe_ix (show IxR _ (rIx K) from ix_seq) (pv 2) (pv 0) (fun _ _ => rfl)) pe_non (nomark _))))))) (fun _ _ _ _ _ => (pv 0)))
 (pss_one (ps_ret (pe_call (ok_way_back (base := base) T) (hr.mono (by decide)) rfl T.d_way_back.m T.d_way_back.F.kp T.d_way_back.b .nil (passN nox_F) (pa_cons (show PE _ _ (tMK _ _ _ _ _ _) from pe_minK (k := 0) (j := 4) (x := "member") (y := "far") (by rfl) T.z_min BT.min (pa_cons (pv 10) pa_nil) rfl tx.1 tx.2 rfl rfl (hr.mono (by decide)) (fun _ _ _ _ _ _ => (pe_ix (show IxR _ (rIx K) from ix_seq) (pv 1) (pv 0) (fun _ _ => rfl)))) (pa_cons (pv 5) pa_nil)))))))))), ?_⟩
  refine x_start (σ0 := [some (.int (n : Int)), some (.ref a), some (.ref b), some (.ref c), none, none, none, none, none, none, none]) rfl ?_
  walk_at "x"
  refine x_compS1 (src_list (K := K) (a := c) (xs := (vec n wa).map V.int)) (fun H' e => SqL.of (e.at hc)) rfl (fun i vs _ => vs = oiL i (iniF n wa)) (fun H' _ => rfl) ?_ ?_
  · rintro i x D vs o H2 H3 hi hD e2 hv hvl' rfl e3 hx
    rw [hvl] at hi
    rw [List.getElem?_map, vec_get hi] at hx
    cases hx
    walk_at "x"
    · rename_i hneg H4 b4 h4
      refine ⟨⟨_, rfl⟩, b4.same (e2.trans e3) hD, _, h4, by rw [List.length_append]; exact Nat.succ_le_succ hvl', ?_⟩
      dsimp only
      rw [oiL_succ]
      unfold iniF
      rw [if_pos ⟨hi, hneg⟩]; rfl
    · rename_i hneg H4 b4 h4
      refine ⟨⟨_, rfl⟩, b4.same (e2.trans e3) hD, _, h4, by rw [List.length_append]; exact Nat.succ_le_succ hvl', ?_⟩
      dsimp only
      rw [oiL_succ]
      unfold iniF
      rw [if_neg fun z => hneg z.2]; rfl
  rintro fa H1 vs ffa e1 hfa hvl' rfl
  rw [hvl] at hfa
  walk_at "x"
  rename_i l0 H2' fl0 e2' hl0 la H2 fla' e2'' hla
  have e02 : Same H H2 := e1.trans (e2'.trans e2'')
  have fla : H1 la = none := Same.none fla' e2'
  have flaH : H la = none := Same.none fla e1
  rw [Int.toNat_natCast] at hla
  have hfa2 : H2 fa = some (.lst (oiL n (iniF n wa))) := (e2'.trans e2'').at hfa
  have nfl : fa ≠ la := fun z => by rw [← z, hfa] at fla; cases fla
  walk_at "x"
  refine spSteps_i (hS.same e02) (e02.at hb) hl hd ?_
  intro st H3 ys fst e3 hst hI
  have e03 := e02.trans e3
  have hfa3 := e3.at hfa2
  have hla3 := e3.at hla
  have nsf : st ≠ fa := fun z => by rw [z, hfa2] at fst; cases fst
  have nsl : st ≠ la := fun z => by rw [z, hla] at fst; cases fst
  have hsy : ∀ {H' : Hp}, B2 fa la H3 H' → H' st = some (.lst ys) ∧ IsTs dueV H' ys (opn ds l) := fun g => ⟨g _ _ nsf nsl hst, hI.keep (g.tups hfa3 hla3)⟩
  walk_at "x"
  refine x_forR (fun t σ' H' => ∃ (f7 f8 f9 : Option V) (last : Nat → Option Internal.Due) (zs : List V), σ' = [some (.int (n : Int)), some (.ref a), some (.ref b), some (.ref c), some (.ref fa), some (.ref la), some (.ref st), f7, f8, f9, none] ∧ H' fa = some (.lst (oiL n (farF (wgt n) (opn ds l) (iniF n wa) t))) ∧ H' la = some (.lst zs) ∧ IsLs H' n last zs ∧ Lst n (opn ds l) (wgt n) (iniF n wa) (farF (wgt n) (opn ds l) (iniF n wa) t) last ∧ B2 fa la H3 H' ∧ Same H H') ?_ ?_ ?_
  · exact ⟨_, _, _, _, _, rfl, hfa3, hla3, IsLs.start, Lst.start, B2.refl, e03⟩
  · rintro t σ' H4 ht ⟨f7, f8, f9, last, zs, rfl, hf4, hl4, hL4, L4, g4, e4⟩
    have hst4 := (hsy g4).1
    walk_at "x"
    refine x_forL (xs := ys) (fun i σ' H' => ∃ (f8 f9 : Option V) (last : Nat → Option Internal.Due) (zs : List V) (F : Nat → Option Int), σ' = [some (.int (n : Int)), some (.ref a), some (.ref b), some (.ref c), some (.ref fa), some (.ref la), some (.ref st), some (.int (t : Int)), f8, f9, none] ∧ F = relaxL (wgt n) (farF (wgt n) (opn ds l) (iniF n wa) t) ((opn ds l).take i) ∧ H' fa = some (.lst (oiL n F)) ∧ H' la = some (.lst zs) ∧ IsLs H' n last zs ∧ Lst n (opn ds l) (wgt n) (iniF n wa) F last ∧ B2 fa la H3 H' ∧ Same H H') ?_ ?_ ?_ ?_
    · exact ⟨f8, f9, last, zs, _, by rw [show ((0 : Int) + (t : Int)) = (t : Int) by omega]; rfl, rfl, hf4, hl4, hL4, L4, g4, e4⟩
    · rintro i σ' H' _ ⟨_, _, _, _, _, _, _, _, _, _, _, g, _⟩; exact SqL.of (hsy g).1
    · rintro i x σ' H5 hx ⟨f8, f9, last, zs, F, rfl, hF, hf5, hl5, hL5, L5, g5, e5⟩
      obtain ⟨cs, e, rfl, hei, hcs⟩ := (hsy g5).2.get hx
      have hem := List.mem_of_getElem? hei
      have hcs' : H5 cs = some (.tup [.int e.p, .int e.q, .int e.r, .int e.a]) := hcs
      obtain ⟨p0, p1, q0, q1⟩ := hok e hem
      have hsg := opn_sgn hem
      have hne := opn_ne hd hem
      have er : relaxL (wgt n) (farF (wgt n) (opn ds l) (iniF n wa) t) ((opn ds l).take (i + 1)) = relax (wgt n) F e := by rw [take_snoc hei, relaxL_snoc, hF]
      have atp : atI (oiL n F) e.p = some (oiV (F e.p.toNat)) := atI_lt p0 (oiL_get (by omega))
      have atq : atI (oiL n F) e.q = some (oiV (F e.q.toNat)) := atI_lt q0 (oiL_get (by omega))
      have hzl : zs.length = n := hL5.1
      have hol : (oiL n F).length = n := oiL_len
      have same : relax (wgt n) F e = F → ∀ (f9 : Option V), ∃ (f8 f9' : Option V) (last : Nat → Option Internal.Due) (zs : List V) (F : Nat → Option Int), [some (V.int (n : Int)), some (.ref a), some (.ref b), some (.ref c), some (.ref fa), some (.ref la), some (.ref st), some (.int (t : Int)), some (.ref cs), f9, none] = [some (.int (n : Int)), some (.ref a), some (.ref b), some (.ref c), some (.ref fa), some (.ref la), some (.ref st), some (.int (t : Int)), f8, f9', none] ∧ F = relaxL (wgt n) (farF (wgt n) (opn ds l) (iniF n wa) t) ((opn ds l).take (i + 1)) ∧ H5 fa = some (.lst (oiL n F)) ∧ H5 la = some (.lst zs) ∧ IsLs H5 n last zs ∧ Lst n (opn ds l) (wgt n) (iniF n wa) F last ∧ B2 fa la H3 H5 ∧ Same H H5 := fun h f9 => ⟨_, _, last, zs, F, rfl, by rw [er, h], hf5, hl5, hL5, L5, g5, e5⟩
      have upd : ∀ y, F e.p.toNat = some y → (F e.q.toNat = none ∨ ∃ z, F e.q.toNat = some z ∧ y + wgt n e < z) → ∀ H6 H7 (f9 : Option V), LBut fa H5 H6 → H6 fa = some (.lst ((oiL n F).set e.q.toNat (.int (y + e.a * ((n : Int) + 1) + 1)))) → LBut la H6 H7 → H7 la = some (.lst (zs.set e.q.toNat (.ref cs))) → ∃ (f8 f9' : Option V) (last : Nat → Option Internal.Due) (zs : List V) (F : Nat → Option Int), [some (V.int (n : Int)), some (.ref a), some (.ref b), some (.ref c), some (.ref fa), some (.ref la), some (.ref st), some (.int (t : Int)), some (.ref cs), f9, none] = [some (.int (n : Int)), some (.ref a), some (.ref b), some (.ref c), some (.ref fa), some (.ref la), some (.ref st), some (.int (t : Int)), f8, f9', none] ∧ F = relaxL (wgt n) (farF (wgt n) (opn ds l) (iniF n wa) t) ((opn ds l).take (i + 1)) ∧ H7 fa = some (.lst (oiL n F)) ∧ H7 la = some (.lst zs) ∧ IsLs H7 n last zs ∧ Lst n (opn ds l) (wgt n) (iniF n wa) F last ∧ B2 fa la H3 H7 ∧ Same H H7 := fun y hy hv H6 H7 f9 b6 h6 b7 h7 => by
        have hcs6 : H7 cs = some (.tup (dueV e)) := b7.tup (b6.tup hcs)
        refine ⟨_, _, _, _, relax (wgt n) F e, rfl, er.symm, ?_, h7, (hL5.keep fun x xs h => b7.tup (b6.tup h)).set hcs6, L5.upd hok hem hne hy hv, (g5.lft b6).rgt b7, b7.same (b6.same e5 ffa) flaH⟩
        rw [b7.lst h6 nfl, oiL_set, relax_upd hy hv, show y + e.a * ((n : Int) + 1) + 1 = y + wgt n e by unfold wgt; omega]
      cases hp : F e.p.toNat with
      | none =>
        rw [hp] at atp
        have atp' : atI (oiL n F) e.p = some .non := atp
        walk_at "x"
        · exact absurd rfl (by assumption)
        · exact same (relax_keep0 hp) _
      | some y =>
        rw [hp] at atp
        have atp' : atI (oiL n F) e.p = some (.int y) := atp
        cases hq : F e.q.toNat with
        | none =>
          rw [hq] at atq
          have atq' : atI (oiL n F) e.q = some .non := atq
          walk_at "x"
          · refine x_setN (j := e.q.toNat) hf5 (ixN_lt q0 (by omega)) ?_
            intro H6 b6 h6
            have hcs6 : H6 cs = some (.tup [.int e.p, .int e.q, .int e.r, .int e.a]) := b6.tup hcs'
            have hl6 := b6.lst hl5 (fun z => nfl z.symm)
            walk_at "x"
            refine x_setN (j := e.q.toNat) hl6 (ixN_lt q0 (by omega)) ?_
            intro H7 b7 h7
            exact upd y hp (.inl hq) H6 H7 _ b6 h6 b7 h7
          · exact absurd rfl (by assumption)
          · rename_i hz; cases hz
        | some z =>
          rw [hq] at atq
          have atq' : atI (oiL n F) e.q = some (.int z) := atq
          walk_at "x"
          all_goals first | (exfalso; rename_i hz; exact V.noConfusion hz) | skip
          · rename_i hlt
            refine x_setN (j := e.q.toNat) hf5 (ixN_lt q0 (by omega)) ?_
            intro H6 b6 h6
            have hcs6 : H6 cs = some (.tup [.int e.p, .int e.q, .int e.r, .int e.a]) := b6.tup hcs'
            have hl6 := b6.lst hl5 (fun z => nfl z.symm)
            walk_at "x"
            refine x_setN (j := e.q.toNat) hl6 (ixN_lt q0 (by omega)) ?_
            intro H7 b7 h7
            exact upd y hp (.inr ⟨z, hq, by unfold wgt; omega⟩) H6 H7 _ b6 h6 b7 h7
          · rename_i hlt
            exact same (relax_keep1 hp hq (by unfold wgt; omega)) _
    · rintro σ' H5 ⟨f8, f9, last, zs, F, rfl, hF, hf5, hl5, hL5, L5, g5, e5⟩
      rw [hI.length, List.take_length] at hF
      have hF' : F = farF (wgt n) (opn ds l) (iniF n wa) (t + 1) := hF
      subst hF'
      exact ⟨_, _, _, last, zs, rfl, hf5, hl5, hL5, L5, g5, e5⟩
  · rintro σ' H4 ⟨f7, f8, f9, last, zs, rfl, hf4, hl4, hL4, L4, g4, e4⟩
    rw [Int.toNat_natCast] at hf4 L4
    have hP' := pot_wgt (n := n) hP
    have S := (far_turns (n := n) (ini := iniF n wa) hok hP' n).short hok (fun v x h => (ini_lt h).1) (by omega)
    obtain ⟨t0, y0, ht0, hwt0, hFt0⟩ := X.reach hd hP S hm0 hw0
    have hc4 := e4.at hc
    generalize hG : farF (wgt n) (opn ds l) (iniF n wa) n = F at hf4 L4 S hFt0
    walk_at "x"
    refine x_compS1 (src_range (lo := 0) (n := n)) (fun _ _ => trivial) rfl (fun j vs _ => vs = (natI ((List.range j).filter fun m => decide (0 < wa m) && (F m).isSome)).map V.int) (fun H' _ => rfl) ?_ ?_
    · rintro j x D vs o2 H6 H7 hj hD e6 hv hvl rfl e7 rfl
      have ej : (0 : Int) + (j : Int) = j := by omega
      rw [ej]
      have hat : atI (oiL n F) (j : Int) = some (oiV (F j)) := atI_lt (by omega) (by rw [Int.toNat_natCast]; exact oiL_get hj)
      have hc7 := (e6.trans e7).at hc4
      have hf7 := (e6.trans e7).at hf4
      have es : (List.range (j + 1)).filter (fun m => decide (0 < wa m) && (F m).isSome) = (List.range j).filter (fun m => decide (0 < wa m) && (F m).isSome) ++ (if 0 < wa j ∧ (F j).isSome = true then [j] else []) := by
        rw [List.range_succ, List.filter_append]
        congr 1
        by_cases h : 0 < wa j ∧ (F j).isSome = true
        · rw [if_pos h]; simp [h.1, h.2]
        · rw [if_neg h, List.filter_cons_of_neg (by simpa using h)]; rfl
      walk_at "x"
      · rename_i g1 g2 H8 b8 h8
        rw [Int.toNat_natCast] at g1
        have hs : (F j).isSome = true := by
          cases h : F j with
          | none => rw [h] at g2; exact absurd rfl g2
          | some _ => rfl
        rw [if_pos ⟨g1, hs⟩] at es
        refine ⟨⟨_, rfl⟩, b8.same (e6.trans e7) hD, _, h8, by rw [List.length_append]; exact Nat.succ_le_succ hvl, ?_⟩
        dsimp only
        rw [es, natI_app, List.map_append]; rfl
      · rename_i g1 g2
        have hs : ¬ (F j).isSome = true := by
          cases h : F j with
          | none => simp
          | some _ => rw [h] at g2; cases g2
        rw [if_neg fun z => hs z.2, List.append_nil] at es
        exact ⟨⟨_, rfl⟩, e6.trans e7, _, e7.at hv, Nat.le_succ_of_le hvl, by dsimp only; rw [es]⟩
      · rename_i g1
        rw [Int.toNat_natCast] at g1
        rw [if_neg fun z => g1 z.1, List.append_nil] at es
        exact ⟨⟨_, rfl⟩, e6.trans e7, _, e7.at hv, Nat.le_succ_of_le hvl, by dsimp only; rw [es]⟩
    rintro en H5 vs fen e5 hen hvl rfl
    have hmem : ∀ x : Int, x ∈ natI ((List.range n).filter fun m => decide (0 < wa m) && (F m).isSome) → ∃ m : Nat, x = (m : Int) ∧ m < n ∧ 0 < wa m ∧ ∃ y, F m = some y := fun x hx => by
      obtain ⟨m, hm, rfl⟩ := List.mem_map.mp hx
      obtain ⟨h1, h2⟩ := List.mem_filter.mp hm
      rw [Bool.and_eq_true, decide_eq_true_iff] at h2
      cases h : F m with
      | none => rw [h] at h2; exact absurd h2.2 (by decide)
      | some y => exact ⟨m, rfl, List.mem_range.mp h1, h2.1, y, h⟩
    have hne : natI ((List.range n).filter fun m => decide (0 < wa m) && (F m).isSome) ≠ [] := fun z => by
      have : ((t0 : Nat) : Int) ∈ natI ((List.range n).filter fun m => decide (0 < wa m) && (F m).isSome) := List.mem_map.mpr ⟨t0, List.mem_filter.mpr ⟨List.mem_range.mpr ht0, by rw [hFt0, decide_eq_true hwt0]; rfl⟩, rfl⟩
      rw [z] at this; cases this
    have hTb : TbW K "shortest_way" lP lQ H5 := TbW.same e5 (TbW.same e4 hT)
    have hTb' : Tb H5 T.tw_shortest_way lP lQ := by rw [← eT]; exact hTb
    walk_at "x"
    refine x_cons (x_mk ?_)
    walk_at "x"
    refine x_nil ?_
    refine ⟨hTb', en, _, .ref fa, fun x => (F x.toNat).getD 0, rfl, hen, hne, rfl, fun x hx H6 st6 => ?_, fun x H6 hx hmin st6 hTb6 => ?_⟩
    · obtain ⟨m, rfl, hm, hwm, y, hy⟩ := hmem x hx
      have hf6 : H6 fa = some (.lst (oiL n F)) := st6.at (e5.at hf4)
      have hat : atI (oiL n F) (m : Int) = some (.int y) := atI_nat (by rw [oiL_get hm, hy]; rfl)
      walk_at "x"
      refine ⟨?_, Same.refl _⟩
      show V.int y = V.int ((F (m : Int).toNat).getD 0)
      rw [Int.toNat_natCast, hy]; rfl
    · obtain ⟨m, rfl, hm, hwm, y, hy⟩ := hmem x hx
      walk_at "x"
      refine x_nil ?_
      have hl6 : H6 la = some (.lst zs) := st6.at (e5.at hl4)
      refine spBack_i (τ := rankN n (phi n F p)) hl6 (hL4.keep fun z zs h => st6.tup (e5.at h)) hm (by have := rankN_le (n := n) (f := phi n F p) (v := m); omega) (fun v e hv he => ?_) ?_
      · obtain ⟨h1, h2, _⟩ := L4.some v e hv he
        obtain ⟨p0, p1, q0, q1⟩ := hok e h1
        exact ⟨p0, p1, rankN_lt (by omega) (phi_lt hP L4 hv he)⟩
      · intro r H7 ys' es s' fr e7 hr' hI' B
        exact k r H7 ys' es m s' F last (Same.none (Same.none (st6.none (Same.none fr (Same.refl _))) e5) e4) ((e4.trans e5).t.trans (st6.trans e7.t)) (TbW.same e7 (by unfold TbW; rw [eT]; exact hTb6)) hr' hI' S L4 hm hwm (by rw [hy]; exact fun z => nomatch z) B

theorem ok_nets (T : Txt K mg) : FnOk P w K mg base (CXF P w) 1 T.d_nets.a T.d_nets.fd ["many", "sheet"] (spNets K) := by
  refine T.d_nets.F.okN sc_nets (fun vs H Q E h => ?_) (fun cdv A outer s H vs Q E hr h => ?_)
  · obtain ⟨n, a, ds, rfl, _⟩ := h; rfl
  obtain ⟨n, a, ds, rfl, ⟨xs, hS, hT⟩, n0, n1, hd, k⟩ := h
  refine ⟨_, (pss_cons (ps_set (i := 2) sc_nets.nd rfl (Or.inl rfl) (pe_op op_mulU (pe_lst (pa_cons pe_int pa_nil)) (pv 0)))
 (pss_cons (ps_for PassesOwn.never rfl (show PI _ _ _ (iList K _) from pi_list (pv 1)) (show PG _ _ (gTup K 4 _) from pg_tup (n := 4) rfl (pgs_cons (pg_name (i := 3) sc_nets.nd rfl (Or.inl rfl)) (pgs_cons (pg_name (i := 4) sc_nets.nd rfl (Or.inl rfl)) (pgs_cons (pg_name (i := 5) sc_nets.nd rfl (Or.inl rfl)) (pgs_cons (pg_name (i := 6) sc_nets.nd rfl (Or.inl rfl)) pgs_nil)))))
  (pss_cons (ps_augS (pv 2) (pv 3) (show PGet _ (rIxL K) from get_listL) (pv 6) ip_sub set_list)
 (pss_one (ps_augS (pv 2) (pv 4) (show PGet _ (rIxL K) from get_listL) (pv 6) ip_add set_list))))
 (pss_one (ps_ret (pv 2))))), ?_⟩
  refine x_start (σ0 := [some (.int n), some (.ref a), none, none, none, none, none]) rfl ?_
  walk_at "x"
  rename_i l H2 fl e2 hl
  refine x_forL (xs := xs) (fun i σ' H' => ∃ f3 f4 f5 f6, σ' = [some (.int n), some (.ref a), some (.ref l), f3, f4, f5, f6] ∧ H' l = some (.lst ((vec n.toNat (netsF (ds.take i))).map V.int)) ∧ Same H H') ?_ ?_ ?_ ?_
  · exact ⟨_, _, _, _, rfl, hl, by walk_at "h"⟩
  · rintro i σ' H' _ ⟨_, _, _, _, _, _, e⟩; exact e.seq hS
  · rintro i x σ' H4 hx ⟨f3, f4, f5, f6, rfl, hl3, e3⟩
    obtain ⟨b, d, rfl, hdi, hb⟩ := (hT.same e3).get hx
    have hb' : H4 b = some (.tup [.int d.p, .int d.q, .int d.r, .int d.a]) := hb
    obtain ⟨p0, p1, q0, q1, pq, r0, r1, a0, a1⟩ := hd d (List.mem_of_getElem? hdi)
    walk_at "x"
    rename_i H5 b5 h5 H6 b6 h6
    refine ⟨_, _, _, _, rfl, ?_, by walk_at "h"⟩
    rw [h6, take_snoc hdi]
    congr 3
    refine vec_congr fun m hm => ?_
    unfold netsF
    rw [owesF_snoc, claimsF_snoc]
    by_cases e : d.p = m
    · have : ¬ d.q = m := by omega
      rw [if_pos e, if_neg this, if_neg (by omega), if_pos (by omega)]
      have e' : d.p.toNat = m := by omega
      rw [e']; omega
    · by_cases e' : d.q = m
      · rw [if_neg e, if_pos e', if_pos (by omega), if_neg (by omega)]
        have e'' : d.q.toNat = m := by omega
        rw [e'']; omega
      · rw [if_neg e, if_neg e', if_neg (by omega), if_neg (by omega)]
  · rintro σ' H3 ⟨f3, f4, f5, f6, rfl, hl3, e3⟩
    rw [hT.length, List.take_length] at hl3
    walk_at "x"
    exact k _ _ (by walk_at "h") e3 hl3
theorem ok_thinned (T : Txt K mg) : FnOk P w K mg base (CXF P w) 3 T.d_thinned.a T.d_thinned.fd ["many", "sheet"] (spThin K lP lQ) := by
  refine T.d_thinned.F.okN sc_thinned (fun vs H Q E h => ?_) (fun cdv A outer s H vs Q E hr h => ?_)
  · obtain ⟨a, n, ds, rfl, _⟩ := h; rfl
  obtain ⟨a, n, ds, rfl, hS, n1, h9, hl, hd, hT, k⟩ := h
  obtain ⟨xs, hSq, hTs⟩ := id hS
  have hxl := hTs.length
  have hds : ∀ d ∈ ds, DueOk ((n : Nat) : Int) d := hd
  refine ⟨_, (pss_cons (ps_set (i := 2) sc_thinned.nd rfl (Or.inl rfl) (pe_op op_mulU (pe_lst (pa_cons pe_int pa_nil)) (pe_callB (show CallR _ _ (rLen K) from call_lenU) rfl T.z_len BT.len (pa_cons (pv 1) pa_nil))))
 (pss_cons (ps_set (i := 3) sc_thinned.nd rfl (Or.inl rfl) (pe_call (ok_nets (base := base) T) (hr.mono (by decide)) rfl T.d_nets.m T.d_nets.F.kp T.d_nets.b .nil (passN nox_F) (pa_cons (pv 0) (pa_cons (pv 1) pa_nil))))
 (pss_cons (ps_while PassesOwn.never (show PT _ _ (tTru K _) from pt_truthU (pe_callB (show CallR _ _ (rAnyL K) from call_anyL rfl) rfl T.z_any BT.any (pa_cons (pe_comp rfl (show PI _ _ _ (iList K _) from pi_list (pv 3)) (compScope_of (Ni := ["want"]) (caps := [none]) (by rfl)) (fun S _ _ _ _ _ => (pg_nameC (gi := 0) S (Or.inl rfl) rfl)) (fun _ _ _ _ _ => pf_nil) (fun _ _ _ _ _ => (pe_cmpR op_gt (pv 0) pe_int (nomark _)))) pa_nil)) (fun _ => rfl))
  (pss_one (ps_expr (pe_call (ok_send (base := base) T) (hr.mono (by decide)) rfl T.d_send.m T.d_send.F.kp T.d_send.b .nil (passN nox_F) (pa_cons (pv 1) (pa_cons (pv 2) (pa_cons (pv 3) (pa_cons (pe_call (ok_shortest_way (base := base) T) (hr.mono (by decide)) rfl T.d_shortest_way.m T.d_shortest_way.F.kp T.d_shortest_way.b .nil (passN nox_F) (pa_cons (pv 0) (pa_cons (pv 1) (pa_cons (pv 2) (pa_cons (pv 3) pa_nil))))) pa_nil))))))))
 (pss_one (ps_ret (pe_tup (pa_cons (pv 2) (pa_cons (pe_call (ok_heights_of (base := base) T) (hr.mono (by decide)) rfl T.d_heights_of.m T.d_heights_of.F.kp T.d_heights_of.b .nil (passN nox_F) (pa_cons (pv 0) (pa_cons (pv 1) (pa_cons (pv 2) pa_nil)))) pa_nil)))))))), ?_⟩
  refine x_start (σ0 := [some (.int (n : Int)), some (.ref a), none, none]) rfl ?_
  walk_at "x"
  rename_i l0 H0 fl0 e0 hl0 b H1 fb' e1' hb c H2 fc' e2' hc
  have fb : H b = none := Same.none fb' e0
  have e1 : Same H H1 := e0.trans e1'
  have fc : H c = none := Same.none fc' e1
  have nbc : b ≠ c := fun z => by rw [z] at hb; rw [hb] at fc'; cases fc'
  rw [Int.toNat_natCast] at hc
  rw [Int.toNat_natCast, hxl] at hb
  have hb2 := e2'.at hb
  have e2 := e1.trans e2'
  refine x_seq ?_
  refine ⟨fun mm σ H' => ∃ (l w : Nat → Int), σ = [some (.int (n : Int)), some (.ref a), some (.ref b), some (.ref c)] ∧ H' b = some (.lst ((vec ds.length l).map V.int)) ∧ H' c = some (.lst ((vec n w).map V.int)) ∧ Thin n ds l w ∧ SameT H H' ∧ TbW K "shortest_way" lP lQ H' ∧ mm = wantS n w, ⟨_, _, _, rfl, hb2, hc, Thin.start hd, e2.t, TbW.same e2 hT, rfl⟩, ?_⟩
  rintro mm σ H3 ⟨l, w, rfl, hb3, hc3, X, s3, hT3, rfl⟩
  have hvl : ((vec n w).map V.int).length = n := by rw [List.length_map, vec_len]
  walk_at "x"
  refine x_compS1 (src_list (K := K) (a := c) (xs := (vec n w).map V.int)) (fun H' e => SqL.of (e.at hc3)) rfl (fun i vs _ => vs = ((List.range i).map fun m => decide (0 < w m)).map V.bl) (fun H' _ => rfl) ?_ ?_
  · rintro i x D vs o H4 H5 hi hD e4 hv hvl' rfl e5 hx
    rw [hvl] at hi
    rw [List.getElem?_map, vec_get hi] at hx
    cases hx
    walk_at "x"
    rename_i H6 b6 h6
    refine ⟨⟨_, rfl⟩, b6.same (e4.trans e5) hD, _, h6, by rw [List.length_append]; exact Nat.succ_le_succ hvl', ?_⟩
    dsimp only
    rw [List.range_succ, List.map_append, List.map_append]; rfl
  rintro D H4 vs fD e4 hD hvl' rfl
  rw [hvl] at hD
  have hb4 := e4.at hb3
  have hc4 := e4.at hc3
  have s4 := s3.trans e4.t
  have hT4 : TbW K "shortest_way" lP lQ H4 := TbW.same e4 hT3
  have hS4 := s4.isSh hS
  walk_at "x"
  refine x_nil (x_anyL hD ?_)
  by_cases hz : ∃ m, m < n ∧ 0 < w m
  · have ea : ((List.range n).map fun m => decide (0 < w m)).any id = true := by
      obtain ⟨m, hm, hw⟩ := hz
      exact List.any_eq_true.mpr ⟨true, List.mem_map.mpr ⟨m, List.mem_range.mpr hm, decide_eq_true hw⟩, rfl⟩
    rw [ea]
    obtain ⟨p, hP⟩ := X.pot
    walk_at "x"
    refine ⟨fun σ' H' => ∃ (l' w' : Nat → Int), σ' = [some (.int (n : Int)), some (.ref a), some (.ref b), some (.ref c)] ∧ H' b = some (.lst ((vec ds.length l').map V.int)) ∧ H' c = some (.lst ((vec n w').map V.int)) ∧ Thin n ds l' w' ∧ SameT H H' ∧ TbW K "shortest_way" lP lQ H' ∧ wantS n w' < wantS n w, ?_, ?_⟩
    · rintro σ' H' ⟨l', w', rfl, h1, h2, h3, h4, h5, h6⟩
      exact ⟨_, h6, l', w', rfl, h1, h2, h3, h4, h5, rfl⟩
    · walk_at "x"
      refine x_nil ?_
      refine ⟨a, b, c, n, ds, l, w, p, rfl, hS4, hb4, hc4, h9, hl, hd, X, hP, hz, hT4, ?_⟩
      intro r H5 ys es t s' F last fr s5 hT5 hr5 hI5 S L ht hwt hFt B
      obtain ⟨hne, hs, hws, hst⟩ := Thin.way hd L B ht hwt hFt
      obtain ⟨_, hq0, hp1⟩ := B.ends (n := n) (fun v e hv hl => by
        obtain ⟨b1, b2, _⟩ := L.some v e hv hl
        have := opn_ok hd e b1
        exact ⟨b2, this.1, this.2.1⟩) ht
      have nrb : r ≠ b := fun z => by rw [z, hb4] at fr; cases fr
      have nrc : r ≠ c := fun z => by rw [z, hc4] at fr; cases fr
      have hop : ∀ e ∈ es, e ∈ opn ds l := fun e he => ((B.facts hd hP L ht).1 e he).1
      have hb5 : H5 b = some (.lst ((vec ds.length l).map V.int)) := s5.at hb4
      have hc5 : H5 c = some (.lst ((vec n w).map V.int)) := s5.at hc4
      walk_at "x"
      refine x_nil ?_
      refine ⟨a, b, c, r, n, t, s', ds, es, l, w, ys, rfl, s5.isSh hS4, hb5, hc5, nbc, nrb, nrc, hr5, hI5, hne, ht, hs, hst, hq0, hp1, hop, fun e he => X.res hd (hop e he), hwt, hws, ?_⟩
      intro H6 x g6 hb6 hc6 x1 x2 x3 x4
      have hx1 : 1 ≤ x := by
        rcases x4 with h | h | ⟨e, he, h⟩
        · omega
        · omega
        · rw [h]; exact res_pos (hop e he)
      walk_at "x"
      exact ⟨_, _, rfl, hb6, hc6, X.send hd hP S L ht B (by omega) x1 hst, g6.sameT (s4.trans s5) fb fc, g6.tb hb5 hc5 hT5, want_down ht hx1 x2 x3⟩
  · have ea : ((List.range n).map fun m => decide (0 < w m)).any id = false := by
      cases h : ((List.range n).map fun m => decide (0 < w m)).any id with
      | false => rfl
      | true =>
        obtain ⟨u, hu, hu'⟩ := List.any_eq_true.mp h
        obtain ⟨m, hm, rfl⟩ := List.mem_map.mp hu
        exact absurd ⟨m, List.mem_range.mp hm, of_decide_eq_true hu'⟩ hz
    rw [ea]
    obtain ⟨p, hP⟩ := X.pot
    walk_at "x"
    refine spHgt_i hS4 hb4 hl h9 hd ?_
    intro h H5 fh e5 hh
    have hb5 := e5.at hb4
    walk_at "x"
    refine x_nil ?_
    refine x_tupN (by first | decide | simp) fun tp H6 ft e6 ht => ?_
    have s5 := s4.trans e5.t
    exact k tp b h H6 l (hgtF n (opn ds l)) (s5.none ft) fb (s4.none fh) (s5.trans e6.t) (TbW.same e6 (TbW.same e5 hT4)) ht (e6.at hb5) (e6.at hh) X.bd (X.done hd fun m hm hw => hz ⟨m, hm, hw⟩) (hgt_pot hd hP)

theorem ok_dues_among (T : Txt K mg) : FnOk P w K mg base (CXF P w) 1 T.d_dues_among.a T.d_dues_among.fd ["sheet", "going"] (spAmong K) := by
  refine T.d_dues_among.F.okN sc_dues_among (fun vs H Q E h => ?_) (fun cdv A outer s H vs Q E hr h => ?_)
  · obtain ⟨a, b, ds, n, g, rfl, _⟩ := h; rfl
  obtain ⟨a, b, ds, n, g, rfl, ⟨xs, hS, hT⟩, hB, hn, hl, hd, k⟩ := h
  have hxl := hT.length
  have hbl : (bls n g).length = n := bls_len
  refine ⟨_, (pss_cons (ps_set (i := 2) sc_dues_among.nd rfl (Or.inl rfl) (pe_op op_mulU (pe_lst (pa_cons pe_non pa_nil)) (pe_callB (show CallR _ _ (rLen K) from call_lenU) rfl T.z_len BT.len (pa_cons (pv 1) pa_nil))))
 (pss_cons (ps_for PassesOwn.never rfl (show PI _ _ _ (iEnum K _) from pi_enum rfl T.z_enumerate (pa_cons (pv 0) pa_nil)) (show PG _ _ (gTup K 2 _) from pg_tup (n := 2) rfl (pgs_cons (pg_name (i := 3) sc_dues_among.nd rfl (Or.inl rfl)) (pgs_cons (pg_name (i := 4) sc_dues_among.nd rfl (Or.inl rfl)) pgs_nil)))
  (pss_one (ps_if (PW.pt (pw_and (pt_cmpR op_gt (pe_ix (show IxR _ (rIx K) from ix_seq) (pv 4) pe_int (fun _ _ => rfl)) pe_int (nomark _)) (pw_and (show PT _ _ (tTru K _) from pt_truthU (pe_ix (show IxR _ (rIx K) from ix_seq) (pv 1) (pe_ix (show IxR _ (rIx K) from ix_seq) (pv 4) pe_int (fun _ _ => rfl)) (fun _ _ => rfl)) (fun _ => rfl)) (pw_and1 (show PT _ _ (tTru K _) from pt_truthU (pe_ix (show IxR _ (rIx K) from ix_seq) (pv 1) (pe_ix (show IxR _ (rIx K) from ix_seq) (pv 4) pe_int (fun _ _ => rfl)) (fun _ _ => rfl)) (fun _ => rfl))))))
  (pss_one (ps_asg (pv 3) (pg_sub (pv 2) (pe_ix (show IxR _ (rIx K) from ix_seq) (pv 4) pe_int (fun _ _ => rfl)) set_list)))
  pss_nil)))
 (pss_one (ps_ret (pv 2))))), ?_⟩
  refine x_start (σ0 := [some (.ref a), some (.ref b), none, none, none]) rfl ?_
  walk_at "x"
  rename_i l0 H0 fl0 e0 hl0 l H1 fl e1 hl1
  rw [Int.toNat_natCast, hbl] at hl1
  refine x_forS (src_enum (K := K) (a := a) (xs := xs)) (fun i σ' H' => ∃ f3 f4, σ' = [some (.ref a), some (.ref b), some (.ref l), f3, f4] ∧ H' l = some (.lst (optL n (onwF ds g i))) ∧ Same H H') ?_ ?_ ?_ ?_
  · exact ⟨_, _, rfl, hl1, by walk_at "h"⟩
  · rintro i σ' H' ⟨_, _, _, _, e⟩; exact e.seq hS
  · rintro i y σ' H3 H4 hi ⟨f3, f4, rfl, hl3, e3⟩ e4 ⟨t, v, rfl, hv, ht⟩
    obtain ⟨c, d, rfl, hdi, hc⟩ := (hT.same (e3.trans e4)).get hv
    have hc' : H4 c = some (.tup [.int d.p, .int d.q, .int d.r, .int d.a]) := hc
    obtain ⟨p0, p1, q0, q1, pq, r0, r1, a0, a1⟩ := hd d (List.mem_of_getElem? hdi)
    have hat1 : atI (bls n g) d.p = some (.bl (g d.p.toNat)) := atI_lt p0 (bls_get (by omega))
    have hat2 : atI (bls n g) d.q = some (.bl (g d.q.toNat)) := atI_lt q0 (bls_get (by omega))
    have hB4 := (e3.trans e4).seq hB
    have es : ∀ m, onwF ds g (i + 1) m = if useful g m d then some i else onwF ds g i m := onwF_succ hdi
    walk_at "x"
    · rename_i h1 h2 h3
      refine x_setN (by walk_at "h") (show ixN (optL n (onwF ds g i)).length d.p = some d.p.toNat by rw [optL_len]; exact ixN_lt p0 (by omega)) fun H5 b5 h5 => ?_
      refine ⟨_, _, rfl, ?_, by walk_at "h"⟩
      rw [h5]
      show some (HO.lst ((optL n (onwF ds g i)).set d.p.toNat (optV (some i)))) = _
      rw [optL_set]
      congr 2
      refine optL_congr fun m hm => ?_
      rw [es m]
      by_cases e : m = d.p.toNat
      · rw [if_pos e, if_pos ⟨by omega, h1, h2, h3⟩]
      · rw [if_neg e, if_neg (fun z => e (by have := z.1; omega))]
    all_goals
      refine ⟨_, _, rfl, ?_, by walk_at "h"⟩
      rw [e4.at hl3]
      congr 2
      refine optL_congr fun m hm => ?_
      rw [es m, if_neg]
      rintro ⟨z1, z2, z3, z4⟩
      simp_all
  · rintro σ' H3 ⟨f3, f4, rfl, hl3, e3⟩
    rw [hxl] at hl3
    walk_at "x"
    exact k _ _ (by walk_at "h") e3 hl3
theorem ok_ways_onward (T : Txt K mg) : FnOk P w K mg base (CXF P w) 2 T.d_ways_onward.a T.d_ways_onward.fd ["many", "sheet"] (spWays K) := by
  refine T.d_ways_onward.F.okN sc_ways_onward (fun vs H Q E h => ?_) (fun cdv A outer s H vs Q E hr h => ?_)
  · obtain ⟨n, a, ds, rfl, _⟩ := h; rfl
  obtain ⟨n, a, ds, rfl, hS, n0, n1, hl, hd, k⟩ := h
  have hdN : ∀ d ∈ ds, DueOk (n.toNat : Int) d := by rw [show (n.toNat : Int) = n by omega]; exact hd
  refine ⟨_, (pss_cons (ps_set (i := 2) sc_ways_onward.nd rfl (Or.inl rfl) (pe_op op_mulU (pe_lst (pa_cons pe_bl pa_nil)) (pv 0)))
 (pss_cons (ps_set (i := 3) sc_ways_onward.nd rfl (Or.inl rfl) (pe_op op_mulU (pe_lst (pa_cons pe_non pa_nil)) (pv 0)))
 (pss_cons (ps_for PassesOwn.never rfl (pi_range1 rfl T.z_range (pa_cons (pv 0) pa_nil)) (pg_name (i := 4) sc_ways_onward.nd rfl (Or.inl rfl))
  (pss_cons (ps_set (i := 3) sc_ways_onward.nd rfl (Or.inl rfl) (pe_call (ok_dues_among (base := base) T) (hr.mono (by decide)) rfl T.d_dues_among.m T.d_dues_among.F.kp T.d_dues_among.b .nil (passN nox_F) (pa_cons (pv 1) (pa_cons (pv 2) pa_nil))))
 (pss_one (ps_setC (i := 2) sc_ways_onward.nd rfl rfl rfl (show PI _ _ _ (iList K _) from pi_list (pv 3)) (compScope_of (Ni := ["number"]) (caps := [none]) (by rfl)) (fun S _ _ _ _ _ => (pg_nameC (gi := 0) S (Or.inl rfl) rfl)) (fun _ _ _ _ _ => pf_nil) (fun _ _ _ _ _ => (pe_cmpR op_notN (pv 0) pe_non (nomark _)))))))
 (pss_one (ps_ret (pv 3)))))), ?_⟩
  refine x_start (σ0 := [some (.int n), some (.ref a), none, none, none]) rfl ?_
  walk_at "x"
  rename_i l0 H0 fl0 e0 hl0 go H1 fgo e1 hgo l1 H2 fl1 e2 hl1 on H3 fon e3 hon
  refine x_forR (fun i σ' H' => ∃ (g o : Addr) (f4 : Option V), σ' = [some (.int n), some (.ref a), some (.ref g), some (.ref o), f4] ∧ H' g = some (.lst (bls n.toNat (goF ds i))) ∧ H' o = some (.lst (optL n.toNat (wayF ds i))) ∧ Same H H' ∧ H o = none) ?_ ?_ ?_
  · exact ⟨_, _, _, rfl, by walk_at "h", hon, by walk_at "h", by walk_at "h"⟩
  · rintro i σ' H4 hi ⟨g, o, f4, rfl, hg, ho, e4, fo⟩
    walk_at "x"
    rename_i p H5 fp e5 hp
    refine x_compS1 (src_list (K := K) (a := p) (xs := optL n.toNat (wayF ds (i + 1)))) (fun H' e => SqL.of (e.at hp)) rfl (fun j vs _ => vs = bls j (goF ds (i + 1))) (fun H' _ => rfl) ?_ ?_
    · rintro j x D vs o2 H6 H7 hj hD e6 hv hvl rfl e7 hx
      have hj' : j < n.toNat := by rw [optL_len] at hj; exact hj
      rw [optL_get hj'] at hx; cases hx
      walk_at "x"
      rename_i H8 b8 h8
      refine ⟨⟨_, rfl⟩, by walk_at "h", _, h8, by rw [List.length_append]; exact Nat.succ_le_succ hvl, ?_⟩
      show _ = bls (j + 1) _
      rw [bls_succ, optV_non]
      congr 2
      show V.bl (!(wayF ds (i + 1) j).isNone) = V.bl ((wayF ds (i + 1) j).isSome)
      cases wayF ds (i + 1) j <;> rfl
    · rintro D H6 vs hD e6 hv hvl rfl
      rw [optL_len] at hv
      exact ⟨_, _, _, rfl, hv, by walk_at "h", by walk_at "h", by walk_at "h"⟩
  · rintro σ' H4 ⟨g, o, f4, rfl, hg, ho, e4, fo⟩
    walk_at "x"
    exact k _ _ fo e4 ho
theorem ok_a_ring (T : Txt K mg) : FnOk P w K mg base (CXF P w) 3 T.d_a_ring.a T.d_a_ring.fd ["many", "sheet"] (spRing K) := by
  refine T.d_a_ring.F.okN sc_a_ring (fun vs H Q E h => ?_) (fun cdv A outer s H vs Q E hr h => ?_)
  · obtain ⟨n, a, ds, rfl, _⟩ := h; rfl
  obtain ⟨n, a, ds, rfl, hS, n0, n1, hl, hd, k⟩ := h
  have hdN : ∀ d ∈ ds, DueOk (n.toNat : Int) d := by rw [show (n.toNat : Int) = n by omega]; exact hd
  refine ⟨_, (pss_cons (ps_set (i := 2) sc_a_ring.nd rfl (Or.inr rfl) (pe_call (ok_ways_onward (base := base) T) (hr.mono (by decide)) rfl T.d_ways_onward.m T.d_ways_onward.F.kp T.d_ways_onward.b .nil (passN nox_F) (pa_cons (pv 0) (pa_cons (pv 1) pa_nil))))
 (pss_cons (ps_setC (i := 3) sc_a_ring.nd rfl rfl rfl (pi_range1 rfl T.z_range (pa_cons (pv 0) pa_nil)) (compScope_of (Ni := ["member", "onward"]) (caps := [none, some 2]) (by rfl)) (fun S _ _ _ _ _ => (pg_nameC (gi := 0) S (Or.inl rfl) rfl)) (fun _ _ _ _ _ => (pf_one (pt_cmpR op_notN (pe_ix (show IxR _ (rIx K) from ix_seq) (pv 1) (pv 0) (fun _ _ => rfl)) pe_non (nomark _)))) (fun _ _ _ _ _ => (pv 0)))
 (pss_cons (ps_if (pt_cmpR (show OpR _ (compareOp .Eq) (rEqU K) from op_eqU hr.units) (pv 3) (pe_lst pa_nil) (nomark _))
  (pss_one (ps_ret (pe_lst pa_nil)))
  pss_nil)
 (pss_cons (ps_set (i := 4) sc_a_ring.nd rfl (Or.inl rfl) (pe_lst pa_nil))
 (pss_cons (ps_set (i := 5) sc_a_ring.nd rfl (Or.inl rfl) (pe_ix (show IxR _ (rIx K) from ix_seq) (pv 3) pe_int (fun _ _ => rfl)))
 (pss_cons (ps_while PassesOwn.never (pt_cmpR (show OpR _ (compareOp .NotIn) (rIn K true) from op_notIn_seq) (pv 5) (pv 4) (by with_unfolding_all rfl))
  (pss_cons (ps_expr (show PE _ _ (tBM K _ _ _ _) from pe_bm PySem.F.plainAttrs_list PySem.F.slot_list_append PySem.F.type_list_append mt_append (pv 4) (pa_cons (pv 5) pa_nil)))
 (pss_one (ps_set (i := 5) sc_a_ring.nd rfl (Or.inl rfl) (pe_ix (show IxR _ (rIx K) from ix_seq) (pe_ix (show IxR _ (rIx K) from ix_seq) (pv 1) (pe_ix (show IxR _ (rIx K) from ix_seq) (pv 2) (pv 5) (fun _ _ => rfl)) (fun _ _ => rfl)) pe_int (fun _ _ => rfl))))))
 (pss_one (ps_ret (pe_comp rfl (show PI _ _ _ (iList K _) from pi_list (pe_slice (show SlR _ (rSlL K) from sl_list) (pv 4) (po_some (show PE _ _ (tBM K _ _ _ _) from pe_bm PySem.F.plainAttrs_list PySem.F.slot_list_index PySem.F.type_list_index mt_index (pv 4) (pa_cons (pv 5) pa_nil))) po_none)) (compScope_of (Ni := ["payer", "onward"]) (caps := [none, some 2]) (by rfl)) (fun S _ _ _ _ _ => (pg_nameC (gi := 0) S (Or.inl rfl) rfl)) (fun _ _ _ _ _ => pf_nil) (fun _ _ _ _ _ => (pe_ix (show IxR _ (rIx K) from ix_seq) (pv 1) (pv 0) (fun _ _ => rfl)))))))))))), ?_⟩
  refine x_start (σ0 := [some (.int n), some (.ref a), none, none, none, none]) rfl ?_
  walk_at "x"
  rename_i on H1 fon e1 hon
  refine x_compS1 src_range (fun _ _ => trivial) rfl (fun j vs _ => vs = (natI (goL ds n.toNat j)).map V.int) (fun H' _ => rfl) ?_ ?_
  · rintro j x D vs o2 H6 H7 hj hD e6 hv hvl rfl e7 rfl
    have ej : (0 : Int) + (j : Int) = j := by omega
    have hat : atI (optL n.toNat (wayF ds n.toNat)) ((0 : Int) + (j : Int)) = some (optV (wayF ds n.toNat j)) := atI_lt (by omega) (by rw [show ((0 : Int) + (j : Int)).toNat = j by omega, optL_get hj])
    have es := goL_succ (ds := ds) (n := n.toNat) (i := j)
    walk_at "x"
    · rename_i h H8 b8 h8
      have hsome : (wayF ds n.toNat j).isSome = true := by
        cases e : wayF ds n.toNat j with
        | none => rw [e] at h; exact absurd rfl h
        | some _ => rfl
      rw [if_pos hsome] at es
      rw [ej] at h8
      refine ⟨⟨_, rfl⟩, by walk_at "h", _, h8, by rw [List.length_append]; exact Nat.succ_le_succ hvl, ?_⟩
      show _ = (natI (goL ds n.toNat (j + 1))).map V.int
      rw [es, natI_app, List.map_append]; rfl
    · rename_i h
      have hn : ¬ (wayF ds n.toNat j).isSome = true := by
        cases e : wayF ds n.toNat j with
        | none => simp
        | some i => rw [e] at h; cases h
      rw [if_neg hn, List.append_nil] at es
      exact ⟨⟨_, rfl⟩, by walk_at "h", _, by walk_at "h", by omega, by show _ = (natI (goL ds n.toNat (j + 1))).map V.int; rw [es]⟩
  rintro gl H2 vs fgl e2 hgl hvl rfl
  walk_at "x"
  rename_i l0 H3 fl0 e3 hl0
  by_cases hg : goL ds n.toNat n.toNat = []
  · rw [hg] at hgl
    refine x_eqInts (ns := []) (ms := []) (SqL.of (e3.at hgl)) (SqL.of hl0) rfl ?_
    walk_at "x"
    rename_i l1 H4 fl1 e4 hl1
    refine k _ _ [] (by walk_at "h") (by walk_at "h") hl1 (.inl ⟨rfl, fun m hm => ?_⟩)
    cases e : wayF ds n.toNat m with
    | none => rfl
    | some i =>
      have := mem_goL.mpr ⟨hm, show (wayF ds n.toNat m).isSome = true by rw [e]; rfl⟩
      rw [hg] at this; cases this
  obtain ⟨g0, gs, eg⟩ : ∃ g0 gs, goL ds n.toNat n.toNat = g0 :: gs := by
    cases e : goL ds n.toNat n.toNat with
    | nil => exact absurd e hg
    | cons x xs => exact ⟨x, xs, rfl⟩
  have hg0 : g0 < n.toNat ∧ wayF ds n.toNat g0 ≠ none := by
    have := mem_goL.mp (show g0 ∈ goL ds n.toNat n.toNat by rw [eg]; simp)
    exact ⟨this.1, fun z => by rw [z] at this; cases this.2⟩
  refine x_eqNilF (SqL.of (e3.at hgl)) (SqL.of hl0) (by rw [eg]; exact fun z => nomatch z) ?_
  have hat0 : atI ((natI (goL ds n.toNat n.toNat)).map V.int) 0 = some (.int g0) := atI_lt (by decide) (by rw [eg]; rfl)
  walk_at "x"
  rename_i pa H4 fpa e4 hpa
  obtain ⟨xs, hSx, hTx⟩ := hS
  refine ⟨fun m σ H' => ∃ (ms : List Nat) (x : Nat), σ = [some (.int n), some (.ref a), some (.ref on), some (.ref gl), some (.ref pa), some (.int (x : Int))] ∧ H' pa = some (.lst ((natI ms).map V.int)) ∧ Walked ds n.toNat ms x ∧ Same H3 H' ∧ m = n.toNat - ms.length, ⟨_, [], g0, rfl, hpa, ⟨List.nodup_nil, (fun _ h => nomatch h), hg0, fun i m h => nomatch h⟩, e4, rfl⟩, ?_⟩
  rintro m σ H5 ⟨ms, x, rfl, hp5, hW, e5, rfl⟩
  have hlen := nodup_le n.toNat ms hW.nd fun y hy => (hW.ok y hy).1
  obtain ⟨j, d, w1, w2, w3, w4, w5, w6, w7, w8⟩ := next_ok hdN hW.at'.1 hW.at'.2
  have hat1 : atI (optL n.toNat (wayF ds n.toNat)) (x : Int) = some (.int (j : Int)) := atI_nat (by rw [optL_get hW.at'.1, w1]; rfl)
  have eH5 : Same H H5 := e1.trans (e2.trans (e3.trans e5))
  obtain ⟨c, hc1, hc2⟩ := (hTx.same eH5).getI w2
  have hc' : H5 c = some (.tup [.int d.p, .int d.q, .int d.r, .int d.a]) := hc2
  have hat2 : atI xs (j : Int) = some (.ref c) := atI_nat hc1
  have hmap : ((natI ms).map V.int).length ≤ 100000 := by rw [List.length_map, natI_len]; omega
  have non : on ≠ pa := by walk_at "h"
  have hon5 : H5 on = some (.lst (optL n.toNat (wayF ds n.toNat))) := e5.at (e3.at (e2.at hon))
  have fpaH : H pa = none := Same.none fpa (e1.trans (e2.trans e3))
  walk_at "x"
  · rename_i h
    have hx : x ∉ ms := fun z => h (natI_mem.mpr z)
    have W2 := hW.step hdN hx
    refine ⟨fun σ' H' => ∃ (ms' : List Nat) (x' : Nat), σ' = [some (.int n), some (.ref a), some (.ref on), some (.ref gl), some (.ref pa), some (.int (x' : Int))] ∧ H' pa = some (.lst ((natI ms').map V.int)) ∧ Walked ds n.toNat ms' x' ∧ Same H3 H' ∧ ms.length < ms'.length, ?_, ?_⟩
    · rintro σ' H' ⟨ms', x', rfl, h1, h2, h3, h4⟩
      have := nodup_le n.toNat ms' h2.nd fun y hy => (h2.ok y hy).1
      exact ⟨_, by omega, ms', x', rfl, h1, h2, h3, rfl⟩
    · walk_at "x"
      rename_i H6 b6 h6
      rw [snoc_ints] at h6
      refine ⟨ms ++ [x], nextM ds n.toNat x, by rw [← w5], by rw [natI_app]; exact h6, W2, by walk_at "h", by rw [List.length_append]; exact Nat.lt_succ_self _⟩
  · rename_i h
    have hx : x ∈ ms := natI_mem.mp h
    obtain ⟨i, hi, ei⟩ := List.getElem_of_mem hx
    have hi' : ms[i]? = some x := by rw [List.getElem?_eq_getElem hi, ei]
    have ndI : (natI ms).Nodup := List.pairwise_map.mpr (List.Pairwise.imp (fun hab e => hab (by omega)) hW.nd)
    refine x_index (by walk_at "h") (natI_get hi') (first_at ndI (natI_get hi')) (by rw [natI_len]; omega) ?_
    walk_at "x"
    rename_i cl H6 fcl e6 hcl
    rw [cut_from (by rw [natI_len]; omega)] at hcl
    have hon6 : H6 on = some (.lst (optL n.toNat (wayF ds n.toNat))) := e6.at hon5
    refine x_compS1 (src_list (K := K) (a := cl) (xs := ((natI ms).drop i).map V.int)) (fun H' e => SqL.of (e.at hcl)) rfl (fun u vs _ => vs = (((ms.drop i).take u).map (dueOn ds n.toNat)).map V.int) (fun H' _ => rfl) ?_ ?_
    · rintro u y D vs o H7 H8 hu hD e7 hv hvl rfl e8 hy
      have hu' : u < (ms.drop i).length := by
        rw [List.length_map, List.length_drop, natI_len] at hu
        rw [List.length_drop]; exact hu
      have hdl : (ms.drop i).length ≤ 100000 := by rw [List.length_drop]; omega
      obtain ⟨mu, hmu⟩ := lt_some hu'
      have hmm := List.mem_of_mem_drop (List.mem_of_getElem? hmu)
      obtain ⟨j2, d2, v1, _, _, _, _, _, _, v8⟩ := next_ok hdN (hW.ok mu hmm).1 (hW.ok mu hmm).2
      have ey : y = .int (mu : Int) := by
        have : (((natI ms).drop i).map V.int)[u]? = some (.int (mu : Int)) := by
          rw [List.getElem?_map, List.getElem?_drop]
          rw [List.getElem?_drop] at hmu
          rw [natI_get hmu]; rfl
        rw [this] at hy; exact (Option.some.inj hy).symm
      subst ey
      have hat3 : atI (optL n.toNat (wayF ds n.toNat)) (mu : Int) = some (.int (dueOn ds n.toNat mu)) := atI_nat (by rw [optL_get (hW.ok mu hmm).1, v1, v8]; rfl)
      have hon8 : H8 on = some (.lst (optL n.toNat (wayF ds n.toNat))) := e8.at (e7.at hon6)
      walk_at "x"
      rename_i H9 b9 h9
      refine ⟨⟨_, rfl⟩, by walk_at "h", _, h9, by rw [List.length_append]; exact Nat.succ_le_succ hvl, ?_⟩
      show _ = (((ms.drop i).take (u + 1)).map (dueOn ds n.toNat)).map V.int
      rw [take_snoc hmu, List.map_append, List.map_append]; rfl
    · rintro D H7 vs hD e7 hv hvl rfl
      rw [show (((natI ms).drop i).map V.int).length = (ms.drop i).length by rw [List.length_map, List.length_drop, List.length_drop, natI_len], List.take_length] at hv
      exact k _ _ _ (Same.none hD (eH5.trans e6)) (eH5.trans (e6.trans e7)) hv (hW.ring hi')

theorem ok_amounts_of (T : Txt K mg) : FnOk P w K mg base (CXF P w) 1 T.d_amounts_of.a T.d_amounts_of.fd ["sheet"] (spAmountsOf K) := by
  refine T.d_amounts_of.F.okN sc_amounts_of (fun vs H Q E h => ?_) (fun cdv A outer s H vs Q E hr h => ?_)
  · obtain ⟨a, ds, rfl, _⟩ := h; rfl
  obtain ⟨a, ds, rfl, ⟨xs, hS, hT⟩, h1, k⟩ := h
  have hxl := hT.length
  refine ⟨_, (pss_one (ps_ret (pe_comp rfl (show PI _ _ _ (iList K _) from pi_list (pv 0)) (compScope_of (Ni := ["due"]) (caps := [none]) (by rfl)) (fun S _ _ _ _ _ => (pg_nameC (gi := 0) S (Or.inl rfl) rfl)) (fun _ _ _ _ _ => pf_nil) (fun _ _ _ _ _ => (pe_ix (show IxR _ (rIx K) from ix_seq) (pv 0) pe_int (fun _ _ => rfl)))))), ?_⟩
  refine x_start (σ0 := [some (.ref a)]) rfl ?_
  walk_at "x"
  refine x_compS1 (src_list (K := K) (a := a) (xs := xs)) (fun H' e => e.seq hS) rfl (fun i vs _ => vs = ((ds.take i).map Due.a).map V.int) (fun H' _ => rfl) ?_ ?_
  · rintro i x D vs o H3 H4 hi hD e3 hv hvl rfl e4 hx
    obtain ⟨b, d, rfl, hdi, hb⟩ := (hT.same (e3.trans e4)).get hx
    have hb' : H4 b = some (.tup [.int d.p, .int d.q, .int d.r, .int d.a]) := hb
    walk_at "x"
    rename_i H6 b6 h6
    exact ⟨⟨_, rfl⟩, by walk_at "h", _, h6, by rw [List.length_append]; exact Nat.succ_le_succ hvl, by show _ = ((ds.take (i + 1)).map Due.a).map V.int; rw [take_snoc hdi, List.map_append, List.map_append]; rfl⟩
  · rintro D H3 vs hD e3 hv hvl rfl
    rw [hxl, List.take_length] at hv
    exact k D H3 hD e3 hv
theorem ok_with_amounts (T : Txt K mg) : FnOk P w K mg base (CXF P w) 1 T.d_with_amounts.a T.d_with_amounts.fd ["sheet", "amounts"] (spWith K) := by
  refine T.d_with_amounts.F.okN sc_with_amounts (fun vs H Q E h => ?_) (fun cdv A outer s H vs Q E hr h => ?_)
  · obtain ⟨a, b, ds, ms, rfl, _⟩ := h; rfl
  obtain ⟨a, b, ds, ms, rfl, ⟨xs, hS, hT⟩, hM, hl, h1, k⟩ := h
  have hxl := hT.length
  refine ⟨_, (pss_one (ps_ret (pe_comp rfl (show PI _ _ _ (iEnum K _) from pi_enum rfl T.z_enumerate (pa_cons (pv 0) pa_nil)) (compScope_of (Ni := ["number", "due", "amounts"]) (caps := [none, none, some 1]) (by rfl)) (fun S _ _ _ _ _ => (show PG _ _ (gTup K 2 _) from pg_tup (n := 2) rfl (pgs_cons (pg_nameC (gi := 0) S (Or.inl rfl) rfl) (pgs_cons (pg_nameC (gi := 1) S (Or.inl rfl) rfl) pgs_nil)))) (fun _ _ _ _ _ => pf_nil) (fun _ _ _ _ _ => (pe_tup (pa_cons (pe_ix (show IxR _ (rIx K) from ix_seq) (pv 1) pe_int (fun _ _ => rfl)) (pa_cons (pe_ix (show IxR _ (rIx K) from ix_seq) (pv 1) pe_int (fun _ _ => rfl)) (pa_cons (pe_ix (show IxR _ (rIx K) from ix_seq) (pv 1) pe_int (fun _ _ => rfl)) (pa_cons (pe_ix (show IxR _ (rIx K) from ix_seq) (pv 2) (pv 0) (fun _ _ => rfl)) pa_nil))))))))), ?_⟩
  refine x_start (σ0 := [some (.ref a), some (.ref b)]) rfl ?_
  walk_at "x"
  refine x_compS2 (src_enum (K := K) (a := a) (xs := xs)) (fun H' e => e.seq hS) rfl (fun i vs H' => IsTs dueV H' vs ((withF ds fun i => ms.getD i 0).take i)) (fun H' _ => trivial) ?_ ?_
  · rintro i x D vs o o' H3 H4 hi hD e3 hv hvl ht e4 ⟨t, v, rfl, hx, htt⟩
    obtain ⟨c, d, rfl, hdi, hc⟩ := (hT.same (e3.trans e4)).get hx
    have hc' : H4 c = some (.tup [.int d.p, .int d.q, .int d.r, .int d.a]) := hc
    have hi' : i < ms.length := by omega
    have hat : atI (ms.map V.int) (i : Int) = some (.int (ms.getD i 0)) := ints_at (by omega) (by rw [Int.toNat_natCast]; exact getD_get hi')
    walk_at "x"
    rename_i t H5 ft e5 h5 H6 b6 h6
    have h5' : H5 t = some (.tup (dueV ⟨d.p, d.q, d.r, ms.getD i 0⟩)) := h5
    refine ⟨⟨_, _, rfl⟩, by walk_at "h", _, h6, by rw [List.length_append]; exact Nat.succ_le_succ hvl, ?_⟩
    show IsTs dueV H6 _ (List.take (i + 1) _)
    rw [withF_snoc hdi]
    exact IsTs.app (f := dueV) (b6.tup h5') (by walk_at "h")
  · rintro D H3 vs hD e3 hv hvl ht
    rw [hxl, ← withF_len (m := fun i => ms.getD i 0), List.take_length] at ht
    exact k D H3 vs hD e3 hv ht
theorem ok_cut (T : Txt K mg) : FnOk P w K mg base (CXF P w) 4 T.d_cut.a T.d_cut.fd ["many", "sheet"] (spCut K) := by
  refine T.d_cut.F.okN sc_cut (fun vs H Q E h => ?_) (fun cdv A outer s H vs Q E hr h => ?_)
  · obtain ⟨n, a, es, rfl, _⟩ := h; rfl
  obtain ⟨n, a, es, rfl, hS, n0, n1, hl, hd, k⟩ := h
  have hdN : ∀ d ∈ es, DueOk (n.toNat : Int) d := by rw [show (n.toNat : Int) = n by omega]; exact hd
  refine ⟨_, (pss_cons (ps_set (i := 2) sc_cut.nd rfl (Or.inr rfl) (pe_call (ok_amounts_of (base := base) T) (hr.mono (by decide)) rfl T.d_amounts_of.m T.d_amounts_of.F.kp T.d_amounts_of.b .nil (passN nox_F) (pa_cons (pv 1) pa_nil)))
 (pss_cons (ps_set (i := 3) sc_cut.nd rfl (Or.inl rfl) (pe_lst pa_nil))
 (pss_cons (ps_set (i := 4) sc_cut.nd rfl (Or.inl rfl) (pe_call (ok_a_ring (base := base) T) (hr.mono (by decide)) rfl T.d_a_ring.m T.d_a_ring.F.kp T.d_a_ring.b .nil (passN nox_F) (pa_cons (pv 0) (pa_cons (pv 1) pa_nil))))
 (pss_cons (ps_while PassesOwn.never (pt_cmpR (show OpR _ (compareOp .NotEq) (rNeU K) from op_neU hr.units) (pv 4) (pe_lst pa_nil) (nomark _))
  (pss_cons (ps_set (i := 5) sc_cut.nd rfl (Or.inl rfl) (pe_callB (show CallR _ _ (rMinL K) from call_minL rfl) rfl T.z_min BT.min (pa_cons (pe_comp rfl (show PI _ _ _ (iList K _) from pi_list (pv 4)) (compScope_of (Ni := ["number", "left"]) (caps := [none, some 2]) (by rfl)) (fun S _ _ _ _ _ => (pg_nameC (gi := 0) S (Or.inl rfl) rfl)) (fun _ _ _ _ _ => pf_nil) (fun _ _ _ _ _ => (pe_ix (show IxR _ (rIx K) from ix_seq) (pv 1) (pv 0) (fun _ _ => rfl)))) pa_nil)))
 (pss_cons (ps_for PassesOwn.never rfl (show PI _ _ _ (iList K _) from pi_list (pv 4)) (pg_name (i := 6) sc_cut.nd rfl (Or.inl rfl))
  (pss_one (ps_augS (pv 2) (pv 6) (show PGet _ (rIxL K) from get_listL) (pv 5) ip_sub set_list)))
 (pss_cons (ps_expr (show PE _ _ (tBM K _ _ _ _) from pe_bm PySem.F.plainAttrs_list PySem.F.slot_list_append PySem.F.type_list_append mt_append (pv 3) (pa_cons (pe_tup (pa_cons (pv 4) (pa_cons (pv 5) pa_nil))) pa_nil)))
 (pss_one (ps_set (i := 4) sc_cut.nd rfl (Or.inl rfl) (pe_call (ok_a_ring (base := base) T) (hr.mono (by decide)) rfl T.d_a_ring.m T.d_a_ring.F.kp T.d_a_ring.b .nil (passN nox_F) (pa_cons (pv 0) (pa_cons (pe_call (ok_with_amounts (base := base) T) (hr.mono (by decide)) rfl T.d_with_amounts.m T.d_with_amounts.F.kp T.d_with_amounts.b .nil (passN nox_F) (pa_cons (pv 1) (pa_cons (pv 2) pa_nil))) pa_nil)))))))))
 (pss_one (ps_ret (pe_tup (pa_cons (pv 2) (pa_cons (pv 3) pa_nil))))))))), ?_⟩
  refine x_start (σ0 := [some (.int n), some (.ref a), none, none, none, none, none]) rfl ?_
  walk_at "x"
  rename_i l H1 fl e1 hl1 c H2 fc e2 hc2 r H3 rs fr e3 hr3 hR
  rw [amF_vec] at hl1
  have flH : H l = none := fl
  have fcH : H c = none := by walk_at "h"
  have nlc : l ≠ c := fun z => by rw [z] at hl1; rw [hl1] at fc; cases fc
  refine ⟨fun m σ H' => CutInv es n a l c H m σ H', ⟨_, r, rs, [], fun _ => amF es, [], _, _, rfl, by walk_at "h", by walk_at "h", hr3, ?_, ⟨rfl, fun t c h => nomatch h⟩, (fun t c h => nomatch h), (fun _ _ => rfl), by rw [amF_self]; exact hR, by have := posC_bnd es.length (amF es); simpa using this, by walk_at "h", rfl⟩, ?_⟩
  · have n1 : r ≠ l := by walk_at "h"
    have n2 : r ≠ c := by walk_at "h"
    simp [n1, n2]
  rintro m σ H4 ⟨r, rs, vs, L, cs, f5, f6, rfl, hl4, hc4, hr4, hrn, hI, hC, hL0, hR4, hcnt, e4, rfl⟩
  have hdL := hC.ok hdN hL0 (Nat.le_refl _)
  walk_at "x"
  rename_i z H5 fz e5 hz
  rcases hR4.cases with ⟨rfl, hno⟩ | ⟨ms, R, ers⟩
  · refine x_neInts (ns := []) (ms := []) (SqL.of (e5.at hr4)) (SqL.of hz) rfl ?_
    walk_at "x"
    refine x_tupN (by first | decide | simp) fun p H6 fp e6 hp6 => ?_
    walk_at "x"
    exact k p l c H6 vs L cs (by walk_at "h") flH fcH (by walk_at "h") hp6 (by walk_at "h") (by walk_at "h") (hI.same (e5.trans e6)) hC hL0 hR4 (by omega)
  subst ers
  obtain ⟨g, eg⟩ : ∃ g, L cs.length = g := ⟨_, rfl⟩
  rw [eg] at hdL hl4 hR4 hcnt R hr4
  have hne : ms.map (dueOn (withF es g) n.toNat) ≠ [] := fun z => R.ne (List.map_eq_nil_iff.mp z)
  refine x_neNilT (SqL.of (e5.at hr4)) (SqL.of hz) hne ?_
  have hml := nodup_le n.toNat ms R.nd fun y hy => (R.ok y hy).1
  have hgb : ∀ i, i < es.length → 0 ≤ g i ∧ g i ≤ amF es i := by rw [← eg]; exact hC.bnd hdN hL0 _ (Nat.le_refl _)
  walk_at "x"
  refine ⟨fun σ' H' => ∃ q, q < posC es.length (L cs.length) ∧ CutInv es n a l c H q σ' H', fun σ' H' ⟨q, h1, h2⟩ => ⟨q, h1, h2⟩, ?_⟩
  walk_at "x"
  refine x_compS1 (src_list (K := K) (a := r) (xs := (ms.map (dueOn (withF es g) n.toNat)).map V.int)) (fun H' e => SqL.of (e.at (e5.at hr4))) rfl (fun i vs _ => vs = ((ms.take i).map fun m => g (numN (withF es g) n.toNat m)).map V.int) (fun H' _ => rfl) ?_ ?_
  · rintro i x D vs' o H6 H7 hi hD e6 hv hvl rfl e7 hx
    rw [List.length_map, List.length_map] at hi
    obtain ⟨m, hm⟩ := lt_some hi
    obtain ⟨e, u1, u2, u3, u4, u5⟩ := R.num hdL (List.mem_of_getElem? hm)
    have hj := (List.getElem?_eq_some_iff.mp u1).1
    have ex : x = .int (numN (withF es g) n.toNat m : Int) := by
      rw [List.getElem?_map, List.getElem?_map, hm] at hx
      rw [← u5]; exact (Option.some.inj hx).symm
    subst ex
    have hl7 : H7 l = some (.lst ((vec es.length g).map V.int)) := by walk_at "h"
    walk_at "x"
    rename_i H8 b8 h8
    refine ⟨⟨_, rfl⟩, by walk_at "h", _, h8, by rw [List.length_append]; exact Nat.succ_le_succ hvl, ?_⟩
    show _ = ((ms.take (i + 1)).map fun m => g (numN (withF es g) n.toNat m)).map V.int
    rw [take_snoc hm, List.map_append, List.map_append]; rfl
  rintro ml H6 vs' fml e6 hmv hmvl rfl
  rw [List.length_map, List.length_map, List.take_length] at hmv
  have hne2 : (ms.map fun m => g (numN (withF es g) n.toNat m)) ≠ [] := fun z => R.ne (List.map_eq_nil_iff.mp z)
  walk_at "x"
  rename_i f hf1 hf2
  obtain ⟨m0, hm0, ef⟩ := List.mem_map.mp hf1
  have hle : ∀ m ∈ ms, f ≤ g (numN (withF es g) n.toNat m) := fun m hm => hf2 _ (List.mem_map.mpr ⟨m, hm, rfl⟩)
  have eH6 : Same H H6 := by walk_at "h"
  refine x_forL (xs := (ms.map (dueOn (withF es g) n.toNat)).map V.int) (fun i σ' H' => ∃ f6 : Option V, σ' = [some (.int n), some (.ref a), some (.ref l), some (.ref c), some (.ref r), some (.int f), f6] ∧ H' l = some (.lst ((vec es.length (subF g ((ms.take i).map (numN (withF es g) n.toNat)) f)).map V.int)) ∧ H' c = some (.lst vs) ∧ H' r = some (.lst ((ms.map (dueOn (withF es g) n.toNat)).map V.int)) ∧ IsCuts es n.toNat L [l, c] cs H' vs ∧ Same H H') ⟨_, rfl, ?_, e6.at (e5.at hc4), e6.at (e5.at hr4), hI.same (e5.trans e6), eH6⟩ ?_ ?_ ?_
  · have e0 : vec es.length (subF g ((ms.take 0).map (numN (withF es g) n.toNat)) f) = vec es.length g := vec_congr fun i _ => subF_out (by simp)
    rw [e0]
    exact e6.at (e5.at hl4)
  · rintro i σ' H' _ ⟨_, _, _, _, h, _⟩; exact SqL.of h
  · rintro i x σ' H7 hx ⟨f6', rfl, hl7, hc7, hr7, hI7, e7⟩
    have hi : i < ms.length := by
      have := (List.getElem?_eq_some_iff.mp hx).1
      rwa [List.length_map, List.length_map] at this
    obtain ⟨m, hm⟩ := lt_some hi
    obtain ⟨e, u1, u2, u3, u4, u5⟩ := R.num hdL (List.mem_of_getElem? hm)
    have hj := (List.getElem?_eq_some_iff.mp u1).1
    have ex : x = .int (numN (withF es g) n.toNat m : Int) := by
      rw [List.getElem?_map, List.getElem?_map, hm] at hx
      rw [← u5]; exact (Option.some.inj hx).symm
    subst ex
    have hnot := R.num_new hdL hm
    have hrl : r ≠ l := fun z => hrn (by simp [z])
    walk_at "x"
    rename_i H8 b8 h8
    refine ⟨_, rfl, ?_, b8.lst hc7 nlc.symm, b8.lst hr7 hrl, hI7.but b8 (by simp), by walk_at "h"⟩
    rw [h8]
    congr 3
    refine vec_congr fun t ht => ?_
    rw [take_snoc hm, List.map_append]
    refine Eq.trans ?_ (subF_snoc hnot t).symm
    rw [Int.toNat_natCast, subF_out hnot]
  · rintro σ' H7 ⟨f6', rfl, hl7, hc7, hr7, hI7, e7⟩
    rw [List.length_map, List.length_map, List.take_length] at hl7
    have hcs := hI.1
    obtain ⟨g', eg'⟩ : ∃ g', g' = subF g (ms.map (numN (withF es g) n.toNat)) f := ⟨_, rfl⟩
    rw [← eg'] at hl7
    have CA : CutAt es n.toNat (L cs.length) ms f g' := by rw [eg, eg']; exact ⟨R, hle, ⟨m0, hm0, ef.symm⟩, fun _ => rfl⟩
    have hdL2 : ∀ d ∈ withF es (L cs.length), DueOk (n.toNat : Int) d := by rw [eg]; exact hdL
    have hcnt2 := CA.cnt hdL2 (fun i hi => by rw [eg]; exact (hgb i hi).1)
    have hgb' : ∀ i, i < es.length → 0 ≤ g' i ∧ g' i ≤ amF es i := fun i hi => by
      have h1 := CA.bnd hdL2 (i := i) (by rw [eg]; exact (hgb i hi).1)
      have h2 := hgb i hi
      rw [eg] at h1; omega
    walk_at "x"
    refine x_tupN (by first | decide | simp) fun tp H8 ftp e8 htp => ?_
    have hc8 := e8.at hc7
    have hvl8 : vs.length ≤ 1000 := by omega
    walk_at "x"
    rename_i H9 b9 h9
    have e9 : Same H H9 := by walk_at "h"
    have hl9 : H9 l = some (.lst ((vec es.length g').map V.int)) := b9.lst (e8.at hl7) nlc
    have hrc : r ≠ c := fun z => hrn (by simp [z])
    have hdv : ∀ d ∈ withF es (fun i => (vec es.length g').getD i 0), DueOk n d := by
      rw [← (left_vec es g').2]
      refine withF_ok hd fun i hi => ?_
      obtain ⟨e, he⟩ := lt_some hi
      obtain ⟨_, _, _, _, _, _, _, a0, a1⟩ := hd e (List.mem_of_getElem? he)
      have := hgb' i hi
      rw [amF_get he] at this
      omega
    have hwl : (withF es (fun i => (vec es.length g').getD i 0)).length = es.length := withF_len
    have hvl9 : (vec es.length g').length = es.length := vec_len
    walk_at "x"
    rename_i ws H10 ys fws e10 hws hys r2 H11 rs2 fr2 e11 hr2 hR2
    rw [← (left_vec es g').2] at hR2
    obtain ⟨L', eL'⟩ : ∃ L' : Nat → Nat → Int, L' = fun t => if t = cs.length + 1 then g' else L t := ⟨_, rfl⟩
    have hLn : L' (cs ++ [(ms, f)]).length = g' := by rw [eL', List.length_append]; exact if_pos rfl
    have hLo : ∀ t, t < cs.length + 1 → L' t = L t := by intro t ht; rw [eL']; exact if_neg (by omega)
    have hC' : Cuts es n.toNat L' (cs ++ [(ms, f)]) := by rw [eL']; exact hC.snoc CA
    have e1011 := e10.trans e11
    have hI11 : IsCuts es n.toNat L' [l, c] cs H11 vs := (((hI7.congr fun t ht => (hLo t (by omega)).symm).same e8).but b9 (by simp)).same e1011
    have n1 : r2 ≠ l := fun z => by
      have := e10.at hl9
      rw [← z, fr2] at this; cases this
    have n2 : r2 ≠ c := fun z => by
      have := e10.at h9
      rw [← z, fr2] at this; cases this
    rw [eg] at hcnt2
    refine ⟨posC es.length g', by rw [eg]; exact hcnt2, r2, rs2, vs ++ [.ref tp], L', cs ++ [(ms, f)], _, _, rfl, by rw [hLn]; exact e1011.at hl9, e1011.at h9, hr2, by simp [n1, n2], hI11.snoc (e1011.at (b9.tup htp)) ?_ hrn, hC', fun i hi => by rw [hLo 0 (by omega)]; exact hL0 i hi, by rw [hLn]; exact hR2, by rw [hLn, List.length_append]; show cs.length + 1 + _ ≤ _; omega, e9.trans e1011, by rw [hLn]⟩
    rw [hLo cs.length (by omega), eg]
    exact e1011.at (b9.lst (e8.at hr7) hrc)

theorem ok__law_cell (T : Txt K mg) : FnOk P w K mg base (CXF P w) 1 T.d__law_cell.a T.d__law_cell.fd ["_law_script", "_law_k"] (spCell K) := by
  refine T.d__law_cell.F.okN sc__law_cell (fun vs H Q E h => ?_) (fun cdv A outer s H vs Q E hr h => ?_)
  · obtain ⟨a, ns, k, rfl, _⟩ := h; rfl
  obtain ⟨a, ns, k, rfl, hS, h0, q⟩ := h
  refine ⟨_, (pss_cons (ps_if (pt_cmpR op_lt (pv 1) (pe_callB (show CallR _ _ (rLen K) from call_lenU) rfl T.z_len BT.len (pa_cons (pv 0) pa_nil)) (nomark _))
  (pss_one (ps_ret (pe_ix (show IxR _ (rIx K) from ix_seq) (pv 0) (pv 1) (fun _ _ => rfl))))
  pss_nil)
 (pss_one (ps_ret pe_int))), ?_⟩
  refine x_start (σ0 := [some (.ref a), some (.int k)]) rfl ?_
  walk_at "x"
  · rename_i h
    exact x_ixL hS (cell_in h0 h) q
  · rename_i h
    rw [cell_out h] at q
    exact q
theorem ok__law_whole (T : Txt K mg) : FnOk P w K mg base (CXF P w) 1 T.d__law_whole.a T.d__law_whole.fd ["_law_thing"] spWhole := by
  refine T.d__law_whole.F.okN sc__law_whole (fun vs H Q E h => ?_) (fun cdv A outer s H vs Q E hr h => ?_)
  · obtain ⟨x, rfl, _⟩ := h; rfl
  obtain ⟨i, rfl, q⟩ := h
  refine ⟨_, (pss_one (ps_ret (pe_and (pe_callB (show CallR _ _ (rIsiU K) from call_isiU) rfl T.z_isinstance BT.isinstance (pa_cons (pv 0) (pa_cons (pe_bltn (v := .ty "int") rfl T.z_int BT.int rfl) pa_nil))) (pe_one (show PE _ _ (tNotU K _) from pe_notU (pe_callB (show CallR _ _ (rIsiU K) from call_isiU) rfl T.z_isinstance BT.isinstance (pa_cons (pv 0) (pa_cons (pe_bltn (v := .ty "bool") rfl T.z_bool BT.bool rfl) pa_nil)))))))), ?_⟩
  refine x_start (σ0 := [some (.int i)]) rfl ?_
  walk_at "x"
  exact q
theorem ok__law_wholes (T : Txt K mg) : FnOk P w K mg base (CXF P w) 2 T.d__law_wholes.a T.d__law_wholes.fd ["_law_told", "_law_size"] (spWholes K) := by
  refine T.d__law_wholes.F.okN sc__law_wholes (fun vs H Q E h => ?_) (fun cdv A outer s H vs Q E hr h => ?_)
  · obtain ⟨a, ns, n, rfl, _⟩ := h; rfl
  obtain ⟨a, ns, n, rfl, hS, q⟩ := h
  have hl : (ns.map V.int).length = ns.length := List.length_map ..
  refine ⟨_, (pss_cons (ps_if (PW.pt (pw_or (pt_not (show PT _ _ (tTru K _) from pt_truthU (pe_callB (show CallR _ _ (rIsiU K) from call_isiU) rfl T.z_isinstance BT.isinstance (pa_cons (pv 0) (pa_cons (pe_bltn (v := .ty "list") rfl T.z_list BT.list rfl) pa_nil))) (fun _ => rfl))) (pw_or1 (pt_cmpR (show OpR _ (compareOp .NotEq) (rNeU K) from op_neU hr.units) (pe_callB (show CallR _ _ (rLen K) from call_lenU) rfl T.z_len BT.len (pa_cons (pv 0) pa_nil)) (pv 1) (nomark _)))))
  (pss_one (ps_ret pe_bl))
  pss_nil)
 (pss_cons (ps_for PassesOwn.never rfl (show PI _ _ _ (iList K _) from pi_list (pv 0)) (pg_name (i := 2) sc__law_wholes.nd rfl (Or.inl rfl))
  (pss_one (ps_if (pt_not (show PT _ _ (tTru K _) from pt_truthU (pe_call (ok__law_whole (base := base) T) (hr.mono (by decide)) rfl T.d__law_whole.m T.d__law_whole.F.kp T.d__law_whole.b .nil (passN nox_F) (pa_cons (pv 2) pa_nil)) (fun _ => rfl)))
  (pss_one (ps_ret pe_bl))
  pss_nil)))
 (pss_one (ps_ret pe_bl)))), ?_⟩
  refine x_start (σ0 := [some (.ref a), some (.int n), none]) rfl ?_
  walk_at "x"
  · rename_i h
    rw [decide_eq_false (by omega)] at q
    exact q
  · rename_i h
    rw [decide_eq_true (by omega)] at q
    refine x_forL (xs := ns.map V.int) (fun i σ' H' => ∃ f2, σ' = [some (.ref a), some (.int n), f2] ∧ H' = H) ⟨_, rfl, rfl⟩ ?_ ?_ ?_
    · rintro i σ' H' _ ⟨_, _, rfl⟩; exact SqL.of hS
    · rintro i x σ' H' hx ⟨f2, rfl, rfl⟩
      rw [List.getElem?_map] at hx
      cases hn : ns[i]? with
      | none => rw [hn] at hx; cases hx
      | some m =>
        rw [hn] at hx; cases hx
        walk_at "x"
        exact ⟨_, rfl, rfl⟩
    · rintro σ' H3 ⟨f2, rfl, rfl⟩
      walk_at "x"
      exact q
theorem ok__law_drawn (T : Txt K mg) : FnOk P w K mg base (CXF P w) 2 T.d__law_drawn.a T.d__law_drawn.fd ["_law_script", "_law_k", "_law_seed"] (spDrawn K) := by
  refine T.d__law_drawn.F.okN sc__law_drawn (fun vs H Q E h => ?_) (fun cdv A outer s H vs Q E hr h => ?_)
  · obtain ⟨a, ns, k, seed, rfl, _⟩ := h; rfl
  obtain ⟨a, ns, k, seed, rfl, hS, k0, k1, s0, s1, q⟩ := h
  refine ⟨_, (pss_one (ps_ret (pe_op (show OpR _ (binaryOp .Add) (rAddU K) from op_addU) pe_int (pe_op op_modU (pe_op (show OpR _ (binaryOp .Add) (rAddU K) from op_addU) (pe_call (ok__law_cell (base := base) T) (hr.mono (by decide)) rfl T.d__law_cell.m T.d__law_cell.F.kp T.d__law_cell.b .nil (passN nox_F) (pa_cons (pv 0) (pa_cons (pv 1) pa_nil))) (pe_op op_mulU (pv 2) (pe_op (show OpR _ (binaryOp .Add) (rAddU K) from op_addU) (pe_op op_mulU (pv 1) (pv 1)) pe_int))) (pe_op op_pow pe_int pe_int))))), ?_⟩
  refine x_start (σ0 := [some (.ref a), some (.int k), some (.int seed)]) rfl ?_
  have z1 : sz k ≤ 200 := sz200 (by omega) (by omega)
  have z2 : sz (k * k + 1) ≤ 401 := sz_add (n := 400) (sz_mul z1 z1) (Nat.le_trans (sz_of (n := 1) (by decide)) (by decide))
  walk_at "x"
  exact q _ (by omega) (by omega)
theorem mod_nn {x m : Int} (h : 0 < m) : 0 ≤ x % m := Int.emod_nonneg _ (by omega)
theorem mod_le {x m b : Int} (h : 0 < m) (hb : m ≤ b + 1) : x % m ≤ b := by have := Int.emod_lt_of_pos x h; omega
theorem sub_nn {x m c : Int} (h : 0 < m) (hb : m ≤ c + 1) : 0 ≤ c - x % m := by have := Int.emod_lt_of_pos x h; omega
theorem sub_le' {x m c : Int} (h : 0 < m) : c - x % m ≤ c := by have := Int.emod_nonneg x (b := m) (by omega); omega
theorem ok__law_amount (T : Txt K mg) : FnOk P w K mg base (CXF P w) 1 T.d__law_amount.a T.d__law_amount.fd ["_law_number", "_law_seed"] spAmount := by
  refine T.d__law_amount.F.okN sc__law_amount (fun vs H Q E h => ?_) (fun cdv A outer s H vs Q E hr h => ?_)
  · obtain ⟨i, seed, rfl, _⟩ := h; rfl
  obtain ⟨i, seed, rfl, i0, i1, s0, s1, q⟩ := h
  have zi : sz i ≤ 200 := sz200 (by omega) (by omega)
  refine ⟨_, (pss_cons (ps_set (i := 2) sc__law_amount.nd rfl (Or.inl rfl) (pe_op op_modU (pe_op op_modU (pe_op op_mulU (pv 0) pe_int) pe_int) pe_int))
 (pss_cons (ps_if (pt_cmpR (show OpR _ (compareOp .Eq) (rEqU K) from op_eqU hr.units) (pv 2) pe_int (nomark _))
  (pss_one (ps_ret (pe_op op_modU (pe_op op_modU (pe_op op_mulU (pv 0) pe_int) pe_int) pe_int)))
  pss_nil)
 (pss_cons (ps_if (pt_cmpR (show OpR _ (compareOp .Eq) (rEqU K) from op_eqU hr.units) (pv 2) pe_int (nomark _))
  (pss_one (ps_ret (pe_op op_modU (pv 1) pe_int)))
  pss_nil)
 (pss_cons (ps_if (pt_cmpR (show OpR _ (compareOp .Eq) (rEqU K) from op_eqU hr.units) (pv 2) pe_int (nomark _))
  (pss_one (ps_ret (pe_op op_modU (pe_op op_modU (pe_op op_mulU (pv 0) pe_int) pe_int) pe_int)))
  pss_nil)
 (pss_cons (ps_if (pt_cmpR (show OpR _ (compareOp .Eq) (rEqU K) from op_eqU hr.units) (pv 2) pe_int (nomark _))
  (pss_one (ps_ret (pe_op op_sub (pe_op op_pow pe_int pe_int) (pe_op op_modU (pe_op op_modU (pe_op op_mulU (pv 0) pe_int) pe_int) pe_int))))
  pss_nil)
 (pss_one (ps_ret (pe_op op_modU (pe_op op_mulU (pv 0) pe_int) (pe_op (show OpR _ (binaryOp .Add) (rAddU K) from op_addU) (pe_op op_pow pe_int pe_int) pe_int))))))))), ?_⟩
  refine x_start (σ0 := [some (.int i), some (.int seed), none]) rfl ?_
  iterate 12 (walk_at "x1")
  generalize i * 1226874159 % 2147483579 % 5 = w
  walk_at "x"
  · exact q _ (mod_nn (by decide)) (mod_le (by decide) (by decide))
  · exact q _ (mod_nn (by decide)) (mod_le (by decide) (by decide))
  · exact q _ (mod_nn (by decide)) (mod_le (by decide) (by decide))
  · exact q _ (sub_nn (by decide) (by decide)) (sub_le' (by decide))
  · exact q _ (mod_nn (by decide)) (mod_le (by decide) (by decide))
theorem ok__law_due (T : Txt K mg) : FnOk P w K mg base (CXF P w) 2 T.d__law_due.a T.d__law_due.fd ["_law_number", "_law_many", "_law_seed"] spDue := by
  refine T.d__law_due.F.okN sc__law_due (fun vs H Q E h => ?_) (fun cdv A outer s H vs Q E hr h => ?_)
  · obtain ⟨i, n, seed, rfl, _⟩ := h; rfl
  obtain ⟨i, n, seed, rfl, i0, i1, n0, n1, s0, s1, q⟩ := h
  have zi : sz i ≤ 200 := sz200 (by omega) (by omega)
  refine ⟨_, (pss_cons (ps_set (i := 3) sc__law_due.nd rfl (Or.inl rfl) (pe_op op_modU (pe_op op_modU (pe_op op_mulU (pv 0) pe_int) pe_int) (pv 1)))
 (pss_cons (ps_set (i := 4) sc__law_due.nd rfl (Or.inl rfl) (pe_op op_modU (pe_op (show OpR _ (binaryOp .Add) (rAddU K) from op_addU) (pe_op (show OpR _ (binaryOp .Add) (rAddU K) from op_addU) (pv 3) pe_int) (pe_op op_modU (pe_op op_modU (pe_op op_mulU (pv 0) pe_int) pe_int) (pe_op op_sub (pv 1) pe_int))) (pv 1)))
 (pss_cons (ps_set (i := 5) sc__law_due.nd rfl (Or.inl rfl) (pe_op op_modU (pe_op op_modU (pe_op op_mulU (pv 0) pe_int) pe_int) pe_int))
 (pss_one (ps_ret (pe_tup (pa_cons (pv 3) (pa_cons (pv 4) (pa_cons (pv 5) (pa_cons (pe_call (ok__law_amount (base := base) T) (hr.mono (by decide)) rfl T.d__law_amount.m T.d__law_amount.F.kp T.d__law_amount.b .nil (passN nox_F) (pa_cons (pv 0) (pa_cons (pv 2) pa_nil))) pa_nil)))))))))), ?_⟩
  refine x_start (σ0 := [some (.int i), some (.int n), some (.int seed), none, none, none]) rfl ?_
  obtain ⟨p', ep⟩ : ∃ p', i * 1103515245 % 2147483647 % n = p' := ⟨_, rfl⟩
  obtain ⟨t', et⟩ : ∃ t', i * 742938285 % 2147483629 % (n - 1) = t' := ⟨_, rfl⟩
  obtain ⟨r', er⟩ : ∃ r', i * 950706376 % 2147483587 % 3 = r' := ⟨_, rfl⟩
  have p0 : 0 ≤ p' := ep ▸ Int.emod_nonneg _ (by omega)
  have p1 : p' < n := ep ▸ Int.emod_lt_of_pos _ (by omega)
  have t0 : 0 ≤ t' := et ▸ Int.emod_nonneg _ (by omega)
  have t1 : t' < n - 1 := et ▸ Int.emod_lt_of_pos _ (by omega)
  have r0 : 0 ≤ r' := er ▸ Int.emod_nonneg _ (by decide)
  have r1 : r' < 3 := er ▸ Int.emod_lt_of_pos _ (by decide)
  walk_at "x"
  rename_i x x0 x1 p H1 fp e1 h1
  rw [ep, et, er] at h1
  clear ep et er
  have q0 : 0 ≤ (p' + 1 + t') % n := Int.emod_nonneg _ (by omega)
  have q1 : (p' + 1 + t') % n < n := Int.emod_lt_of_pos _ (by omega)
  have pq : p' ≠ (p' + 1 + t') % n := by
    by_cases h : p' + 1 + t' < n
    · rw [Int.emod_eq_of_lt (by omega) h]; omega
    · rw [← Int.sub_emod_right, Int.emod_eq_of_lt (by omega) (by omega)]; omega
  exact q p H1 ⟨p', (p' + 1 + t') % n, r', x⟩ fp e1 h1 ⟨⟨p0, p1, q0, q1, pq, r0, r1, x0, by show x ≤ _; omega⟩, x1⟩
theorem ok__law_sheet (T : Txt K mg) : FnOk P w K mg base (CXF P w) 3 T.d__law_sheet.a T.d__law_sheet.fd ["_law_script", "_law_many", "_law_most"] (spSheet K) := by
  refine T.d__law_sheet.F.okN sc__law_sheet (fun vs H Q E h => ?_) (fun cdv A outer s H vs Q E hr h => ?_)
  · obtain ⟨a, ns, n, most, rfl, _⟩ := h; rfl
  obtain ⟨a, ns, n, most, rfl, hS, h63, n0, n1, m0, m1, q⟩ := h
  refine ⟨_, (pss_cons (ps_if (pt_cmpR (show OpR _ (compareOp .Eq) (rEqU K) from op_eqU hr.units) (pv 1) pe_int (nomark _))
  (pss_one (ps_ret (pe_lst pa_nil)))
  pss_nil)
 (pss_cons (ps_set (i := 3) sc__law_sheet.nd rfl (Or.inr rfl) (pe_op op_modU (pe_call (ok__law_cell (base := base) T) (hr.mono (by decide)) rfl T.d__law_cell.m T.d__law_cell.F.kp T.d__law_cell.b .nil (passN nox_F) (pa_cons (pv 0) (pa_cons pe_int pa_nil))) (pe_op op_pow pe_int pe_int)))
 (pss_cons (ps_set (i := 4) sc__law_sheet.nd rfl (Or.inl rfl) (pe_callB (call_maxU rfl) rfl T.z_max BT.max (pa_cons (pe_callB (show CallR _ _ (rLen K) from call_lenU) rfl T.z_len BT.len (pa_cons (pe_slice (show SlR _ (rSlL K) from sl_list) (pv 0) (po_some pe_int) (po_some (pe_op (show OpR _ (binaryOp .Add) (rAddU K) from op_addU) pe_int (pv 2)))) pa_nil)) (pa_cons (pe_op op_modU (pe_call (ok__law_cell (base := base) T) (hr.mono (by decide)) rfl T.d__law_cell.m T.d__law_cell.F.kp T.d__law_cell.b .nil (passN nox_F) (pa_cons (pv 0) (pa_cons pe_int pa_nil))) (pe_op (show OpR _ (binaryOp .Add) (rAddU K) from op_addU) (pv 2) pe_int)) pa_nil))))
 (pss_one (ps_ret (pe_comp rfl (pi_range1 rfl T.z_range (pa_cons (pv 4) pa_nil)) (compScope_of (Ni := ["_law_k", "_law_script", "_law_seed", "_law_many"]) (caps := [none, some 0, some 3, some 1]) (by rfl)) (fun S _ _ _ _ _ => (pg_nameC (gi := 0) S (Or.inl rfl) rfl)) (fun _ _ _ _ _ => pf_nil) (fun _ _ _ _ _ => (pe_call (ok__law_due (base := base) T) (hr.mono (by decide)) rfl T.d__law_due.m T.d__law_due.F.kp T.d__law_due.b .nil (passN nox_F) (pa_cons (pe_call (ok__law_drawn (base := base) T) (hr.mono (by decide)) rfl T.d__law_drawn.m T.d__law_drawn.F.kp T.d__law_drawn.b .nil (passN nox_F) (pa_cons (pv 1) (pa_cons (pe_op (show OpR _ (binaryOp .Add) (rAddU K) from op_addU) pe_int (pv 0)) (pa_cons (pv 2) pa_nil)))) (pa_cons (pv 3) (pa_cons (pv 2) pa_nil))))))))))), ?_⟩
  refine x_start (σ0 := [some (.ref a), some (.int n), some (.int most), none, none]) rfl ?_
  have hlen : ((cutV (ns.map V.int) (some 3) (some (3 + most))).length : Int) ≤ 63 := by
    have := cutV_length (ns.map V.int) (some 3) (some (3 + most))
    rw [List.length_map] at this; omega
  have hc : ∃ c, (if cell ns 2 % (most + 1) > ((cutV (ns.map V.int) (some 3) (some (3 + most))).length : Int) then cell ns 2 % (most + 1) else ((cutV (ns.map V.int) (some 3) (some (3 + most))).length : Int)) = c ∧ 0 ≤ c ∧ c ≤ 64 := by
    have h1 := Int.emod_nonneg (cell ns 2) (b := most + 1) (by omega)
    have h2 := Int.emod_lt_of_pos (cell ns 2) (b := most + 1) (by omega)
    exact ⟨_, rfl, by split <;> omega, by split <;> omega⟩
  obtain ⟨c, ec, c0, c1⟩ := hc
  walk_at "x"
  · rename_i p H1 fp e1 h1
    exact q p H1 [] [] fp e1 h1 trivial (fun _ h => nomatch h) (Nat.zero_le _) fun _ => rfl
  · rw [ec]
    walk_at "x"
    rename_i hn1 l H1 fl e1 hl
    refine x_compS1 src_range (fun _ _ => trivial) rfl (fun i vs H' => ∃ ds, IsTs dueV H' vs ds ∧ ds.length = i ∧ ∀ d ∈ ds, DueOk n d ∧ d.a ≤ 1000000000000) (fun H' _ => ⟨[], trivial, rfl, fun _ h => nomatch h⟩) ?_ ?_
    · rintro i x D vs o H2 H3 hi hD e2 hv hvl ⟨ds, ht, hdl, hd⟩ e3 rfl
      walk_at "x"
      rename_i x x0 x1 p H4 d fp e4 hp hdd H5 b5 h5
      refine ⟨⟨_, rfl⟩, by walk_at "h", _, h5, by rw [List.length_append]; exact Nat.succ_le_succ hvl, ds ++ [d], IsTs.app (by walk_at "h") (by walk_at "h"), by rw [List.length_append, hdl]; rfl, fun y hy => ?_⟩
      rcases List.mem_append.mp hy with h | h
      · exact hd y h
      · rw [List.mem_singleton.mp h]; exact hdd
    · rintro D H2 vs hD e2 hv hvl ⟨ds, ht, hdl, hd⟩
      exact q D H2 vs ds (by walk_at "h") (by walk_at "h") hv ht hd (by omega) (by omega)
theorem ok__law_paid_by (T : Txt K mg) : FnOk P w K mg base (CXF P w) 1 T.d__law_paid_by.a T.d__law_paid_by.fd ["_law_member", "_law_rest", "_law_sheet_here", "_law_left"] (spPaid K) := by
  refine T.d__law_paid_by.F.okN sc__law_paid_by (fun vs H Q E h => ?_) (fun cdv A outer s H vs Q E hr h => ?_)
  · obtain ⟨m, r, a, l, rs, ls, xs, es, ds, rfl, _⟩ := h; rfl
  obtain ⟨m, r, a, l, rs, ls, xs, es, ds, rfl, hr', ha, hT, hl, L, h1, q⟩ := h
  have hxl := hT.length
  refine ⟨_, (pss_cons (ps_for PassesOwn.never rfl (pi_range1 rfl T.z_range (pa_cons (pe_callB (show CallR _ _ (rLen K) from call_lenU) rfl T.z_len BT.len (pa_cons (pv 2) pa_nil)) pa_nil)) (pg_name (i := 4) sc__law_paid_by.nd rfl (Or.inl rfl))
  (pss_one (ps_if (PW.pt (pw_and (pt_cmpR op_gt (pe_ix (show IxR _ (rIx K) from ix_seq) (pv 3) (pv 4) (fun _ _ => rfl)) pe_int (nomark _)) (pw_and (pt_cmpR (show OpR _ (compareOp .Eq) (rEqU K) from op_eqU hr.units) (pe_ix (show IxR _ (rIx K) from ix_seq) (pe_ix (show IxR _ (rIx K) from ix_seq) (pv 2) (pv 4) (fun _ _ => rfl)) pe_int (fun _ _ => rfl)) (pv 0) (nomark _)) (pw_and1 (pt_cmpR (show OpR _ (compareOp .In) (rIn K false) from op_in_seq) (pe_ix (show IxR _ (rIx K) from ix_seq) (pe_ix (show IxR _ (rIx K) from ix_seq) (pv 2) (pv 4) (fun _ _ => rfl)) pe_int (fun _ _ => rfl)) (pv 1) (by with_unfolding_all rfl))))))
  (pss_one (ps_ret pe_bl))
  pss_nil)))
 (pss_one (ps_ret pe_bl))), ?_⟩
  refine x_start (σ0 := [some (.int m), some (.ref r), some (.ref a), some (.ref l), none]) rfl ?_
  walk_at "x"
  refine x_forR (fun i σ' H' => ∃ f4, σ' = [some (.int m), some (.ref r), some (.ref a), some (.ref l), f4] ∧ H' = H ∧ paidF (ds.take i) rs m = false) ⟨_, rfl, rfl, rfl⟩ ?_ ?_
  · rintro i σ' H' hi ⟨f4, rfl, rfl, hp⟩
    have hi' : i < es.length := by omega
    obtain ⟨e, he⟩ := lt_some hi'
    obtain ⟨c, hc1, hc2⟩ := hT.getI he
    have hc' : H' c = some (.tup [.int e.p, .int e.q, .int e.r, .int e.a]) := hc2
    obtain ⟨b, hb1, hb2⟩ := L.get he
    have ei : (0 : Int) + (i : Int) = i := by omega
    have hat : atI xs ((0 : Int) + (i : Int)) = some (.ref c) := by rw [ei]; exact atI_nat hc1
    have hat2 : atI (ls.map V.int) ((0 : Int) + (i : Int)) = some (.int b) := by rw [ei]; exact atI_nat (by rw [List.getElem?_map, hb1]; rfl)
    have es' : paidF (ds.take (i + 1)) rs m = (paidF (ds.take i) rs m || decide (0 < b ∧ e.q = m ∧ e.p ∈ rs)) := by
      rw [take_snoc hb2]; unfold paidF; rw [List.any_append]; simp
    rw [hp, Bool.false_or] at es'
    walk_at "x"
    · rename_i h2 h3 h4
      have : paidF ds rs m = true := paidF_iff.mpr ⟨_, List.mem_of_getElem? hb2, h2, h3, h4⟩
      rw [this] at q; exact q
    all_goals
      refine ⟨_, rfl, rfl, ?_⟩
      rw [es', decide_eq_false]
      rintro ⟨z1, z2, z3⟩
      first | contradiction | omega
  · rintro σ' H' ⟨f4, rfl, rfl, hp⟩
    rw [Int.toNat_natCast, hxl, ← L.len, List.take_length] at hp
    rw [hp] at q
    walk_at "x"
    exact q

theorem ok__law_ringless (T : Txt K mg) : FnOk P w K mg base (CXF P w) 2 T.d__law_ringless.a T.d__law_ringless.fd ["_law_many", "_law_sheet_here", "_law_left"] (spRingless K) := by
  refine T.d__law_ringless.F.okN sc__law_ringless (fun vs H Q E h => ?_) (fun cdv A outer s H vs Q E hr h => ?_)
  · obtain ⟨n, a, l, ls, xs, es, ds, rfl, _⟩ := h; rfl
  obtain ⟨n, a, l, ls, xs, es, ds, rfl, ha, hT, hl, L, h1, n0, n1, hd, q⟩ := h
  have hxl := hT.length
  have hdN : ∀ d ∈ ds, DueOk (n.toNat : Int) d := by rw [show (n.toNat : Int) = n by omega]; exact hd
  refine ⟨_, (pss_cons (ps_set (i := 3) sc__law_ringless.nd rfl (Or.inr rfl) (pe_callTy (show CallR _ _ rListRng from call_list_rng rfl) rfl T.z_list BT.list (pa_cons (pe_callTy (show CallR _ _ rRange from call_rangeV) rfl T.z_range BT.range (pa_cons (pv 0) pa_nil)) pa_nil)))
 (pss_cons (ps_for PassesOwn.never rfl (pi_range1 rfl T.z_range (pa_cons (pv 0) pa_nil)) (pg_name (i := 4) sc__law_ringless.nd rfl (Or.inl rfl))
  (pss_cons (ps_setC (i := 5) sc__law_ringless.nd rfl rfl rfl (show PI _ _ _ (iList K _) from pi_list (pv 3)) (compScope_of (Ni := ["_law_member", "_law_rest", "_law_sheet_here", "_law_left"]) (caps := [none, some 3, some 1, some 2]) (by rfl)) (fun S _ _ _ _ _ => (pg_nameC (gi := 0) S (Or.inl rfl) rfl)) (fun _ _ _ _ _ => (pf_one (show PT _ _ (tTru K _) from pt_truthU (pe_call (ok__law_paid_by (base := base) T) (hr.mono (by decide)) rfl T.d__law_paid_by.m T.d__law_paid_by.F.kp T.d__law_paid_by.b .nil (passN nox_F) (pa_cons (pv 0) (pa_cons (pv 1) (pa_cons (pv 2) (pa_cons (pv 3) pa_nil))))) (fun _ => rfl)))) (fun _ _ _ _ _ => (pv 0)))
 (pss_one (ps_set (i := 3) sc__law_ringless.nd rfl (Or.inr rfl) (pv 5)))))
 (pss_one (ps_ret (pe_cmpR (show OpR _ (compareOp .Eq) (rEqU K) from op_eqU hr.units) (pe_callB (show CallR _ _ (rLen K) from call_lenU) rfl T.z_len BT.len (pa_cons (pv 3) pa_nil)) pe_int (nomark _)))))), ?_⟩
  refine x_start (σ0 := [some (.int n), some (.ref a), some (.ref l), none, none, none]) rfl ?_
  walk_at "x"
  rename_i p H1 fp e1 hp r H2 fr e2 hr2
  refine x_forR (fun i σ' H' => ∃ (g : Addr) (f4 f5 : Option V), σ' = [some (.int n), some (.ref a), some (.ref l), some (.ref g), f4, f5] ∧ H' g = some (.lst ((natI (restL ds n.toNat i)).map V.int)) ∧ Same H H') ⟨_, _, _, rfl, by rw [restL_zero]; exact hr2, by walk_at "h"⟩ ?_ ?_
  · rintro i σ' H4 hi ⟨g, f4, f5, rfl, hg, e4⟩
    walk_at "x"
    refine x_compS1 (src_list (K := K) (a := g) (xs := (natI (restL ds n.toNat i)).map V.int)) (fun H' e => SqL.of (e.at hg)) rfl (fun j vs _ => vs = (natI (((restL ds n.toNat i).take j).filter fun m : Nat => paidF ds (natI (restL ds n.toNat i)) (m : Int))).map V.int) (fun H' _ => rfl) ?_ ?_
    · rintro j x D vs o2 H6 H7 hj hD e6 hv hvl rfl e7 hx
      have hj' : j < (restL ds n.toNat i).length := by rw [List.length_map, natI_len] at hj; exact hj
      obtain ⟨m, hm⟩ := lt_some hj'
      have ex : x = .int (m : Int) := by
        rw [List.getElem?_map, natI_get hm] at hx; exact (Option.some.inj hx).symm
      subst ex
      have et := take_snoc hm
      have hjn : (restL ds n.toNat i).length ≤ n.toNat := restL_len
      walk_at "x"
      · rename_i h8 H8 b8 h8'
        refine ⟨⟨_, rfl⟩, by walk_at "h", _, h8', by rw [List.length_append]; exact Nat.succ_le_succ hvl, ?_⟩
        show _ = (natI (((restL ds n.toNat i).take (j + 1)).filter _)).map V.int
        rw [et, List.filter_append, natI_app, List.map_append]
        congr 1
        rw [List.filter_cons_of_pos (p := fun m : Nat => paidF ds (natI (restL ds n.toNat i)) (m : Int)) h8]; rfl
      · rename_i h8
        refine ⟨⟨_, rfl⟩, by walk_at "h", _, by walk_at "h", by omega, ?_⟩
        show _ = (natI (((restL ds n.toNat i).take (j + 1)).filter _)).map V.int
        rw [et, List.filter_append, natI_app, List.map_append]
        rw [List.filter_cons_of_neg (p := fun m : Nat => paidF ds (natI (restL ds n.toNat i)) (m : Int)) (by rw [h8]; decide)]
        exact (List.append_nil _).symm
    · rintro D H6 vs hD e6 hv hvl rfl
      rw [List.length_map, natI_len, List.take_length, ← restL_succ hdN] at hv
      walk_at "x"
      exact ⟨_, _, _, rfl, hv, by walk_at "h"⟩
  · rintro σ' H4 ⟨g, f4, f5, rfl, hg, e4⟩
    walk_at "x"
    have q' := q H4 e4
    rw [show ((((natI (restL ds n.toNat n.toNat)).map V.int).length : Nat) : Int) = ((restL ds n.toNat n.toNat).length : Nat) by rw [List.length_map, natI_len]]
    rw [show decide (((restL ds n.toNat n.toNat).length : Int) = 0) = decide (restL ds n.toNat n.toNat = []) from by
      rw [decide_eq_decide, ← List.length_eq_zero_iff]; omega]
    exact q'
theorem ok__law_with (T : Txt K mg) : FnOk P w K mg base (CXF P w) 1 T.d__law_with.a T.d__law_with.fd ["_law_sheet_here", "_law_left"] (spWith K) := by
  refine T.d__law_with.F.okN sc__law_with (fun vs H Q E h => ?_) (fun cdv A outer s H vs Q E hr h => ?_)
  · obtain ⟨a, b, ds, ms, rfl, _⟩ := h; rfl
  obtain ⟨a, b, ds, ms, rfl, ⟨xs, hS, hT⟩, hM, hl, h1, k⟩ := h
  have hxl := hT.length
  refine ⟨_, (pss_one (ps_ret (pe_comp rfl (pi_range1 rfl T.z_range (pa_cons (pe_callB (show CallR _ _ (rLen K) from call_lenU) rfl T.z_len BT.len (pa_cons (pv 0) pa_nil)) pa_nil)) (compScope_of (Ni := ["_law_k", "_law_sheet_here", "_law_left"]) (caps := [none, some 0, some 1]) (by rfl)) (fun S _ _ _ _ _ => (pg_nameC (gi := 0) S (Or.inl rfl) rfl)) (fun _ _ _ _ _ => pf_nil) (fun _ _ _ _ _ => (pe_tup (pa_cons (pe_ix (show IxR _ (rIx K) from ix_seq) (pe_ix (show IxR _ (rIx K) from ix_seq) (pv 1) (pv 0) (fun _ _ => rfl)) pe_int (fun _ _ => rfl)) (pa_cons (pe_ix (show IxR _ (rIx K) from ix_seq) (pe_ix (show IxR _ (rIx K) from ix_seq) (pv 1) (pv 0) (fun _ _ => rfl)) pe_int (fun _ _ => rfl)) (pa_cons (pe_ix (show IxR _ (rIx K) from ix_seq) (pe_ix (show IxR _ (rIx K) from ix_seq) (pv 1) (pv 0) (fun _ _ => rfl)) pe_int (fun _ _ => rfl)) (pa_cons (pe_ix (show IxR _ (rIx K) from ix_seq) (pv 2) (pv 0) (fun _ _ => rfl)) pa_nil))))))))), ?_⟩
  refine x_start (σ0 := [some (.ref a), some (.ref b)]) rfl ?_
  walk_at "x"
  refine x_compS1 src_range (fun _ _ => trivial) rfl (fun i vs H' => IsTs dueV H' vs ((withF ds fun i => ms.getD i 0).take i)) (fun H' _ => trivial) ?_ ?_
  · rintro i x D vs o H3 H4 hi hD e3 hv hvl ht e4 rfl
    have hi' : i < ds.length := by omega
    obtain ⟨d, hdi⟩ := lt_some hi'
    obtain ⟨c, hc1, hc2⟩ := (hT.same (e3.trans e4)).getI hdi
    have hc' : H4 c = some (.tup [.int d.p, .int d.q, .int d.r, .int d.a]) := hc2
    have ei : ((0 : Int) + (i : Int)).toNat = i := by omega
    have hat1 : atI xs ((0 : Int) + (i : Int)) = some (.ref c) := atI_lt (by omega) (by rw [ei]; exact hc1)
    have hat2 : atI (ms.map V.int) ((0 : Int) + (i : Int)) = some (.int (ms.getD i 0)) := ints_at (by omega) (by rw [ei]; exact getD_get (by omega))
    walk_at "x"
    rename_i t2 H5 ft2 e5 h5 H6 b6 h6
    have h5' : H5 t2 = some (.tup (dueV ⟨d.p, d.q, d.r, ms.getD i 0⟩)) := h5
    refine ⟨⟨_, rfl⟩, by walk_at "h", _, h6, by rw [List.length_append]; exact Nat.succ_le_succ hvl, ?_⟩
    show IsTs dueV H6 _ (List.take (i + 1) _)
    rw [withF_snoc hdi]
    exact IsTs.app (f := dueV) (b6.tup h5') (by walk_at "h")
  · rintro D H3 vs hD e3 hv hvl ht
    rw [show ((xs.length : Int)).toNat = (withF ds fun i => ms.getD i 0).length by rw [withF_len]; omega, List.take_length] at ht
    exact k D H3 vs hD e3 hv ht

theorem ok__law_on (T : Txt K mg) : FnOk P w K mg base (CXF P w) 1 T.d__law_on.a T.d__law_on.fd ["_law_member", "_law_sheet_here", "_law_left"] (spOn K) := by
  refine T.d__law_on.F.okN sc__law_on (fun vs H Q E h => ?_) (fun cdv A outer s H vs Q E hr h => ?_)
  · obtain ⟨m, a, b, xs, ds, l, rfl, _⟩ := h; rfl
  obtain ⟨m, a, b, xs, ds, l, rfl, ha, hI, hb, hl, q1, q2⟩ := h
  have hxl := hI.length
  refine ⟨_, (pss_cons (ps_for PassesOwn.never rfl (pi_range1 rfl T.z_range (pa_cons (pe_callB (show CallR _ _ (rLen K) from call_lenU) rfl T.z_len BT.len (pa_cons (pv 1) pa_nil)) pa_nil)) (pg_name (i := 3) sc__law_on.nd rfl (Or.inl rfl))
  (pss_one (ps_if (PW.pt (pw_and (pt_cmpR op_gt (pe_ix (show IxR _ (rIx K) from ix_seq) (pv 2) (pv 3) (fun _ _ => rfl)) pe_int (nomark _)) (pw_and1 (pt_cmpR (show OpR _ (compareOp .Eq) (rEqU K) from op_eqU hr.units) (pe_ix (show IxR _ (rIx K) from ix_seq) (pe_ix (show IxR _ (rIx K) from ix_seq) (pv 1) (pv 3) (fun _ _ => rfl)) pe_int (fun _ _ => rfl)) (pv 0) (nomark _)))))
  (pss_one (ps_ret (pv 3)))
  pss_nil)))
 (pss_one (ps_ret pe_non))), ?_⟩
  refine x_start (σ0 := [some (.int m), some (.ref a), some (.ref b), none]) rfl ?_
  walk_at "x"
  refine x_forR (fun i σ' H' => ∃ f3 : Option V, σ' = [some (.int m), some (.ref a), some (.ref b), f3] ∧ H = H') ⟨_, rfl, rfl⟩ ?_ ?_
  · rintro i σ' _ hi ⟨f3, rfl, rfl⟩
    rw [Int.toNat_natCast, hxl] at hi
    rw [show ((0 : Int) + (i : Int)) = (i : Int) by omega]
    obtain ⟨d, hdi⟩ := lt_some hi
    obtain ⟨bd, hbi, hbd⟩ := hI.getI hdi
    have hbd' : H bd = some (.tup [.int d.p, .int d.q, .int d.r, .int d.a]) := hbd
    have hat : atI xs (i : Int) = some (.ref bd) := atI_nat hbi
    walk_at "x"
    · rename_i g1 g2
      rw [Int.toNat_natCast] at g1
      exact q2 i d hdi g2 g1
    · exact ⟨_, rfl, rfl⟩
    · exact ⟨_, rfl, rfl⟩
  · rintro σ' _ ⟨f3, rfl, rfl⟩
    walk_at "x"
    exact q1
theorem ok__law_round (T : Txt K mg) : FnOk P w K mg base (CXF P w) 2 T.d__law_round.a T.d__law_round.fd ["_law_member", "_law_many", "_law_sheet_here", "_law_left"] (spRound K) := by
  refine T.d__law_round.F.okN sc__law_round (fun vs H Q E h => ?_) (fun cdv A outer s H vs Q E hr h => ?_)
  · obtain ⟨u, n, a, b, xs, ds, l, rfl, _⟩ := h; rfl
  obtain ⟨u, n, a, b, xs, ds, l, rfl, ha, hI, hb, hl, h9, hu, hd, k⟩ := h
  have hxl := hI.length
  refine ⟨_, (pss_cons (ps_set (i := 4) sc__law_round.nd rfl (Or.inl rfl) (pe_lst pa_nil))
 (pss_cons (ps_set (i := 5) sc__law_round.nd rfl (Or.inl rfl) (pe_lst pa_nil))
 (pss_cons (ps_for PassesOwn.never rfl (pi_range1 rfl T.z_range (pa_cons (pv 1) pa_nil)) (pg_name (i := 6) sc__law_round.nd rfl (Or.inl rfl))
  (pss_cons (ps_expr (show PE _ _ (tBM K _ _ _ _) from pe_bm PySem.F.plainAttrs_list PySem.F.slot_list_append PySem.F.type_list_append mt_append (pv 4) (pa_cons (pv 0) pa_nil)))
 (pss_cons (ps_set (i := 7) sc__law_round.nd rfl (Or.inl rfl) (pe_call (ok__law_on (base := base) T) (hr.mono (by decide)) rfl T.d__law_on.m T.d__law_on.F.kp T.d__law_on.b .nil (passN nox_F) (pa_cons (pv 0) (pa_cons (pv 2) (pa_cons (pv 3) pa_nil)))))
 (pss_cons (ps_if (pt_cmpR op_isN (pv 7) pe_non (nomark _))
  (pss_one (ps_ret (pe_lst pa_nil)))
  pss_nil)
 (pss_cons (ps_expr (show PE _ _ (tBM K _ _ _ _) from pe_bm PySem.F.plainAttrs_list PySem.F.slot_list_append PySem.F.type_list_append mt_append (pv 5) (pa_cons (pv 7) pa_nil)))
 (pss_cons (ps_set (i := 0) sc__law_round.nd rfl (Or.inl rfl) (pe_ix (show IxR _ (rIx K) from ix_seq) (pe_ix (show IxR _ (rIx K) from ix_seq) (pv 2) (pv 7) (fun _ _ => rfl)) pe_int (fun _ _ => rfl)))
 (pss_one (ps_if (pt_cmpR (show OpR _ (compareOp .In) (rIn K false) from op_in_seq) (pv 0) (pv 4) (by with_unfolding_all rfl))
  (pss_one (ps_ret (pe_slice (show SlR _ (rSlL K) from sl_list) (pv 5) (po_some (show PE _ _ (tBM K _ _ _ _) from pe_bm PySem.F.plainAttrs_list PySem.F.slot_list_index PySem.F.type_list_index mt_index (pv 4) (pa_cons (pv 0) pa_nil))) po_none)))
  pss_nil))))))))
 (pss_one (ps_ret (pe_lst pa_nil)))))), ?_⟩
  refine x_start (σ0 := [some (.int (u : Int)), some (.int (n : Int)), some (.ref a), some (.ref b), none, none, none, none]) rfl ?_
  walk_at "x"
  rename_i ca H1 fca e1 hca go H2 fgo' e2' hgo
  have fgo := Same.none fgo' e1
  have e2 := e1.trans e2'
  have ncg : ca ≠ go := fun z => by rw [← z, hca] at fgo'; cases fgo'
  refine x_forR (fun t σ' H' => ∃ (v : Nat) (ks : List Nat) (f6 f7 : Option V), σ' = [some (.int (v : Int)), some (.int (n : Int)), some (.ref a), some (.ref b), some (.ref ca), some (.ref go), f6, f7] ∧ H' ca = some (.lst ((ks.map (payF ds)).map V.int)) ∧ H' go = some (.lst ((natI ks).map V.int)) ∧ Gone n ds l ks v ∧ ks.length = t ∧ Same H H') ?_ ?_ ?_
  · exact ⟨u, [], _, _, rfl, e2'.at hca, hgo, ⟨⟨_, Ch.nil⟩, List.nodup_nil, fun _ h => (nomatch h), fun h => (nomatch h), hu⟩, rfl, e2⟩
  · rintro t σ' H3 ht ⟨v, ks, f6, f7, rfl, hc3, hg3, G, hkl, e3⟩
    rw [Int.toNat_natCast] at ht
    have ha3 := e3.at ha
    have hb3 := e3.at hb
    have hI3 := hI.same e3
    have hn1 : ((ks.map (payF ds)).map V.int).length ≤ 9 := by rw [List.length_map, List.length_map]; omega
    have hn2 : ((natI ks).map V.int).length ≤ 9 := by rw [List.length_map, natI_len]; omega
    walk_at "x"
    rename_i H4 b4 h4
    have e4 := b4.same e3 fca
    have ha4 := e4.at ha
    have hb4 := e4.at hb
    have hI4 := hI.same e4
    have hg4 := b4.lst hg3 (fun z => ncg z.symm)
    refine x_nil ?_
    refine spOn_i ha4 hI4 hb4 hl ?_ ?_
    · walk_at "x"
      · rename_i p5 H5 fp5 e5 hp5
        exact k p5 H5 [] (Same.none fp5 e4) (e4.trans e5) hp5 ring_nil (by decide)
      · exact absurd rfl (by assumption)
    · intro kk d hkk hp hpos
      obtain ⟨p0, p1, q0, q1, pq, r0, r1, a0, a1⟩ := hd d (List.mem_of_getElem? hkk)
      obtain ⟨bd, hbi, hbd⟩ := hI4.getI hkk
      have hbd' : H4 bd = some (.tup [.int d.p, .int d.q, .int d.r, .int d.a]) := hbd
      have hat : atI xs (kk : Int) = some (.ref bd) := atI_nat hbi
      have ep : payF ds kk = (v : Int) := by unfold payF; rw [hkk]; exact hp
      have h4' : H4 ca = some (.lst (((ks ++ [kk]).map (payF ds)).map V.int)) := by
        rw [h4, List.map_append, List.map_append, List.map_singleton, ep]; rfl
      walk_at "x"
      · exfalso
        rename_i hz _ _ _ _ _
        exact V.noConfusion hz
      · rename_i hz H5 b5 h5 hin
        have e5 := b5.same e4 fgo
        have hc5 := b5.lst h4' ncg
        obtain ⟨j, hj, ej⟩ := List.getElem_of_mem hin
        have hj' : ((ks ++ [kk]).map (payF ds))[j]? = some d.q := by rw [List.getElem?_eq_getElem hj, ej]
        have hjl : j < ks.length + 1 := by simpa using hj
        have R := G.ring hkk hp hpos hj'
        have hnd : ((ks ++ [kk]).map (payF ds)).Nodup := by
          rw [List.map_append]
          refine List.nodup_append.mpr ⟨G.nd, by simp, fun x hx y hy e => ?_⟩
          rw [List.map_singleton, List.mem_singleton] at hy
          subst hy; subst e
          rw [ep] at hx
          exact G.new hx
        refine x_index hc5 hj' (first_at hnd hj') (by simp only [List.length_map, List.length_append, List.length_singleton]; omega) ?_
        rw [snoc_ints] at h5
        walk_at "x"
        rename_i p6 H6 fp6 e6 hp6
        rw [show natI ks ++ [(kk : Int)] = natI (ks ++ [kk]) by rw [natI_app]; rfl, cut_from (by rw [natI_len, List.length_append, List.length_singleton]; omega), show (natI (ks ++ [kk])).drop j = natI ((ks ++ [kk]).drop j) by unfold natI; rw [List.map_drop]] at hp6
        exact k p6 H6 _ (Same.none fp6 e5) (e5.trans e6) hp6 R (by rw [List.length_drop, List.length_append, List.length_singleton]; omega)
      · rename_i hz H5 b5 h5 hin
        have e5 := b5.same e4 fgo
        have hc5 := b5.lst h4' ncg
        refine ⟨d.q.toNat, ks ++ [kk], _, _, by rw [show ((d.q.toNat : Nat) : Int) = d.q by omega], hc5, ?_, G.step hd hkk hp hpos hin, by rw [List.length_append, List.length_singleton, hkl], e5⟩
        rw [natI_app, List.map_append]; exact h5
  · rintro σ' H3 ⟨v, ks, f6, f7, rfl, hc3, hg3, G, hkl, e3⟩
    walk_at "x"
    rename_i p5 H5 fp5 e5 hp5
    exact k p5 H5 [] (Same.none fp5 e3) (e3.trans e5) hp5 ring_nil (by decide)

theorem ok__law_other (T : Txt K mg) : FnOk P w K mg base (CXF P w) 3 T.d__law_other.a T.d__law_other.fd ["_law_script", "_law_many", "_law_sheet_here"] (spOther17 K) := by
  refine T.d__law_other.F.okN sc__law_other (fun vs H Q E h => ?_) (fun cdv A outer s H vs Q E hr h => ?_)
  · obtain ⟨sc, ns, n, a, xs, ds, rfl, _⟩ := h; rfl
  obtain ⟨sc, ns, n, a, xs, ds, rfl, hSc, ha, hI, hl, n1, h9, hd, k⟩ := h
  have hxl := hI.length
  refine ⟨_, (pss_cons (ps_set (i := 3) sc__law_other.nd rfl (Or.inr rfl) (pe_comp rfl (show PI _ _ _ (iList K _) from pi_list (pv 2)) (compScope_of (Ni := ["_law_due_here"]) (caps := [none]) (by rfl)) (fun S _ _ _ _ _ => (pg_nameC (gi := 0) S (Or.inl rfl) rfl)) (fun _ _ _ _ _ => pf_nil) (fun _ _ _ _ _ => (pe_ix (show IxR _ (rIx K) from ix_seq) (pv 0) pe_int (fun _ _ => rfl)))))
 (pss_cons (ps_for PassesOwn.never rfl (pi_range1 rfl T.z_range (pa_cons pe_int pa_nil)) (pg_name (i := 4) sc__law_other.nd rfl (Or.inl rfl))
  (pss_cons (ps_set (i := 5) sc__law_other.nd rfl (Or.inl rfl) (pe_op op_modU (pe_op (show OpR _ (binaryOp .Add) (rAddU K) from op_addU) (pe_call (ok__law_cell (base := base) T) (hr.mono (by decide)) rfl T.d__law_cell.m T.d__law_cell.F.kp T.d__law_cell.b .nil (passN nox_F) (pa_cons (pv 0) (pa_cons (pe_op (show OpR _ (binaryOp .Add) (rAddU K) from op_addU) pe_int (pv 4)) pa_nil))) (pv 4)) (pv 1)))
 (pss_cons (ps_set (i := 6) sc__law_other.nd rfl (Or.inl rfl) (pe_call (ok__law_round (base := base) T) (hr.mono (by decide)) rfl T.d__law_round.m T.d__law_round.F.kp T.d__law_round.b .nil (passN nox_F) (pa_cons (pv 5) (pa_cons (pv 1) (pa_cons (pv 2) (pa_cons (pv 3) pa_nil))))))
 (pss_one (ps_if (pt_cmpR op_gt (pe_callB (show CallR _ _ (rLen K) from call_lenU) rfl T.z_len BT.len (pa_cons (pv 6) pa_nil)) pe_int (nomark _))
  (pss_cons (ps_set (i := 7) sc__law_other.nd rfl (Or.inl rfl) (pe_callB (show CallR _ _ (rMinL K) from call_minL rfl) rfl T.z_min BT.min (pa_cons (pe_comp rfl (show PI _ _ _ (iList K _) from pi_list (pv 6)) (compScope_of (Ni := ["_law_number", "_law_left"]) (caps := [none, some 3]) (by rfl)) (fun S _ _ _ _ _ => (pg_nameC (gi := 0) S (Or.inl rfl) rfl)) (fun _ _ _ _ _ => pf_nil) (fun _ _ _ _ _ => (pe_ix (show IxR _ (rIx K) from ix_seq) (pv 1) (pv 0) (fun _ _ => rfl)))) pa_nil)))
 (pss_mid (ps_if (pt_cmpR (show OpR _ (compareOp .Eq) (rEqU K) from op_eqU hr.units) (pe_op op_modU (pe_call (ok__law_cell (base := base) T) (hr.mono (by decide)) rfl T.d__law_cell.m T.d__law_cell.F.kp T.d__law_cell.b .nil (passN nox_F) (pa_cons (pv 0) (pa_cons (pe_op (show OpR _ (binaryOp .Add) (rAddU K) from op_addU) pe_int (pv 4)) pa_nil))) pe_int) pe_int (nomark _))
  (pss_one (ps_set (i := 7) sc__law_other.nd rfl (Or.inl rfl) (pe_op op_divU (pv 7) pe_int)))
  pss_nil)
 (pss_one (ps_for PassesOwn.never rfl (show PI _ _ _ (iList K _) from pi_list (pv 6)) (pg_name (i := 8) sc__law_other.nd rfl (Or.inl rfl))
  (pss_one (ps_asg (pe_op op_sub (pe_ix (show IxR _ (rIx K) from ix_seq) (pv 3) (pv 8) (fun _ _ => rfl)) (pv 7)) (pg_sub (pv 3) (pv 8) set_list)))))))
  pss_nil)))))
 (pss_one (ps_ret (pv 3))))), ?_⟩
  refine x_start (σ0 := [some (.ref sc), some (.int (n : Int)), some (.ref a), none, none, none, none, none, none]) rfl ?_
  walk_at "x"
  refine x_compS1 (src_list (K := K) (a := a) (xs := xs)) (fun H' e => SqL.of (e.at ha)) rfl (fun i vs _ => vs = ((ds.take i).map Internal.Due.a).map V.int) (fun H' _ => rfl) ?_ ?_
  · rintro i x D vs o2 H5 H6 hi hD e5 hv hvl rfl e6 hx
    obtain ⟨b, d, rfl, hdi, hb⟩ := (hI.same (e5.trans e6)).get hx
    have hb' : H6 b = some (.tup [.int d.p, .int d.q, .int d.r, .int d.a]) := hb
    walk_at "x"
    rename_i H7 b7 h7
    refine ⟨⟨_, rfl⟩, by walk_at "h", _, h7, by rw [List.length_append]; exact Nat.succ_le_succ hvl, ?_⟩
    show _ = ((ds.take (i + 1)).map Internal.Due.a).map V.int
    rw [take_snoc hdi, List.map_append, List.map_append]; rfl
  rintro lf H1 vs' flf e1 hlf hll rfl
  rw [hxl, List.take_length, amF_vec] at hlf
  walk_at "x"
  refine x_forR (fun t σ' H' => ∃ (l : Nat → Int) (f4 f5 f6 f7 f8 : Option V), σ' = [some (.ref sc), some (.int (n : Int)), some (.ref a), some (.ref lf), f4, f5, f6, f7, f8] ∧ H' lf = some (.lst ((vec ds.length l).map V.int)) ∧ Keeps n ds l ∧ Same H H') ⟨_, _, _, _, _, _, rfl, hlf, Keeps.start hd, e1⟩ ?_ ?_
  · rintro t σ' H2 ht ⟨l, f4, f5, f6, f7, f8, rfl, hl2, KK, e2⟩
    have ht12 : t < 12 := ht
    rw [show ((0 : Int) + (t : Int)) = (t : Int) by omega]
    have hSc2 : SqL K H2 sc (ns.map V.int) := hSc.keep e2
    have ha2 := e2.at ha
    have hI2 := hI.same e2
    walk_at "x"
    refine x_nil ?_
    obtain ⟨u, hu, hun⟩ : ∃ u : Nat, (cell ns (3 + (t : Int)) + (t : Int)) % (n : Int) = (u : Int) ∧ u < n := by
      have h1 := Int.emod_nonneg (cell ns (3 + (t : Int)) + (t : Int)) (show (n : Int) ≠ 0 by omega)
      have h2 := Int.emod_lt_of_pos (cell ns (3 + (t : Int)) + (t : Int)) (show (0 : Int) < (n : Int) by omega)
      exact ⟨((cell ns (3 + (t : Int)) + (t : Int)) % (n : Int)).toNat, by omega, by omega⟩
    rw [hu]
    refine spRound_i ha2 hI2 hl2 hl h9 hun hd ?_
    intro ra H3 ks fra e3 hra R hk9
    have hl3 := e3.at hl2
    have e03 := e2.trans e3
    have hSc3 : SqL K H3 sc (ns.map V.int) := hSc.keep e03
    have hrl : ((natI ks).map V.int).length = ks.length := by rw [List.length_map, natI_len]
    walk_at "x"
    · rename_i hpos
      rw [hrl] at hpos
      have hne : ks.map l ≠ [] := fun z => by rw [List.map_eq_nil_iff.mp z] at hpos; exact absurd hpos (by decide)
      refine x_compS1 (src_list (K := K) (a := ra) (xs := (natI ks).map V.int)) (fun H' e => SqL.of (e.at hra)) rfl (fun i vs _ => vs = ((ks.take i).map l).map V.int) (fun H' _ => rfl) ?_ ?_
      · rintro i x D vs o H5 H6 hi hD e5 hv hvl rfl e6 hx
        rw [hrl] at hi
        obtain ⟨m, hm⟩ := lt_some hi
        have ex : x = .int (m : Int) := by rw [List.getElem?_map, natI_get hm] at hx; exact (Option.some.inj hx).symm
        subst ex
        have hmk := (R.2.2 m (List.mem_of_getElem? hm)).1
        have hl6 := (e5.trans e6).at hl3
        walk_at "x"
        rename_i H7 b7 h7
        refine ⟨⟨_, rfl⟩, by walk_at "h", _, h7, by rw [List.length_append]; exact Nat.succ_le_succ hvl, ?_⟩
        show _ = ((ks.take (i + 1)).map l).map V.int
        rw [take_snoc hm, List.map_append, List.map_append]; rfl
      rintro ml H4 vs' fml e4 hml hmvl rfl
      rw [hrl, List.take_length] at hml
      have hl4 := e4.at hl3
      have hra4 := e4.at hra
      have e04 := e03.trans e4
      have hSc4 : SqL K H4 sc (ns.map V.int) := hSc.keep e04
      walk_at "x"
      rename_i y hy1 hy2
      have hy0 : 0 < y := by
        obtain ⟨m, hm, rfl⟩ := List.mem_map.mp hy1
        exact (R.2.2 m hm).2
      refine x_midS 7 (fun v H' => ∃ c : Int, v = .int c ∧ 0 ≤ c ∧ c ≤ y ∧ H4 = H') ?_ ?_
      · walk_at "x"
        · exact ⟨_, rfl, _, rfl, by omega, by omega, rfl⟩
        · exact ⟨_, rfl, _, rfl, by omega, by omega, rfl⟩
      rintro v _ ⟨c, rfl, c0, c1, rfl⟩
      walk_at "x"
      refine x_forL (xs := (natI ks).map V.int) (fun i σ' H' => ∃ f8 : Option V, σ' = [some (.ref sc), some (.int (n : Int)), some (.ref a), some (.ref lf), some (.int (t : Int)), some (.int (u : Int)), some (.ref ra), some (.int c), f8] ∧ H' lf = some (.lst ((vec ds.length (subL c l (ks.take i))).map V.int)) ∧ H' ra = some (.lst ((natI ks).map V.int)) ∧ Same H H') ⟨_, rfl, hl4, hra4, e04⟩ ?_ ?_ ?_
      · rintro i σ' H' _ ⟨_, _, _, h, _⟩; exact SqL.of h
      · rintro i x σ' H5 hx ⟨f8', rfl, hl5, hr5, e5⟩
        have hi : i < ks.length := by
          have := (List.getElem?_eq_some_iff.mp hx).1
          rwa [hrl] at this
        obtain ⟨m, hm⟩ := lt_some hi
        have ex : x = .int (m : Int) := by rw [List.getElem?_map, natI_get hm] at hx; exact (Option.some.inj hx).symm
        subst ex
        have hmk := (R.2.2 m (List.mem_of_getElem? hm)).1
        have nrl : ra ≠ lf := fun z => by rw [z, hl2] at fra; cases fra
        walk_at "x"
        rename_i H6 b6 h6
        refine ⟨_, rfl, ?_, b6.lst hr5 nrl, b6.same e5 flf⟩
        rw [h6, take_snoc hm, subL_snoc, Int.toNat_natCast]
        rfl
      · rintro σ' H5 ⟨f8', rfl, hl5, hr5, e5⟩
        rw [hrl, List.take_length] at hl5
        exact ⟨_, _, _, _, _, _, rfl, hl5, KK.ring R c0 (fun x hx => Int.le_trans c1 (hy2 _ (List.mem_map.mpr ⟨x, hx, rfl⟩))), e5⟩
    · exact ⟨l, _, _, _, _, _, rfl, hl3, KK, e03⟩
  · rintro σ' H2 ⟨l, f4, f5, f6, f7, f8, rfl, hl2, KK, e2⟩
    walk_at "x"
    exact k lf H2 l flf e2 hl2 KK

noncomputable def spLaw (K : PySem.W.Frag) : Sp := fun vs H Q _ => ∃ (a : Addr) (ns : List Int), vs = [.ref a] ∧ SqL K H a (ns.map V.int) ∧ ns.length ≤ 63 ∧ Light ns ∧ (∀ pos qual, Tb H (tabP K "shortest_way") pos qual) ∧ ∀ H', Q (.bl true) H'
theorem ok_law (T : Txt K mg) : FnOk P w K mg base (CXF P w) 5 T.d_law.a T.d_law.fd ["_law_script"] (spLaw K) := by
  refine T.d_law.F.okN sc_law (fun vs H Q E h => ?_) (fun cdv A outer s H vs Q E hr h => ?_)
  · obtain ⟨a, ns, rfl, _⟩ := h; rfl
  obtain ⟨a, ns, rfl, hS, h63, hz, hT, k⟩ := h
  have hTb : TbW K "shortest_way" lP lQ H := hT lP lQ
  refine ⟨_, (pss_cons (ps_set (i := 1) sc_law.nd rfl (Or.inl rfl) (pe_op (show OpR _ (binaryOp .Add) (rAddU K) from op_addU) pe_int (pe_op op_modU (pe_call (ok__law_cell (base := base) T) (hr.mono (by decide)) rfl T.d__law_cell.m T.d__law_cell.F.kp T.d__law_cell.b .nil (passN nox_F) (pa_cons (pv 0) (pa_cons pe_int pa_nil))) pe_int)))
 (pss_cons (ps_setC (i := 2) sc_law.nd rfl rfl rfl (show PI _ _ _ (iList K _) from pi_list (pe_call (ok__law_sheet (base := base) T) (hr.mono (by decide)) rfl T.d__law_sheet.m T.d__law_sheet.F.kp T.d__law_sheet.b .nil (passN nox_F) (pa_cons (pv 0) (pa_cons (pv 1) (pa_cons pe_int pa_nil))))) (compScope_of (Ni := ["_law_due_here"]) (caps := [none]) (by rfl)) (fun S _ _ _ _ _ => (pg_nameC (gi := 0) S (Or.inl rfl) rfl)) (fun _ _ _ _ _ => pf_nil) (fun _ _ _ _ _ => (pe_tup (pa_cons (pe_ix (show IxR _ (rIx K) from ix_seq) (pv 0) pe_int (fun _ _ => rfl)) (pa_cons (pe_ix (show IxR _ (rIx K) from ix_seq) (pv 0) pe_int (fun _ _ => rfl)) (pa_cons (pe_ix (show IxR _ (rIx K) from ix_seq) (pv 0) pe_int (fun _ _ => rfl)) (pa_cons (pe_op op_divU (pe_ix (show IxR _ (rIx K) from ix_seq) (pv 0) pe_int (fun _ _ => rfl)) pe_int) pa_nil)))))))
 (pss_cons (ps_set (i := 3) sc_law.nd rfl (Or.inl rfl) (pe_ix (show IxR _ (rIx K) from ix_seq) (pe_call (ok_thinned (base := base) T) (hr.mono (by decide)) rfl T.d_thinned.m T.d_thinned.F.kp T.d_thinned.b .nil (passN nox_F) (pa_cons (pv 1) (pa_cons (pe_callTy (show CallR _ _ (rListOf K) from call_listU) rfl T.z_list BT.list (pa_cons (pv 2) pa_nil)) pa_nil))) pe_int (fun _ _ => rfl)))
 (pss_cons (ps_if (PW.pt (pw_or (pt_not (show PT _ _ (tTru K _) from pt_truthU (pe_call (ok__law_wholes (base := base) T) (hr.mono (by decide)) rfl T.d__law_wholes.m T.d__law_wholes.F.kp T.d__law_wholes.b .nil (passN nox_F) (pa_cons (pv 3) (pa_cons (pe_callB (show CallR _ _ (rLen K) from call_lenU) rfl T.z_len BT.len (pa_cons (pv 2) pa_nil)) pa_nil))) (fun _ => rfl))) (pw_or1 (pt_not (show PT _ _ (tTru K _) from pt_truthU (pe_call (ok__law_ringless (base := base) T) (hr.mono (by decide)) rfl T.d__law_ringless.m T.d__law_ringless.F.kp T.d__law_ringless.b .nil (passN nox_F) (pa_cons (pv 1) (pa_cons (pv 2) (pa_cons (pv 3) pa_nil)))) (fun _ => rfl))))))
  (pss_one (ps_ret pe_bl))
  pss_nil)
 (pss_cons (ps_set (i := 4) sc_law.nd rfl (Or.inl rfl) (pe_callB (show CallR _ _ (rSum K) from call_sumU rfl) rfl T.z_sum BT.sum (pa_cons (pv 3) pa_nil)))
 (pss_cons (ps_if (PW.pt (pw_or (pt_cmpR op_gt (pv 4) (pe_callB (show CallR _ _ (rSum K) from call_sumU rfl) rfl T.z_sum BT.sum (pa_cons (pe_ix (show IxR _ (rIx K) from ix_seq) (pe_call (ok_cut (base := base) T) (hr.mono (by decide)) rfl T.d_cut.m T.d_cut.F.kp T.d_cut.b .nil (passN nox_F) (pa_cons (pv 1) (pa_cons (pe_callTy (show CallR _ _ (rListOf K) from call_listU) rfl T.z_list BT.list (pa_cons (pv 2) pa_nil)) pa_nil))) pe_int (fun _ _ => rfl)) pa_nil)) (nomark _)) (pw_or1 (pt_cmpR op_gt (pv 4) (pe_callB (show CallR _ _ (rSum K) from call_sumU rfl) rfl T.z_sum BT.sum (pa_cons (pe_call (ok__law_other (base := base) T) (hr.mono (by decide)) rfl T.d__law_other.m T.d__law_other.F.kp T.d__law_other.b .nil (passN nox_F) (pa_cons (pv 0) (pa_cons (pv 1) (pa_cons (pv 2) pa_nil)))) pa_nil)) (nomark _)))))
  (pss_one (ps_ret pe_bl))
  pss_nil)
 (pss_cons (ps_if (pt_cmpR (show OpR _ (compareOp .NotEq) (rNeU K) from op_neU hr.units) (pe_callB (show CallR _ _ (rSum K) from call_sumU rfl) rfl T.z_sum BT.sum (pa_cons (pe_ix (show IxR _ (rIx K) from ix_seq) (pe_call (ok_thinned (base := base) T) (hr.mono (by decide)) rfl T.d_thinned.m T.d_thinned.F.kp T.d_thinned.b .nil (passN nox_F) (pa_cons (pv 1) (pa_cons (pe_call (ok__law_with (base := base) T) (hr.mono (by decide)) rfl T.d__law_with.m T.d__law_with.F.kp T.d__law_with.b .nil (passN nox_F) (pa_cons (pv 2) (pa_cons (pv 3) pa_nil))) pa_nil))) pe_int (fun _ _ => rfl)) pa_nil)) (pv 4) (nomark _))
  (pss_one (ps_ret pe_bl))
  pss_nil)
 (pss_cons (ps_if (pt_cmpR (show OpR _ (compareOp .NotEq) (rNeU K) from op_neU hr.units) (pe_callB (show CallR _ _ (rSum K) from call_sumU rfl) rfl T.z_sum BT.sum (pa_cons (pe_ix (show IxR _ (rIx K) from ix_seq) (pe_call (ok_thinned (base := base) T) (hr.mono (by decide)) rfl T.d_thinned.m T.d_thinned.F.kp T.d_thinned.b .nil (passN nox_F) (pa_cons (pv 1) (pa_cons (show PE _ _ (tUn (rListRev K) _) from pe_listRev rfl rfl T.z_list BT.list rfl T.z_reversed BT.reversed (pv 2)) pa_nil))) pe_int (fun _ _ => rfl)) pa_nil)) (pv 4) (nomark _))
  (pss_one (ps_ret pe_bl))
  pss_nil)
 (pss_cons (ps_setC (i := 5) sc_law.nd rfl rfl rfl (show PI _ _ _ (iList K _) from pi_list (pv 2)) (compScope_of (Ni := ["_law_due_here"]) (caps := [none]) (by rfl)) (fun S _ _ _ _ _ => (pg_nameC (gi := 0) S (Or.inl rfl) rfl)) (fun _ _ _ _ _ => pf_nil) (fun _ _ _ _ _ => (pe_tup (pa_cons (pe_ix (show IxR _ (rIx K) from ix_seq) (pv 0) pe_int (fun _ _ => rfl)) (pa_cons (pe_ix (show IxR _ (rIx K) from ix_seq) (pv 0) pe_int (fun _ _ => rfl)) (pa_cons (pe_ix (show IxR _ (rIx K) from ix_seq) (pv 0) pe_int (fun _ _ => rfl)) (pa_cons (pe_op op_mulU pe_int (pe_ix (show IxR _ (rIx K) from ix_seq) (pv 0) pe_int (fun _ _ => rfl))) pa_nil)))))))
 (pss_one (ps_ret (pe_cmpR (show OpR _ (compareOp .Eq) (rEqU K) from op_eqU hr.units) (pe_callB (show CallR _ _ (rSum K) from call_sumU rfl) rfl T.z_sum BT.sum (pa_cons (pe_ix (show IxR _ (rIx K) from ix_seq) (pe_call (ok_thinned (base := base) T) (hr.mono (by decide)) rfl T.d_thinned.m T.d_thinned.F.kp T.d_thinned.b .nil (passN nox_F) (pa_cons (pv 1) (pa_cons (pv 5) pa_nil))) pe_int (fun _ _ => rfl)) pa_nil)) (pe_op op_mulU pe_int (pv 4)) (nomark _))))))))))))), ?_⟩
  refine x_start (σ0 := [some (.ref a), none, none, none, none, none]) rfl ?_
  walk_at "x"
  rename_i sh0 H1 xs ds fsh e1 hsh ht1 hds hlen hone
  obtain ⟨n, en, n1, n6⟩ : ∃ n : Nat, 1 + cell ns 0 % 6 = (n : Int) ∧ 1 ≤ n ∧ n ≤ 6 := ⟨(1 + cell ns 0 % 6).toNat, by omega, by omega, by omega⟩
  rw [en] at hds hone ⊢
  have hxl := ht1.length
  refine x_compS1 (src_list (K := K) (a := sh0) (xs := xs)) (fun H' e => SqL.of (e.at hsh)) rfl (fun i vs H' => ∃ es, IsTs dueV H' vs es ∧ es.length = i ∧ ∀ d ∈ es, DueOk (n : Int) d ∧ d.a ≤ 1000000000000) (fun H' _ => ⟨[], trivial, rfl, fun _ h => nomatch h⟩) ?_ ?_
  · rintro i x D vs o H3 H4 hi hD e3 hv hvl ⟨es, hes, hel, hed⟩ e4 hx
    obtain ⟨b, d, rfl, hdi, hb⟩ := (ht1.same (e3.trans e4)).get hx
    have hb' : H4 b = some (.tup [.int d.p, .int d.q, .int d.r, .int d.a]) := hb
    obtain ⟨⟨p0, p1, q0, q1, pq, r0, r1, a0, a1⟩, a2⟩ := hds d (List.mem_of_getElem? hdi)
    walk_at "x"
    rename_i t H6 ft e6 h6 H7 b7 h7
    have h6' : H6 t = some (.tup (dueV ⟨d.p, d.q, d.r, d.a / 10⟩)) := h6
    refine ⟨⟨_, rfl⟩, b7.same ((e3.trans e4).trans e6) hD, _, h7, by rw [List.length_append]; exact Nat.succ_le_succ hvl, es ++ [⟨d.p, d.q, d.r, d.a / 10⟩], IsTs.app (f := dueV) (b7.tup h6') ((hes.same (e4.trans e6)).but b7), by rw [List.length_append, hel]; rfl, fun y hy => ?_⟩
    rcases List.mem_append.mp hy with h | h
    · exact hed y h
    · rw [List.mem_singleton.mp h]; exact ⟨⟨p0, p1, q0, q1, pq, r0, r1, by show 0 ≤ d.a / 10; omega, by show d.a / 10 ≤ _; omega⟩, by show d.a / 10 ≤ _; omega⟩
  rintro sh H2 ys fsh' e2 hp hvl ⟨es, hys, hel, hed2⟩
  have hed : ∀ d ∈ es, DueOk (n : Int) d := fun d h => (hed2 d h).1
  have hyl := hys.length
  have he64 : es.length ≤ 64 := by omega
  have e02 := e1.trans e2
  clear e2 hvl hel
  walk_at "x"
  rename_i ha H3 fha e3 hha
  have e03 := e02.trans e3
  have hp3 := e3.at hp
  have hys3 := hys.same e3
  walk_at "x"
  refine x_nil ?_
  refine ⟨ha, n, es, rfl, ⟨ys, SqL.of hha, hys3⟩, by omega, by omega, by omega, hed, TbW.same e03 hTb, ?_⟩
  intro tp b h H4 l g ftp fb fh s4 hT4 htp hb hh hbd hnets hpot
  have s04 : SameT H H4 := e03.t.trans s4
  have hp4 : H4 sh = some (.lst ys) := s4.at hp3
  have hys4 : IsTs dueV H4 ys es := s4.isTs hys3
  have hdw : ∀ d ∈ withF es l, DueOk (n : Int) d := withF_ok (g := l) hed fun i hi => by
    obtain ⟨d, hd⟩ := lt_some hi
    have h1 := hbd i hi
    have h2 := (hed d (List.mem_of_getElem? hd)).2.2.2.2.2.2.2.2
    rw [amF_get hd] at h1
    exact ⟨h1.1, by omega⟩
  have hLv := left_vec es l
  have hrest := rest_high n1 hed hdw hpot
  have least : ∀ l' : Nat → Int, Keeps n es l' → sumI (vec es.length l) ≤ sumI (vec es.length l') := fun l' KK => thin_least hed hbd KK.1 (fun m hm => by rw [hnets m hm, KK.2 m hm]) hpot
  have cutle : ∀ L cs, Cuts es n L cs → (∀ i, i < es.length → L 0 i = amF es i) → sumI (vec es.length l) ≤ sumI (vec es.length (L cs.length)) := fun L cs hC h0 => least _ ⟨fun i hi => hC.bnd hed h0 cs.length (Nat.le_refl _) i hi, fun m hm => hC.nets hed h0 m cs.length (Nat.le_refl _)⟩
  walk_at "x"
  · rename_i hh; rw [vec_len, hyl] at hh; omega
  · rename_i hh; rw [Int.toNat_natCast] at hh; exact absurd hrest hh
  · rename_i _ H5 e5 _ ca H6 fca e6 hca tq lc cc H7 vs2 L cs ftq flc fcc e7 htq hlc hcc hIC hC hL0 hR hcl hlt
    rw [Int.toNat_natCast] at hC
    have := cutle L cs hC hL0
    omega
  rename_i _ H5 e5 _ ca H6 fca e6 hca tq lc cc H7 vs2 L cs ftq flc fcc e7 htq hlc hcc hIC hC hL0 hR hcl hlt
  have e47 : Same H4 H7 := e5.trans (e6.trans e7)
  have s07 := s04.trans e47.t
  have hp7 := e47.at hp4
  have hb7 := e47.at hb
  have hys7 := hys4.same e47
  refine x_nil ?_
  refine spOther17_i (s07.seq hS) hp7 hys7 (by omega) (by omega) (by omega) hed ?_
  intro lo H8 l8 flo e8 hlo KK
  have lo8 := least l8 KK
  have hp8 := e8.at hp7
  have hb8 := e8.at hb7
  have hys8 := hys7.same e8
  have hT8 : TbW K "shortest_way" lP lQ H8 := TbW.same e8 (TbW.same e47 hT4)
  have s08 := s07.trans e8.t
  clear e5 e6 e7 e47 hC hIC hR hcl hlt hL0
  walk_at "x"
  · rename_i hh; omega
  rename_i _ wv H9 ws fwv e9 hwv hws
  rw [withF_congr (g := l) fun i hi => by rw [List.getD_eq_getElem?_getD, vec_get hi]; rfl] at hws
  have hp9 := e9.at hp8
  have hys9 := hys8.same e9
  have hwl : (withF es l).length = es.length := withF_len
  refine x_nil ?_
  refine ⟨wv, n, withF es l, rfl, ⟨ws, SqL.of hwv, hws⟩, by omega, by omega, by omega, hdw, TbW.same e9 hT8, ?_⟩
  intro tp2 b2 h2 HA l2 g2 _ _ _ sA hTA htp2 hb2 hh2 hbd2 hnets2 hpot2
  have ag := thin_again hed hbd hbd2 hnets2 hpot
  rw [hwl] at hb2
  have hpA : HA sh = some (.lst ys) := sA.at hp9
  have hysA : IsTs dueV HA ys es := sA.isTs hys9
  have hy1 : ys.length ≤ 100000 := by omega
  walk_at "x"
  refine x_listRev (SqL.of hpA) hy1 ?_
  intro rv HB frv eB hrv
  have hpB := eB.at hpA
  have hysB := hysA.same eB
  have hrl : es.reverse.length = es.length := List.length_reverse
  refine x_nil ?_
  refine ⟨rv, n, es.reverse, rfl, ⟨ys.reverse, SqL.of hrv, hysB.rev'⟩, by omega, by omega, by omega, fun d h => hed d (List.mem_reverse.mp h), TbW.same eB hTA, ?_⟩
  intro tp3 b3 h3 HC l3 g3 _ _ _ sC hTC htp3 hb3 hh3 hbd3 hnets3 hpot3
  have rv3 := thin_rev hed hbd hnets hpot hbd3 hnets3 hpot3
  rw [hrl] at hb3
  have hpC : HC sh = some (.lst ys) := sC.at hpB
  have hysC : IsTs dueV HC ys es := sC.isTs hysB
  walk_at "x"
  refine x_compS1 (src_list (K := K) (a := sh) (xs := ys)) (fun H' e => SqL.of (e.at hpC)) rfl (fun i vs H' => IsTs dueV H' vs ((withF es fun i => 3 * amF es i).take i)) (fun H' _ => trivial) ?_ ?_
  · rintro i x D vs o H3' H4' hi hD e3' hv hvl hes e4' hx
    obtain ⟨bd, d, rfl, hdi, hbd'⟩ := (hysC.same (e3'.trans e4')).get hx
    have hbd4 : H4' bd = some (.tup [.int d.p, .int d.q, .int d.r, .int d.a]) := hbd'
    obtain ⟨⟨p0, p1, q0, q1, pq, r0, r1, a0, a1⟩, a2⟩ := hed2 d (List.mem_of_getElem? hdi)
    walk_at "x"
    rename_i t H6' ft e6' h6 H7' b7 h7
    have h6' : H6' t = some (.tup (dueV ⟨d.p, d.q, d.r, 3 * amF es i⟩)) := by rw [amF_get hdi]; exact h6
    refine ⟨⟨_, rfl⟩, b7.same ((e3'.trans e4').trans e6') hD, _, h7, by rw [List.length_append]; exact Nat.succ_le_succ hvl, ?_⟩
    show IsTs dueV H7' (vs ++ [.ref t]) ((withF es fun i => 3 * amF es i).take (i + 1))
    rw [withF_snoc hdi]
    exact IsTs.app (f := dueV) (b7.tup h6') ((hes.same (e4'.trans e6')).but b7)
  rintro th HD vs fth eD hth hvl hes
  have hw3 : (withF es fun i => 3 * amF es i).length = es.length := withF_len
  rw [hyl, List.take_of_length_le (by omega)] at hes
  have hd3 : ∀ d ∈ withF es (fun i => 3 * amF es i), DueOk (n : Int) d := withF_ok hed fun i hi => by
    obtain ⟨d, hd⟩ := lt_some hi
    have h2 := hed2 d (List.mem_of_getElem? hd)
    have h4 := h2.1.2.2.2.2.2.2.2.1
    rw [amF_get hd]
    exact ⟨by omega, by omega⟩
  have hco := sum_bd (f := l) (B := 1000000000000) es.length fun i hi => by
    obtain ⟨d, hd⟩ := lt_some hi
    have h2 := (hed2 d (List.mem_of_getElem? hd)).2
    have h3 := hbd i hi
    rw [amF_get hd] at h3
    exact ⟨h3.1, by omega⟩
  walk_at "x"
  refine x_nil ?_
  refine ⟨th, n, withF es (fun i => 3 * amF es i), rfl, ⟨vs, SqL.of hth, hes⟩, by omega, by omega, by omega, hd3, TbW.same eD hTC, ?_⟩
  intro tp4 b4 h4 HE l4 g4 _ _ _ sE hTE htp4 hb4 hh4 hbd4 hnets4 hpot4
  have th4 := thin_three hed hd3 hbd hnets hpot hbd4 hnets4 hpot4
  rw [hw3] at hb4
  generalize hcoin : sumI (vec es.length l) = coins at *
  walk_at "x"
  rw [decide_eq_true th4]
  exact k _

end
theorem fin {P : Program} {w : World} {K : PySem.W.Frag} {mg : Str → Option Value} {fa : Addr} (T : Txt K mg) (hfa : mg "law" = some (.ref fa)) :
    ∃ fd : FuncData, (∀ (s : Shared) (v : Value), BindsTo s fd ⟨[v], []⟩ [("_law_script", v)]) ∧ (∃ p, PySem.W.tabIn K "shortest_way" = some p) ∧ ∀ base : Heap, K.In base → base.Ns mainGlobals mg → TabX K mg base "shortest_way" → FnOk P w K mg base (CXF P w) 5 fa fd ["_law_script"] (spLaw K) := by
  have e := hfa.symm.trans T.d_law.m
  cases e
  exact ⟨_, T.bl_law, ⟨_, T.tb_shortest_way⟩, fun base _ _ _ => ok_law T⟩
theorem walk {l : PySem.W.OpenLaw} {q : Program} {loose : List Str} {XP : (Str → Option Value) → Heap → Prop} {YP : World → Heap → Prop} {d : DefRec} {K : Params → PySem.W.Frag} (hn : l.most = some 63) (hdf : d.params.defaults = [])
    (hY : ∀ (w : World) (h : Heap), YP w h → (K w.params).In h)
    (hrec : ∃ d', (PyProof.Rows.recsOf q).find? (fun e => e.name == ("shortest_way" : Str)) = some d') (hnt : ∀ w : World, PySem.W.noTabs (K w.params) = true)
    (F : ∀ (w : World) (mg : Str → Option Value) (fa : Addr) (h : Heap), (K w.params).In h → h.Ns mainGlobals mg → mg d.name = some (.ref fa) →
      ∃ fd : FuncData, (∀ (s : Shared) (u : Value), BindsTo s fd ⟨[u], []⟩ [("_law_script", u)]) ∧ (∃ p, PySem.W.tabIn (K w.params) "shortest_way" = some p) ∧ ∀ base : Heap, (K w.params).In base → base.Ns mainGlobals mg → TabX (K w.params) mg base "shortest_way" → FnOk l.prog w (K w.params) mg base (CXF l.prog w) 5 fa fd ["_law_script"] (spLaw (K w.params))) :
    PySem.W.WalkO q loose XP YP l.row.toRowW d [] (fun f vs => PySem.call f vs) :=
  let ⟨_, hrec'⟩ := hrec
  Internal.walk_ofT (n := 63) (k := 5) (x := "_law_script") (CX := fun w => CXF l.prog w) (sp := fun w => spLaw (K w.params)) hn (by decide) hdf ⟨rfl, by decide, by decide⟩ hY hrec' hnt F (fun _ _ a ns hl hz hS hT => ⟨a, ns, rfl, hS, hl, hz, hT, fun _ => rfl⟩) fun _ H s e s' z => nox_F _ H s e s' z
end Internal.K
theorem PySem.W.Fast.tw10853886356106334910 : True := trivial
theorem PySem.W.Fast.tw9421861552273081954 : True := trivial
theorem PySem.W.Fast.tw12834150805120037186 : True := trivial
theorem PySem.W.Fast.tw14130208906347865260 : True := trivial
theorem PySem.W.Fast.tw16894539870380798836 : True := trivial
theorem PySem.W.Fast.tw13175904380507364053 : True := trivial
theorem PySem.W.Fast.tw11813954689388219967 : True := trivial
theorem PySem.W.Fast.tw12563847771997681337 : True := trivial
theorem PySem.W.Fast.tw14310631740646717649 : True := trivial
theorem PySem.W.Fast.tw9912410261941124519 : True := trivial
theorem PySem.W.Fast.tw5077801367618623447 : True := trivial
theorem PySem.W.Fast.tw1267764290035664821 : True := trivial
theorem PySem.W.Fast.tw16963059241317328767 : True := trivial
theorem PySem.W.Fast.tw3976613078887286367 : True := trivial
theorem PySem.W.Fast.tw6640596128857052355 : True := trivial
theorem PySem.W.Fast.tw1098035845926207718 : True := trivial
theorem PySem.W.Fast.tw2088868415785056220 : True := trivial
theorem PySem.W.Fast.tw2638015578700888199 : True := trivial
open PySem PySem.W PyProof.Rows
set_option maxRecDepth 100000 in
set_option maxHeartbeats 0 in
theorem PySem.Challenge.cw_quits_k17_whole_the_least_is_left_holds : PySem.Challenge.rw_quits_k17_whole_the_least_is_left.Holds := by
  w_on; o_law; k_head; (case hw => w_witness2)
  k_fill
  refine Internal.K.walk (l := PySem.Challenge.rw_quits_k17_whole_the_least_is_left) rfl rfl (fun w h Y => PySem.W.km_in_of Y) ?xRec ?xTab ?F
  case xRec => exact ⟨_, rfl⟩
  case xTab => intro w; kernel_rfl
  case F =>
    intro w mg fa h KX G hmg
    refine Internal.K.fin ?T hmg
    case T =>
      refine' Internal.K.txt_mk KX G ?a_nets ?l_nets ?c_nets ?k_nets ?a_amounts_of ?l_amounts_of ?c_amounts_of ?k_amounts_of ?a_with_amounts ?l_with_amounts ?c_with_amounts ?k_with_amounts ?a_thinned ?l_thinned ?c_thinned ?k_thinned ?a_steps_of ?l_steps_of ?c_steps_of ?k_steps_of ?a_shortest_way ?l_shortest_way ?c_shortest_way ?k_shortest_way ?a_way_back ?l_way_back ?c_way_back ?k_way_back ?a_send ?l_send ?c_send ?k_send ?a_heights_of ?l_heights_of ?c_heights_of ?k_heights_of ?a_a_ring ?l_a_ring ?c_a_ring ?k_a_ring ?a_ways_onward ?l_ways_onward ?c_ways_onward ?k_ways_onward ?a_dues_among ?l_dues_among ?c_dues_among ?k_dues_among ?a_cut ?l_cut ?c_cut ?k_cut ?a__law_cell ?l__law_cell ?c__law_cell ?k__law_cell ?a__law_whole ?l__law_whole ?c__law_whole ?k__law_whole ?a__law_wholes ?l__law_wholes ?c__law_wholes ?k__law_wholes ?a__law_drawn ?l__law_drawn ?c__law_drawn ?k__law_drawn ?a__law_amount ?l__law_amount ?c__law_amount ?k__law_amount ?a__law_due ?l__law_due ?c__law_due ?k__law_due ?a__law_sheet ?l__law_sheet ?c__law_sheet ?k__law_sheet ?a__law_paid_by ?l__law_paid_by ?c__law_paid_by ?k__law_paid_by ?a__law_ringless ?l__law_ringless ?c__law_ringless ?k__law_ringless ?a__law_with ?l__law_with ?c__law_with ?k__law_with ?a__law_on ?l__law_on ?c__law_on ?k__law_on ?a__law_round ?l__law_round ?c__law_round ?k__law_round ?a__law_other ?l__law_other ?c__law_other ?k__law_other ?a_law ?l_law ?c_law ?k_law ?cq_shortest_way ?lc_shortest_way ?ve_shortest_way ?w_any ?w_bool ?w_enumerate ?w_int ?w_isinstance ?w_len ?w_list ?w_max ?w_min ?w_range ?w_reversed ?w_sum
      (case a_nets => k_is)
      (case l_nets => k_is)
      (case c_nets => k_is)
      (case k_nets => k_is)
      (case a_amounts_of => k_is)
      (case l_amounts_of => k_is)
      (case c_amounts_of => k_is)
      (case k_amounts_of => k_is)
      (case a_with_amounts => k_is)
      (case l_with_amounts => k_is)
      (case c_with_amounts => k_is)
      (case k_with_amounts => k_is)
      (case a_thinned => k_is)
      (case l_thinned => k_is)
      (case c_thinned => k_is)
      (case k_thinned => k_is)
      (case a_steps_of => k_is)
      (case l_steps_of => k_is)
      (case c_steps_of => k_is)
      (case k_steps_of => k_is)
      (case a_shortest_way => k_is)
      (case l_shortest_way => k_is)
      (case c_shortest_way => k_is)
      (case k_shortest_way => k_is)
      (case a_way_back => k_is)
      (case l_way_back => k_is)
      (case c_way_back => k_is)
      (case k_way_back => k_is)
      (case a_send => k_is)
      (case l_send => k_is)
      (case c_send => k_is)
      (case k_send => k_is)
      (case a_heights_of => k_is)
      (case l_heights_of => k_is)
      (case c_heights_of => k_is)
      (case k_heights_of => k_is)
      (case a_a_ring => k_is)
      (case l_a_ring => k_is)
      (case c_a_ring => k_is)
      (case k_a_ring => k_is)
      (case a_ways_onward => k_is)
      (case l_ways_onward => k_is)
      (case c_ways_onward => k_is)
      (case k_ways_onward => k_is)
      (case a_dues_among => k_is)
      (case l_dues_among => k_is)
      (case c_dues_among => k_is)
      (case k_dues_among => k_is)
      (case a_cut => k_is)
      (case l_cut => k_is)
      (case c_cut => k_is)
      (case k_cut => k_is)
      (case a__law_cell => k_is)
      (case l__law_cell => k_is)
      (case c__law_cell => k_is)
      (case k__law_cell => k_is)
      (case a__law_whole => k_is)
      (case l__law_whole => k_is)
      (case c__law_whole => k_is)
      (case k__law_whole => k_is)
      (case a__law_wholes => k_is)
      (case l__law_wholes => k_is)
      (case c__law_wholes => k_is)
      (case k__law_wholes => k_is)
      (case a__law_drawn => k_is)
      (case l__law_drawn => k_is)
      (case c__law_drawn => k_is)
      (case k__law_drawn => k_is)
      (case a__law_amount => k_is)
      (case l__law_amount => k_is)
      (case c__law_amount => k_is)
      (case k__law_amount => k_is)
      (case a__law_due => k_is)
      (case l__law_due => k_is)
      (case c__law_due => k_is)
      (case k__law_due => k_is)
      (case a__law_sheet => k_is)
      (case l__law_sheet => k_is)
      (case c__law_sheet => k_is)
      (case k__law_sheet => k_is)
      (case a__law_paid_by => k_is)
      (case l__law_paid_by => k_is)
      (case c__law_paid_by => k_is)
      (case k__law_paid_by => k_is)
      (case a__law_ringless => k_is)
      (case l__law_ringless => k_is)
      (case c__law_ringless => k_is)
      (case k__law_ringless => k_is)
      (case a__law_with => k_is)
      (case l__law_with => k_is)
      (case c__law_with => k_is)
      (case k__law_with => k_is)
      (case a__law_on => k_is)
      (case l__law_on => k_is)
      (case c__law_on => k_is)
      (case k__law_on => k_is)
      (case a__law_round => k_is)
      (case l__law_round => k_is)
      (case c__law_round => k_is)
      (case k__law_round => k_is)
      (case a__law_other => k_is)
      (case l__law_other => k_is)
      (case c__law_other => k_is)
      (case k__law_other => k_is)
      (case a_law => k_is)
      (case l_law => k_is)
      (case c_law => k_is)
      (case k_law => k_is)
      (case cq_shortest_way => exact rfl)
      (case lc_shortest_way => k_is)
      (case ve_shortest_way => exact rfl)
      (case w_any => k_is)
      (case w_bool => k_is)
      (case w_enumerate => k_is)
      (case w_int => k_is)
      (case w_isinstance => k_is)
      (case w_len => k_is)
      (case w_list => k_is)
      (case w_max => k_is)
      (case w_min => k_is)
      (case w_range => k_is)
      (case w_reversed => k_is)
      (case w_sum => k_is)
