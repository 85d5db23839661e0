import PyProof.Rows.All
import Wide.All
import OpenK.AllK
import Wide.FinOn
import Lean
import PyProof.EqAt
import PyProof.EqKinds
import PyProof.TupleCall
import PyProof.CompFree
import PyProof.Cells
import KE.KTryMore
import PyProof.ExcBaseAll.ValueError
import PyProof.ExcAttrAll.ValueError
import PyProof.EnumFor
import PyProof.EnumStmt
import PyProof.EnumMake
import PyProof.ZipIter
import PyProof.SumAny
import PyProof.MinMaxWalk
import PyProof.ConsumeWalk
import PyProof.Rows.EnumRows
import PyProof.Rows.FactsT2
import PyProof.Rows.SeqGen
import PyProof.ListRange
import PyProof.Rows.SortShell
import PyProof.Rows.SortWalk
import PyProof.SeqI3
import PyProof.Rows.CallKwBuiltin
import PyProof.Rows.SortRev
import PyProof.StrBlockI
import PyProof.MeetsStr
import PyProof.StrLawsJoin
import KE.KSortTup
import KE.KLam
import PySem.Challenge.RW_quits_k77_coins_moved
set_option compiler.extract_closed false
set_option bootstrap.genMatcherCode false
set_option Elab.async false
set_option linter.all false
set_option maxRecDepth 100000
namespace Internal
theorem aut0 (h : True := by first | exact .inl rfl | exact .inr rfl | assumption) : True := h
theorem aut1 (h : True := by decide) : True := h
theorem aut2 (h : True := by rfl) : True := h
theorem aut3 (h : True := by intro _; rfl) : True := h
theorem aut4 (h : True := by intros; rfl) : True := h
theorem aut5 (h : True := by with_unfolding_all rfl) : True := h
theorem aut6 (h : True := by exact fun _ _ _ _ _ => rfl) : True := h
open PySem PySem.Spec PyProof.Rows

noncomputable abbrev Key := Sum Int Str
noncomputable def keyIs : Key → Value → Bool
  | .inl k, v => Value.isInt k v
  | .inr x, v => Value.isStrOf x v
noncomputable def keyH (w : World) : Key → Int
  | .inl k => hashInt k
  | .inr x => hashStr w x
theorem keyIs_shape : ∀ {k : Key} {v : Value}, keyIs k v = true → (∃ i t, k = Sum.inl i ∧ v = Value.int i t) ∨ (∃ x t, k = Sum.inr x ∧ v = Value.str x t)
  | .inl i, v, h => by
    obtain ⟨t, e⟩ := Value.isInt_shape (k := i) (v := v) h
    exact .inl ⟨i, t, rfl, e⟩
  | .inr x, v, h => by
    obtain ⟨t, e⟩ := Value.isStrOf_shape (x := x) (v := v) h
    exact .inr ⟨x, t, rfl, e⟩
theorem keyIs_int (i : Int) (t : Tok) : keyIs (.inl i) (.int i t) = true := by simp [keyIs, Value.isInt]
theorem keyIs_str (x : Str) (t : Tok) : keyIs (.inr x) (.str x t) = true := by simp [keyIs, Value.isStrOf]
theorem key_ll (a b : Int) : decide ((Sum.inl a : Key) = Sum.inl b) = (a == b) := by
  by_cases e : a = b
  · subst e; simp
  · have h : ¬ (Sum.inl a : Key) = Sum.inl b := fun q => e (Sum.inl.inj q)
    rw [decide_eq_false h]
    exact (beq_eq_false_iff_ne.mpr e).symm
theorem key_rr (a b : Str) : decide ((Sum.inr a : Key) = Sum.inr b) = decide (a = b) := by
  by_cases e : a = b
  · subst e; simp
  · have h : ¬ (Sum.inr a : Key) = Sum.inr b := fun q => e (Sum.inr.inj q)
    rw [decide_eq_false h, decide_eq_false e]
theorem key_lr (a : Int) (b : Str) : decide ((Sum.inl a : Key) = Sum.inr b) = false := decide_eq_false (fun q => nomatch q)
theorem key_rl (a : Str) (b : Int) : decide ((Sum.inr a : Key) = Sum.inl b) = false := decide_eq_false (fun q => nomatch q)

noncomputable def mixKind (prog : Program) (w : World) : PySem.KeyKind prog w Key where
  is := keyIs
  hash := keyH w
  inj := fun v a b ha hb => by
    rcases keyIs_shape ha with ⟨i, t, rfl, rfl⟩ | ⟨x, t, rfl, rfl⟩
    · rcases keyIs_shape hb with ⟨j, u, rfl, e⟩ | ⟨y, u, rfl, e⟩
      · injection e with e1 _; rw [e1]
      · exact nomatch e
    · rcases keyIs_shape hb with ⟨j, u, rfl, e⟩ | ⟨y, u, rfl, e⟩
      · exact nomatch e
      · injection e with e1 _; rw [e1]
  byValue := fun k v h => by
    rcases keyIs_shape h with ⟨i, t, rfl, rfl⟩ | ⟨x, t, rfl, rfl⟩ <;> rfl
  pyHash := fun hv h => by
    rcases keyIs_shape hv with ⟨i, t, rfl, rfl⟩ | ⟨x, t, rfl, rfl⟩
    · exact wpAny_pyHash_int h
    · exact wpAny_pyHash_str h
  eqBool := fun hu hv h => by
    rcases keyIs_shape hu with ⟨i, t, rfl, rfl⟩ | ⟨x, t, rfl, rfl⟩
    · rcases keyIs_shape hv with ⟨j, u, rfl, rfl⟩ | ⟨y, u, rfl, rfl⟩
      · rw [key_ll] at h; exact wpAny_eqBool_int h
      · rw [key_lr] at h; exact SeqAt.EqAt.int_str i t y u _ _ _ _ h
    · rcases keyIs_shape hv with ⟨j, u, rfl, rfl⟩ | ⟨y, u, rfl, rfl⟩
      · rw [key_rl] at h; exact SeqAt.EqAt.str_int x t j u _ _ _ _ h
      · rw [key_rr] at h; exact wpAny_eqBool_str h
  «strs» := fun k x t v h => by
    rcases keyIs_shape h with ⟨i, u, rfl, e⟩ | ⟨y, u, rfl, e⟩
    · exact nomatch e
    · injection e with e1 _
      subst e1
      cases v <;> rfl

theorem mixKind_int (prog : Program) (w : World) (i : Int) (t : Tok) : (mixKind prog w).is (.inl i) (.int i t) = true := keyIs_int i t
theorem mixKind_str (prog : Program) (w : World) (x : Str) (t : Tok) : (mixKind prog w).is (.inr x) (.str x t) = true := keyIs_str x t
end Internal

namespace Internal
open PySem PySem.Spec PyProof.Rows

inductive V where
  | non | bl (b : Bool) | int (i : Int) | str (x : Str) | byt (b : Array UInt8) | flt (b : UInt64) | ref (a : Addr) | ty (n : String)
  deriving DecidableEq

noncomputable def RelV : V → Value → Prop
  | .non, u => u = Value.none
  | .bl b, u => u = Value.bool b
  | .int i, u => ∃ t, u = Value.int i t
  | .str x, u => ∃ t, u = Value.str x t
  | .byt b, u => ∃ t, u = Value.bytes b t
  | .flt b, u => ∃ t, u = Value.float b t
  | .ref a, u => u = Value.ref a
  | .ty n, u => u = Value.type n

noncomputable abbrev Vals : List V → List Value → Prop := Paired RelV
theorem Vals.length {xs : List V} {us : List Value} (r : Vals xs us) : xs.length = us.length := Paired.length r
theorem Vals.get : ∀ {xs : List V} {us : List Value} {i : Nat} {x : V}, Vals xs us → xs[i]? = some x → ∃ u, us[i]? = some u ∧ RelV x u
  | _, _, _, _, .nil, e => by simp at e
  | _, _, 0, _, .cons r _, e => by simp at e; subst e; exact ⟨_, rfl, r⟩
  | _, _, i + 1, x, .cons _ t, e => by
    obtain ⟨u, h1, h2⟩ := Vals.get (i := i) (x := x) t (by simpa using e)
    exact ⟨u, by simpa using h1, h2⟩
theorem Vals.set {x : V} {u : Value} (r : RelV x u) : ∀ {xs : List V} {us : List Value} (i : Nat), Vals xs us → Vals (xs.set i x) (us.set i u)
  | _, _, _, .nil => .nil
  | _, _, 0, .cons _ t => .cons r t
  | _, _, i + 1, .cons q t => .cons q (Vals.set r i t)
theorem Vals.append : ∀ {xs ys : List V} {us ws : List Value}, Vals xs us → Vals ys ws → Vals (xs ++ ys) (us ++ ws)
  | _, _, _, _, .nil, s => s
  | _, _, _, _, .cons r t, s => .cons r (Vals.append t s)
theorem Vals.take : ∀ {xs : List V} {us : List Value} (n : Nat), Vals xs us → Vals (xs.take n) (us.take n)
  | _, _, 0, _ => .nil
  | _, _, _ + 1, .nil => .nil
  | _, _, n + 1, .cons r t => .cons r (Vals.take n t)
theorem Vals.drop : ∀ {xs : List V} {us : List Value} (n : Nat), Vals xs us → Vals (xs.drop n) (us.drop n)
  | _, _, 0, r => r
  | _, _, _ + 1, .nil => .nil
  | _, _, n + 1, .cons _ t => Vals.drop n t
noncomputable def RelO : Option V → Option Value → Prop
  | some v, some u => RelV v u
  | none, none => True
  | _, _ => False
noncomputable def KV {κ : Type} : List (κ × V) → List (κ × Value) → Prop := Paired fun (p : κ × V) (q : κ × Value) => p.1 = q.1 ∧ RelV p.2 q.2

noncomputable def kV : Key → V
  | .inl i => .int i
  | .inr x => .str x

inductive HO where
  /-- a list -/
  | lst (xs : List V)
  /-- a tuple (never changes) -/
  | tup (xs : List V)
  /-- a dict whose keys are ints and texts; one whose keys are tuples of ints and texts (the empty one is both) -/
  | dK (kvs : List (Key × V)) | dT (kvs : List (List Key × V))
  /-- a set of ints: its members, its size -/
  | set (S : Int → Bool) (n : Nat)
  /-- an instance of the class at C, its dict at dx, its attributes -/
  | ins (C dx : Addr) (fs : List (Str × V))
  /-- the dict of the instance at x -/
  | own (x : Addr)
  /-- the dict of an exception -/
  | xd (fs : List (Str × V))
  /-- a bound method, f of x -/
  | met (f x : Addr)
  /-- a range object lo, lo + 1, .. below hi -/
  | rng (lo hi : Int)
  /-- a thing that is known to the object (the script; a dict while a loop walks it): read, never written while it is so -/
  | frz (o : Obj) (u : HO)
  /-- a code object's table -/
  | tbl (ps : Array Value)
  /-- any other thing, by what is true of its one object (a def of one's own: SetO a S n := HO.ext fun h => ..) -/
  | ext (φ : Heap → Prop)

noncomputable abbrev Hp := Addr → Option HO
noncomputable def upd (H : Hp) (a : Addr) (o : HO) : Hp := fun b => if b = a then some o else H b
theorem upd_same {H : Hp} {a : Addr} {o : HO} : upd H a o a = some o := by unfold upd; rw [if_pos rfl]
theorem upd_ne {H : Hp} {a b : Addr} {o : HO} (h : b ≠ a) : upd H a o b = H b := by unfold upd; rw [if_neg h]
theorem ne_of {H : Hp} {a b : Addr} {o u : HO} (h : H a = some o) (h' : H b = some u) (d : o ≠ u) : a ≠ b := by
  intro e; subst e; rw [h] at h'; exact d (Option.some.inj h')
theorem ne_of_none {H : Hp} {a b : Addr} {o : HO} (h : H a = some o) (h' : H b = none) : a ≠ b := by
  intro e; subst e; rw [h] at h'; cases h'

section
variable (P : Program) (w : World)
noncomputable def ObjOk (H : Hp) (h : Heap) (a : Addr) : HO → Prop
  | .lst xs => xs.length ≤ sizeLine ∧ ∃ (its : List Value) (n : Nat), Vals xs its ∧ h.get? a = some { cls := .type "list", data := .seq its.toArray n }
  | .tup xs => xs.length ≤ sizeLine ∧ ∃ its : List Value, Vals xs its ∧ IsTup h a its.toArray
  | .dK kvs => kvs.length ≤ sizeLine ∧ (a == sysModules) = false ∧ ∃ vs, KV kvs vs ∧ h.DictOf (mixKind P w) a vs
  | .dT kvs => kvs.length ≤ sizeLine ∧ (a == sysModules) = false ∧ ∃ xs : List (List Key × Addr × Value),
      Paired (fun (p : List Key × V) (q : List Key × Addr × Value) => p.1 = q.1 ∧ H q.2.1 = some (.tup (p.1.map kV)) ∧ RelV p.2 q.2.2) kvs xs ∧
      ∃ o es ep, h.get? a = some o ∧ o.ExactDict ∧ o.data = .dict es ep ∧ es.toList = xs.map (entryOfKey (tupleKind (mixKind P w))) ∧ (xs.map (·.1)).Nodup
  | .set S n => h.SetOf (intKind P w) a S n
  | .ins C dx fs => H dx = some (.own a) ∧ fs.length ≤ 1000 ∧ dx ≠ a ∧ h.get? a = some (PySem.W.instObj C dx) ∧
      ∃ mA, h.Ns1 dx mA ∧ (∀ f, RelO (fs.lookup f) (mA f)) ∧ PySem.Within mA (fs.map (·.1))
  | .own _ => ∃ o, h.get? a = some o
  | .xd fs => ∃ mA, h.Ns1 a mA ∧ ∀ f, RelO (fs.lookup f) (mA f)
  | .rng lo hi => ∃ t u v, h.get? a = some { cls := .type "range", data := .fields #[.int lo t, .int hi u, .int 1 v] }
  | .frz o u => h.get? a = some o ∧ ObjOk H h a u
  | .tbl ps => h.get? a = some { cls := .none, data := .fields ps }
  | .met f x => h.get? a = some (PySem.W.methodObj (.ref f) (.ref x))
  | .ext φ => φ h ∧ (∃ o, h.get? a = some o) ∧ ∀ h1 h2 : Heap, φ h1 → (∀ o, h1.get? a = some o → h2.get? a = some o) → φ h2
noncomputable def HOk (H : Hp) (h : Heap) : Prop := ∀ a o, H a = some o → ObjOk P w H h a o
end

section
variable {P : Program} {w : World} {H H' : Hp} {h h' : Heap} {a : Addr} {o : HO}
theorem ObjOk.lt (x : ObjOk P w H h a o) : a < h.objs.size := by
  cases o with
  | lst xs => obtain ⟨_, _, _, _, e⟩ := x; exact Heap.lt_size e
  | tup xs => obtain ⟨_, _, _, p⟩ := x; exact p.lt
  | dK kvs => obtain ⟨_, _, _, _, o, _, _, e, _⟩ := x; exact Heap.lt_size e
  | dT kvs => obtain ⟨_, _, _, _, o, _, _, e, _⟩ := x; exact Heap.lt_size e
  | set S n => obtain ⟨o, _, _, _, e, _⟩ := x; exact Heap.lt_size e
  | ins C dx fs => obtain ⟨_, _, _, e, _⟩ := x; exact Heap.lt_size e
  | own y => obtain ⟨_, e⟩ := x; exact Heap.lt_size e
  | xd fs => obtain ⟨_, ⟨_, _, _, e, _⟩, _⟩ := x; exact Heap.lt_size e
  | rng lo hi => obtain ⟨_, _, _, e⟩ := x; exact Heap.lt_size e
  | frz ob u => obtain ⟨e, _⟩ := x; exact Heap.lt_size e
  | tbl ps => exact Heap.lt_size (show h.get? a = some _ from x)
  | met f y => exact Heap.lt_size (show h.get? a = some _ from x)
  | ext φ => obtain ⟨_, ⟨_, e⟩, _⟩ := x; exact Heap.lt_size e
theorem Paired.mapP {α β : Type} {F G : α → β → Prop} : ∀ {l₁ : List α} {l₂ : List β}, Paired F l₁ l₂ → (∀ a b, F a b → G a b) → Paired G l₁ l₂
  | _, _, .nil, _ => .nil
  | _, _, .cons r t, f => .cons (f _ _ r) (Paired.mapP t f)
theorem ObjOk.stay (x : ObjOk P w H h a o) (k : ∀ b u, (b = a ∨ H b = some (.own a)) → h.get? b = some u → h'.get? b = some u)
    (ho : ∀ b, H b = some (.own a) → H' b = some (.own a)) (ht : ∀ b xs, H b = some (.tup xs) → H' b = some (.tup xs)) : ObjOk P w H' h' a o := by
  induction o with
  | lst xs => obtain ⟨z, its, n, r, e⟩ := x; exact ⟨z, its, n, r, k _ _ (.inl rfl) e⟩
  | tup xs => obtain ⟨z, its, r, ob, e, c⟩ := x; exact ⟨z, its, r, ob, k _ _ (.inl rfl) e, c⟩
  | dK kvs => obtain ⟨z, y, vs, r, ob, es, ep, e, c⟩ := x; exact ⟨z, y, vs, r, ob, es, ep, k _ _ (.inl rfl) e, c⟩
  | dT kvs =>
    obtain ⟨z, y, xs, r, ob, es, ep, e, c⟩ := x
    exact ⟨z, y, xs, Paired.mapP r fun p q z => ⟨z.1, ht _ _ z.2.1, z.2.2⟩, ob, es, ep, k _ _ (.inl rfl) e, c⟩
  | set S n => obtain ⟨ob, es, ep, t, e, c⟩ := x; exact ⟨ob, es, ep, t, k _ _ (.inl rfl) e, c⟩
  | ins C dx fs =>
    obtain ⟨d, z, ne, e, mA, ⟨od, es, ep, e2, c⟩, r⟩ := x
    exact ⟨ho _ d, z, ne, k _ _ (.inl rfl) e, mA, ⟨od, es, ep, k _ _ (.inr d) e2, c⟩, r⟩
  | own y => obtain ⟨ob, e⟩ := x; exact ⟨ob, k _ _ (.inl rfl) e⟩
  | xd fs => obtain ⟨mA, ⟨od, es, ep, e, c⟩, r⟩ := x; exact ⟨mA, ⟨od, es, ep, k _ _ (.inl rfl) e, c⟩, r⟩
  | rng lo hi => obtain ⟨t, u, v, e⟩ := x; exact ⟨t, u, v, k _ _ (.inl rfl) e⟩
  | frz ob u ih => obtain ⟨e, q⟩ := x; exact ⟨k _ _ (.inl rfl) e, ih q⟩
  | tbl ps =>
    have e : h.get? a = some { cls := .none, data := .fields ps } := x
    show h'.get? a = some { cls := .none, data := .fields ps }
    exact k a _ (.inl rfl) e
  | met f y =>
    have e : h.get? a = some (PySem.W.methodObj (.ref f) (.ref y)) := x
    show h'.get? a = some (PySem.W.methodObj (.ref f) (.ref y))
    exact k a _ (.inl rfl) e
  | ext φ => obtain ⟨p, ⟨o, e⟩, st⟩ := x; exact ⟨st _ _ p fun o q => k _ _ (.inl rfl) q, ⟨o, k _ _ (.inl rfl) e⟩, st⟩
theorem HOk.lt (x : HOk P w H h) (e : H a = some o) : a < h.objs.size := (x a o e).lt
theorem HOk.fresh (x : HOk P w H h) (e : h.objs.size ≤ a) : H a = none := by
  cases q : H a with
  | none => rfl
  | some u => exact absurd (Nat.lt_of_lt_of_le (x.lt q) e) (Nat.lt_irrefl _)
theorem HOk.kept (x : HOk P w H h) (k : ∀ b u, h.get? b = some u → h'.get? b = some u) : HOk P w H h' := fun a o e =>
  (x a o e).stay (fun b u _ q => k b u q) (fun _ q => q) fun _ _ q => q
theorem HOk.laid (x : HOk P w H h) (k : ∀ b u, h.get? b = some u → h'.get? b = some u) (hp : h.objs.size ≤ a) (new : ObjOk P w (upd H a o) h' a o) : HOk P w (upd H a o) h' := fun b u e => by
  have hn := x.fresh hp
  by_cases hb : b = a
  · subst hb; rw [upd_same] at e; cases e; exact new
  · rw [upd_ne hb] at e
    exact (x b u e).stay (fun c v _ q => k c v q) (fun c q => by rw [upd_ne (ne_of_none q hn)]; exact q) fun c xs q => by rw [upd_ne (ne_of_none q hn)]; exact q
end

noncomputable def Rd (H : Hp) (a : Addr) (u : HO) : Prop := H a = some u ∨ ∃ o, H a = some (.frz o u)
theorem Rd.ok {P : Program} {w : World} {H : Hp} {h : Heap} {a : Addr} {u : HO} (r : Rd H a u) (x : HOk P w H h) : ObjOk P w H h a u := by
  rcases r with r | ⟨o, r⟩
  · exact x a u r
  · obtain ⟨_, q⟩ := x a _ r
    exact q
noncomputable def Mut : Option HO → Prop
  | some (.lst _) => True
  | some (.dK _) => True
  | some (.dT _) => True
  | some (.set _ _) => True
  | some (.ins _ _ _) => True
  | some (.ext _) => True
  | _ => False
section
variable {P : Program} {w : World} {H : Hp} {h h' : Heap} {x e : Addr} {o' : HO}
theorem HOk.write (ok : HOk P w H h) (mu : Mut (H x)) (he : e = x ∨ H e = some (.own x)) (k : ∀ b u, b ≠ e → h.get? b = some u → h'.get? b = some u) (heo : ∃ u, h'.get? e = some u)
    (new : ObjOk P w (upd H x o') h' x o') : HOk P w (upd H x o') h' := fun b u q => by
  have nown : ∀ c y, H c = some (.own y) → c ≠ x := fun c y r z => by subst z; rw [r] at mu; exact mu
  have ntup : ∀ c xs, H c = some (.tup xs) → c ≠ x := fun c xs r z => by subst z; rw [r] at mu; exact mu
  by_cases hb : b = x
  · subst hb; rw [upd_same] at q; cases q; exact new
  · rw [upd_ne hb] at q
    by_cases hbe : b = e
    · have q' : H b = some (.own x) := by
        rcases he with z | z
        · exact absurd (hbe.trans z) hb
        · rw [hbe]; exact z
      rw [q] at q'; cases q'
      obtain ⟨v, hv⟩ := heo
      exact ⟨v, by rw [hbe]; exact hv⟩
    · refine (ok b u q).stay (fun c v hc r => k c v ?_ r) (fun c r => by rw [upd_ne (nown c b r)]; exact r) fun c xs r => by rw [upd_ne (ntup c xs r)]; exact r
      rcases hc with rfl | hc
      · exact hbe
      · rintro rfl
        rcases he with z | z
        · exact nown c b hc z
        · rw [hc] at z; cases z; exact hb rfl
end

set_option genInjectivity false in
set_option genSizeOf false in
structure Un (fs ex : List Addr) (H H' : Hp) (h h' : Heap) : Prop where
  keep : ∀ b o, h.get? b = some o → H b = none → b ∉ fs → b ∉ ex → h'.get? b = some o
  slot : ∀ b o, h.get? b = some o → H b = none → b ∈ fs → b ∉ ex → ∃ sl, h'.get? b = some { o with slots := sl }
  free : ∀ b o, h.get? b = some o → H b = none → b ∉ ex → H' b = none
  there : ∀ b o, h.get? b = some o → b ∉ ex → ∃ o', h'.get? b = some o'
  tups : ∀ b xs, H b = some (.tup xs) → H' b = some (.tup xs)
  frzs : ∀ b o u, H b = some (.frz o u) → H' b = some (.frz o u)
  tbls : ∀ b ps, H b = some (.tbl ps) → ∃ more, H' b = some (.tbl (ps ++ more))
section
variable {fs fs' ex ex' : List Addr} {H H1 H2 : Hp} {h h1 h2 h' : Heap} {a x e : Addr} {o : HO}
theorem Un.any (u : Un fs ex H H1 h h1) {b : Addr} {ob : Obj} (q : h.get? b = some ob) (n : H b = none) (hx : b ∉ ex) : ∃ sl, h1.get? b = some { ob with slots := sl } := by
  by_cases hb : b ∈ fs
  · exact u.slot b ob q n hb hx
  · exact ⟨ob.slots, u.keep b ob q n hb hx⟩
theorem Un.kept (k : ∀ b u, h.get? b = some u → h'.get? b = some u) : Un fs ex H H h h' :=
  ⟨fun b ob q _ _ _ => k b ob q, fun b ob q _ _ _ => ⟨ob.slots, k b ob q⟩, fun _ _ _ n _ => n, fun b ob q _ => ⟨ob, k b ob q⟩, fun _ _ q => q, fun _ _ _ q => q, fun _ ps q => ⟨#[], by rw [q]; simp⟩⟩
theorem Un.refl : Un fs ex H H h h := Un.kept fun _ _ q => q
theorem Un.laid (k : ∀ b u, h.get? b = some u → h'.get? b = some u) (hp : h.objs.size ≤ a) (hn : H a = none) : Un fs ex H (upd H a o) h h' where
  keep := fun b u q _ _ _ => k b u q
  slot := fun b u q _ _ _ => ⟨u.slots, k b u q⟩
  free := fun b u q n _ => by rw [upd_ne (Nat.ne_of_lt (Nat.lt_of_lt_of_le (Heap.lt_size q) hp))]; exact n
  there := fun b u q _ => ⟨u, k b u q⟩
  tups := fun b xs q => by rw [upd_ne (ne_of_none q hn)]; exact q
  frzs := fun b u xs q => by rw [upd_ne (ne_of_none q hn)]; exact q
  tbls := fun b ps q => ⟨#[], by rw [upd_ne (ne_of_none q hn), q]; simp⟩
theorem Un.write (mu : Mut (H x)) (he : e = x ∨ H e = some (.own x)) (k : ∀ b u, b ≠ e → h.get? b = some u → h'.get? b = some u) (heo : ∃ u, h'.get? e = some u) : Un fs ex H (upd H x o) h h' := by
  have hx : ∀ b, H b = none → b ≠ x := fun b n z => by subst z; rw [n] at mu; exact mu
  have hb : ∀ b, H b = none → b ≠ e := fun b n z => by
    subst z
    rcases he with r | r
    · exact hx b n r
    · rw [n] at r; cases r
  have hm : ∀ b u, H b = some u → ¬ Mut (some u) → b ≠ x := fun b u q nm z => by subst z; rw [q] at mu; exact nm mu
  refine ⟨fun b u q n _ _ => k b u (hb b n) q, fun b u q n _ _ => ⟨u.slots, k b u (hb b n) q⟩, fun b u q n _ => by rw [upd_ne (hx b n)]; exact n, fun b u q _ => ?_,
    fun b xs q => by rw [upd_ne (hm b _ q fun z => z)]; exact q, fun b u xs q => by rw [upd_ne (hm b _ q fun z => z)]; exact q, fun b ps q => ⟨#[], by rw [upd_ne (hm b _ q fun z => z), q]; simp⟩⟩
  by_cases hbe : b = e
  · subst hbe; exact heo
  · exact ⟨u, k b u hbe q⟩
end

noncomputable def trk (h : Heap) (H : Hp) : List Addr := (List.range h.objs.size).filter fun a => (H a).isSome
noncomputable def hidT (h : Heap) (H : Hp) : Heap := PySem.W.hideAll h (trk h H)
theorem hidT_size (h : Heap) (H : Hp) : (hidT h H).objs.size = h.objs.size := PySem.W.hideAll_size _ _
theorem hidT_get {h : Heap} {H : Hp} {b : Addr} {o : Obj} (e : h.get? b = some o) (n : H b = none) : (hidT h H).get? b = some o :=
  PySem.W.hideAll_get _ e fun hm => by
    have q : (H b).isSome = true := (List.mem_filter.mp hm).2
    rw [n] at q; simp at q
theorem of_hidT {h : Heap} {H : Hp} {b : Addr} {o : Obj} (e : (hidT h H).get? b = some o) : h.get? b = some o ∧ H b = none := by
  have e' : h.get? b = some o := PySem.W.of_hideAll (trk h H) e
  refine ⟨e', ?_⟩
  cases q : H b with
  | none => rfl
  | some x =>
    have hm : b ∈ trk h H := List.mem_filter.mpr ⟨List.mem_range.mpr (Heap.lt_size e'), by simp [q]⟩
    have z : (hidT h H).get? b = none := PySem.W.hideAll_none (trk h H) hm
    rw [z] at e; cases e

noncomputable def allNews (g h : Heap) (L : Addr) : List (Addr × Obj) := (List.range h.objs.size).filterMap fun a => if a = L ∨ (g.get? a).isSome = true then none else (h.get? a).map fun o => (a, o)
noncomputable def rest (g h : Heap) (L d : Addr) : List (Addr × Obj) := (allNews g h L).filter fun p => decide (p.1 ≠ d)
end Internal

namespace Internal
open PySem PySem.Spec PyProof.Rows

set_option genInjectivity false in
set_option genSizeOf false in
structure Mod (K : PySem.W.Frag) (mg : Str → Option Value) (base : Heap) : Prop where
  kin : K.In base
  glob : base.Ns mainGlobals mg
  blt : ∃ mb, base.Ns builtinsNs mb ∧ ∀ x : Str, x ≠ "__name__" → mb x = bootBuiltins x
  nolimit : base.NoLimit

set_option genSizeOf false in
structure Cx where
  prog : Program
  w : World
  K : PySem.W.Frag
  mg : Str → Option Value
  base : Heap
  A : Around
  N : List Str
  s₀ : Shared
  H₀ : Hp
  env : Env
  outer : List Env
  stack : List Env
  ex : List Addr
  fn : Str → Bool
  calm : Bool
  pn : List (Addr × Obj)
  xe : Value → Shared → Prop
noncomputable def frs (l : List Env) : List Addr := l.filterMap (·.frame)
noncomputable abbrev Cx.fs (X : Cx) : List Addr := frs X.outer

noncomputable def Vis (sc : Scope) (x : Str) : Prop := sc.names.lookup x = some .local ∨ sc.names.lookup x = some .cell ∨ sc.names.lookup x = some .free
noncomputable def Loc (sc : Scope) (x : Str) : Prop := sc.names.lookup x = some .local ∨ sc.names.lookup x = some .cell
noncomputable def Look (env : Env) (h : Heap) (m : Str → Option Value) (x : Str) (u : Value) : Prop :=
  (env.kindOf x = some .local ∧ m x = some u) ∨ ((env.kindOf x = some .cell ∨ env.kindOf x = some .free) ∧ ∃ c, env.cells.lookup x = some c ∧ h.IsCell c (some u))

set_option genSizeOf false in
structure Cx.Ok (X : Cx) : Prop where
  mod : Mod X.K X.mg X.base
  kind : X.env.scope.kind = .function
  glob : X.env.globals = mainGlobals
  blt : X.env.builtins = builtinsNs
  above : X.s₀.heap.objs.size ≤ X.env.locals
  inj : ∀ x y c, X.env.cells.lookup x = some c → X.env.cells.lookup y = some c → x = y
  has : ∀ x, (X.env.kindOf x = some .cell ∨ X.env.kindOf x = some .free) → ∃ c, X.env.cells.lookup x = some c
  cab : ∀ x c, X.fn x = true → X.env.cells.lookup x = some c → X.s₀.heap.objs.size ≤ c
  hd : X.calm = true → X.A.handled = none
  frames : X.A.frames = some X.stack
  stk : X.stack = X.outer ∨ (X.stack = X.env :: X.outer ∧ X.env.frame = some X.env.locals)
  exf : ∀ b ∈ X.ex, b ≠ X.env.locals ∧ ∀ x c, X.env.cells.lookup x = some c → c ≠ b
  bs : ∀ b o, X.base.get? b = some o → X.s₀.heap.get? b = some o ∧ X.H₀ b = none
  bsz : X.base.objs.size ≤ X.s₀.heap.objs.size
  noex : ∀ b o, X.base.get? b = some o → b ∉ X.ex
  exfs : ∀ b ∈ X.ex, b ∉ X.fs
  funs : X.s₀.heap.FunFrames X.base X.outer
  frf : ∀ b ∈ X.fs, X.H₀ b = none

set_option genInjectivity false in
set_option genSizeOf false in
structure Inv (X : Cx) (pins : List (Addr × Obj)) (σ : List (Option V)) (H : Hp) (s : Shared) : Prop where
  ok : X.Ok
  os : s.os = X.s₀.os
  bare : AllBare s.gens
  base : Un X.fs X.ex X.H₀ H X.s₀.heap s.heap
  loc : ∃ m, s.heap.Ns X.env.locals m ∧ ∀ (i : Nat) (x : Str) (v : V), X.N[i]? = some x → σ[i]? = some (some v) → Vis X.env.scope x → ∃ u, RelV v u ∧ Look X.env s.heap m x u
  cell : ∀ x c, X.env.cells.lookup x = some c → ∃ v, s.heap.IsCell c v
  free : H X.env.locals = none
  freeC : ∀ x c, X.env.cells.lookup x = some c → H c = none
  pin : ∀ p ∈ X.pn ++ pins, s.heap.get? p.1 = some p.2 ∧ H p.1 = none ∧ p.1 ≠ X.env.locals ∧ p.1 ∉ X.fs ∧ ∀ v, p.2.data ≠ .cell v
  hok : HOk X.prog X.w H s.heap
  len : σ.length = X.N.length

section
variable {X : Cx} {pins : List (Addr × Obj)} {σ : List (Option V)} {H H' : Hp} {s : Shared} {h' : Heap}

theorem Cx.Ok.nofr (ok : X.Ok) {b : Addr} {o : Obj} (e : X.base.get? b = some o) : b ∉ X.fs := fun hb => by
  have := (ok.funs.mem hb).1
  rw [e] at this; cases this
theorem Inv.bs (I : Inv X pins σ H s) : ∀ b o, X.base.get? b = some o → s.heap.get? b = some o ∧ H b = none := fun b o e =>
  ⟨I.base.keep b o (I.ok.bs b o e).1 (I.ok.bs b o e).2 (I.ok.nofr e) (I.ok.noex b o e), I.base.free b o (I.ok.bs b o e).1 (I.ok.bs b o e).2 (I.ok.noex b o e)⟩
theorem Inv.bk (I : Inv X pins σ H s) : ∀ b o, X.base.get? b = some o → s.heap.get? b = some o := fun b o e => (I.bs b o e).1
theorem Inv.mod (I : Inv X pins σ H s) : Mod X.K X.mg X.base := I.ok.mod
theorem Inv.kIn (I : Inv X pins σ H s) : X.K.In s.heap := I.ok.mod.kin.keeps I.bk
theorem Inv.lt (I : Inv X pins σ H s) : X.env.locals < s.heap.objs.size := let ⟨_, hn, _⟩ := I.loc; hn.lt
theorem Inv.sz (I : Inv X pins σ H s) : X.s₀.heap.objs.size ≤ s.heap.objs.size := Nat.le_trans I.ok.above (Nat.le_of_lt I.lt)
theorem Inv.nofs (I : Inv X pins σ H s) {a : Addr} (h : s.heap.objs.size ≤ a) : a ∉ X.fs := fun hb => by
  obtain ⟨_, o, ho, _⟩ := I.ok.funs.mem hb
  exact absurd (Nat.lt_of_lt_of_le (Heap.lt_size ho) (Nat.le_trans I.sz h)) (Nat.lt_irrefl _)
theorem Inv.cne (I : Inv X pins σ H s) : ∀ x c, X.env.cells.lookup x = some c → c ≠ X.env.locals := fun x c e z => by
  obtain ⟨v, o, ho, hd⟩ := I.cell x c e
  obtain ⟨m, ⟨o', es, ep, ho', hd', _⟩, _⟩ := I.loc
  rw [z, ho'] at ho; cases ho; rw [hd'] at hd; cases hd
theorem Inv.funs (I : Inv X pins σ H s) : s.heap.FunFrames X.base X.outer := by
  have all : ∀ (l : List Env), (∀ b ∈ frs l, b ∈ X.fs) → X.s₀.heap.FunFrames X.base l → s.heap.FunFrames X.base l := by
    intro l
    induction l with
    | nil => intro _ _; trivial
    | cons env r ih =>
      intro hs hl
      obtain ⟨hk, ⟨L, o, hf, hn, ho, hd⟩, hr⟩ := hl
      have hL : L ∈ X.fs := hs L (by unfold frs; rw [List.filterMap_cons, hf]; exact List.mem_cons_self)
      obtain ⟨sl, e⟩ := I.base.slot L o ho (I.ok.frf L hL) hL fun z => I.ok.exfs L z hL
      exact ⟨hk, ⟨L, _, hf, hn, e, hd⟩, ih (fun b hb => hs b (by unfold frs; rw [List.filterMap_cons, hf]; exact List.mem_cons_of_mem _ hb)) hr⟩
  exact all X.outer (fun _ hb => hb) I.ok.funs

theorem Inv.stack (I : Inv X pins σ H s) : s.heap.FunFrames X.base X.stack := by
  rcases I.ok.stk with e | ⟨e, hf⟩
  · rw [e]; exact I.funs
  · rw [e]
    obtain ⟨m, hn, _⟩ := I.loc
    refine .cons (by rw [I.ok.kind]; decide) hf hn ?_ I.funs
    exact Heap.get?_none_of_le (Nat.le_trans I.ok.bsz I.ok.above)
theorem Inv.stkSub (I : Inv X pins σ H s) : ∀ b ∈ frs X.stack, b ∈ X.env.locals :: X.fs := fun b hb => by
  rcases I.ok.stk with e | ⟨e, hf⟩
  · rw [e] at hb; exact List.mem_cons_of_mem _ hb
  · rw [e] at hb
    unfold frs at hb
    rw [List.filterMap_cons, hf] at hb
    exact hb
theorem Inv.stkFree (I : Inv X pins σ H s) : ∀ b ∈ frs X.stack, H b = none := fun b hb => by
  rcases List.mem_cons.mp (I.stkSub b hb) with e | hb
  · rw [e]; exact I.free
  · obtain ⟨_, o, ho, _⟩ := I.ok.funs.mem hb
    exact I.base.free b o ho (I.ok.frf b hb) fun z => I.ok.exfs b z hb

theorem Inv.step {g' : Array GenState} {t' : Nat} {d' : Drawn} {ch : List Addr} (I : Inv X pins σ H s)
    (hch : ∀ b ∈ ch, (b ∈ X.ex ∨ X.s₀.heap.objs.size ≤ b) ∧ b ≠ X.env.locals ∧ (∀ x c, X.env.cells.lookup x = some c → c ≠ b) ∧ ∀ p ∈ X.pn ++ pins, p.1 ≠ b)
    (keep : ∀ b o, b ≠ X.env.locals → b ∉ X.fs → b ∉ ch → s.heap.get? b = some o → H b = none → h'.get? b = some o)
    (slot : ∀ b o, b ≠ X.env.locals → b ∈ X.fs → b ∉ ch → s.heap.get? b = some o → H b = none → ∃ sl, h'.get? b = some { o with slots := sl }) (free : ∀ b o, b ∉ ch → s.heap.get? b = some o → H b = none → H' b = none)
    (there : ∀ b o, b ∉ ch → s.heap.get? b = some o → ∃ o', h'.get? b = some o')
    (tups : ∀ b xs, H b = some (.tup xs) → H' b = some (.tup xs)) (frzs : ∀ b o u, H b = some (.frz o u) → H' b = some (.frz o u)) (tbls : ∀ b ps, H b = some (.tbl ps) → ∃ more, H' b = some (.tbl (ps ++ more)))
    (ns : ∀ m, s.heap.Ns X.env.locals m → h'.Ns X.env.locals m) (hok : HOk X.prog X.w H' h') (hg : AllBare g') :
    Inv X pins σ H' { s with heap := h', gens := g', drawn := d', toks := t' } := by
  have neL : ∀ b o, X.s₀.heap.get? b = some o → b ≠ X.env.locals := fun b o e => Nat.ne_of_lt (Nat.lt_of_lt_of_le (Heap.lt_size e) I.ok.above)
  have neC : ∀ b o, X.s₀.heap.get? b = some o → b ∉ X.ex → b ∉ ch := fun b o e hx hb => by
    rcases (hch b hb).1 with z | z
    · exact hx z
    · exact absurd (Nat.lt_of_lt_of_le (Heap.lt_size e) z) (Nat.lt_irrefl _)
  have cellK : ∀ x c, X.env.cells.lookup x = some c → ∀ v, s.heap.IsCell c v → h'.IsCell c v := fun x c e v ⟨o, ho, hd⟩ => by
    have nch : c ∉ ch := fun z => (hch c z).2.2.1 x c e rfl
    by_cases hc : c ∈ X.fs
    · obtain ⟨sl, q⟩ := slot c o (I.cne x c e) hc nch ho (I.freeC x c e)
      exact ⟨_, q, hd⟩
    · exact ⟨o, keep c o (I.cne x c e) hc nch ho (I.freeC x c e), hd⟩
  refine ⟨I.ok, I.os, hg, ⟨fun b o e n hb hx => ?_, fun b o e n hb hx => ?_, fun b o e n hx => ?_, fun b o e hx => ?_, fun b xs e => tups b xs (I.base.tups b xs e), fun b o xs e => frzs b o xs (I.base.frzs b o xs e), fun b ps e => ?_⟩, ?_, fun x c e => ?_, ?_, fun x c e => ?_, fun p hp => ?_, hok, I.len⟩
  · exact keep b o (neL b o e) hb (neC b o e hx) (I.base.keep b o e n hb hx) (I.base.free b o e n hx)
  · obtain ⟨sl, e1⟩ := I.base.slot b o e n hb hx
    obtain ⟨sl', e2⟩ := slot b _ (neL b o e) hb (neC b o e hx) e1 (I.base.free b o e n hx)
    exact ⟨sl', e2⟩
  · obtain ⟨o', e1⟩ := I.base.there b o e hx
    exact free b o' (neC b o e hx) e1 (I.base.free b o e n hx)
  · obtain ⟨o', e1⟩ := I.base.there b o e hx
    exact there b o' (neC b o e hx) e1
  · obtain ⟨m1, e1⟩ := I.base.tbls b ps e
    obtain ⟨m2, e2⟩ := tbls b _ e1
    exact ⟨m1 ++ m2, by rw [e2, Array.append_assoc]⟩
  · obtain ⟨m, hn, hl⟩ := I.loc
    refine ⟨m, ns m hn, fun i x v e1 e2 e3 => ?_⟩
    obtain ⟨u, r, l⟩ := hl i x v e1 e2 e3
    refine ⟨u, r, ?_⟩
    rcases l with l | ⟨k, c, e, z⟩
    · exact .inl l
    · exact .inr ⟨k, c, e, cellK x c e _ z⟩
  · obtain ⟨v, z⟩ := I.cell x c e
    exact ⟨v, cellK x c e v z⟩
  · obtain ⟨m, ⟨o, _, _, ho, _⟩, _⟩ := I.loc
    exact free _ o (fun z => (hch _ z).2.1 rfl) ho I.free
  · obtain ⟨v, o, ho, hd⟩ := I.cell x c e
    exact free c o (fun z => (hch c z).2.2.1 x c e rfl) ho (I.freeC x c e)
  · obtain ⟨e, n, ne, nf, d⟩ := I.pin p hp
    have nch : p.1 ∉ ch := fun z => (hch p.1 z).2.2.2 p hp rfl
    exact ⟨keep p.1 p.2 ne nf nch e n, free p.1 p.2 nch e n, ne, nf, d⟩
theorem Inv.un {t' : Nat} (I : Inv X pins σ H s) (u : Un X.fs [] H H' s.heap h') (hok : HOk X.prog X.w H' h') : Inv X pins σ H' { s with heap := h', toks := t' } := by
  obtain ⟨m, ⟨o, es, ep, ho, r⟩, _⟩ := id I.loc
  obtain ⟨sl, hL⟩ := u.any ho I.free (by simp)
  exact I.step (g' := s.gens) (d' := s.drawn) (ch := []) (fun _ z => nomatch z) (fun b o _ hb _ e n => u.keep b o e n hb (by simp)) (fun b o _ hb _ e n => u.slot b o e n hb (by simp)) (fun b o _ e n => u.free b o e n (by simp)) (fun b o _ e => u.there b o e (by simp)) u.tups u.frzs u.tbls (fun m' hm => by
    obtain ⟨o', es', ep', ho', r'⟩ := hm
    rw [ho] at ho'; cases ho'
    exact ⟨_, es', ep', hL, r'⟩) hok I.bare
theorem Inv.call {g' : Array GenState} {t' : Nat} {d' : Drawn} {ch : List Addr} (I : Inv X pins σ H s) (u : Un (frs X.stack) ch H H' s.heap h') (hok : HOk X.prog X.w H' h') (hg : AllBare g')
    (hch : ∀ b ∈ ch, (b ∈ X.ex ∨ X.s₀.heap.objs.size ≤ b) ∧ b ≠ X.env.locals ∧ (∀ x c, X.env.cells.lookup x = some c → c ≠ b) ∧ ∀ p ∈ X.pn ++ pins, p.1 ≠ b) :
    Inv X pins σ H' { s with heap := h', gens := g', drawn := d', toks := t' } := by
  obtain ⟨m, ⟨o, es, ep, ho, r⟩, _⟩ := id I.loc
  obtain ⟨sl, hL⟩ := u.any ho I.free fun z => (hch _ z).2.1 rfl
  exact I.step (ch := ch) hch (fun b o hL hb hc e n => u.keep b o e n (fun z => (List.mem_cons.mp (I.stkSub b z)).elim hL hb) hc) (fun b o _ _ hc e n => u.any e n hc) (fun b o hc e n => u.free b o e n hc) (fun b o hc e => u.there b o e hc) u.tups u.frzs u.tbls (fun m' hm => by
    obtain ⟨o', es', ep', ho', r'⟩ := hm
    rw [ho] at ho'; cases ho'
    exact ⟨_, es', ep', hL, r'⟩) hok hg
theorem Inv.turned {t' : Nat} {it : Addr} (I : Inv X pins σ H s) (k : ∀ b o, b ≠ it → s.heap.get? b = some o → h'.get? b = some o) (hn : H it = none) (hL : it ≠ X.env.locals)
    (h1 : it ∈ X.ex ∨ X.s₀.heap.objs.size ≤ it) (h2 : ∀ x c, X.env.cells.lookup x = some c → c ≠ it) (h3 : ∀ p ∈ X.pn ++ pins, p.1 ≠ it) : Inv X pins σ H { s with heap := h', toks := t' } := by
  have nit : ∀ b u, H b = some u → b ≠ it := fun b u e z => by rw [z, hn] at e; cases e
  refine I.step (g' := s.gens) (d' := s.drawn) (ch := [it]) (fun b hb => ?_) (fun b o _ _ hc e _ => k b o (fun z => hc (by simp [z])) e) (fun b o _ _ hc e _ => ⟨o.slots, k b o (fun z => hc (by simp [z])) e⟩) (fun _ _ _ _ n => n)
    (fun b o hc e => ⟨o, k b o (fun z => hc (by simp [z])) e⟩) (fun _ _ e => e) (fun _ _ _ e => e) (fun b ps e => ⟨#[], by rw [e]; simp⟩) (fun m hm => ?_) (fun b u e => ?_) I.bare
  · have e : b = it := by simpa using hb
    subst e
    exact ⟨h1, hL, h2, h3⟩
  · obtain ⟨o, es, ep, ho, r⟩ := hm
    exact ⟨o, es, ep, k _ o (Ne.symm hL) ho, r⟩
  · refine (I.hok b u e).stay (fun c v hc q => k c v ?_ q) (fun _ q => q) fun _ _ q => q
    rcases hc with z | z
    · rw [z]; exact nit b u e
    · exact nit c _ z
theorem Inv.tok (I : Inv X pins σ H s) (t : Nat) : Inv X pins σ H { s with toks := t } := I.un (h' := s.heap) (t' := t) Un.refl I.hok
theorem Inv.kept {t' : Nat} (I : Inv X pins σ H s) (k : ∀ b u, s.heap.get? b = some u → h'.get? b = some u) : Inv X pins σ H { s with heap := h', toks := t' } := I.un (Un.kept k) (I.hok.kept k)
theorem Inv.laid {a : Addr} {o : HO} {t' : Nat} (I : Inv X pins σ H s) (k : ∀ b u, s.heap.get? b = some u → h'.get? b = some u) (hp : s.heap.objs.size ≤ a) (new : ObjOk X.prog X.w (upd H a o) h' a o) :
    Inv X pins σ (upd H a o) { s with heap := h', toks := t' } := I.un (Un.laid k hp (I.hok.fresh hp)) (I.hok.laid k hp new)
theorem Inv.write {x e : Addr} {o : HO} {t' : Nat} (I : Inv X pins σ H s) (mu : Mut (H x)) (he : e = x ∨ H e = some (.own x)) (k : ∀ b u, b ≠ e → s.heap.get? b = some u → h'.get? b = some u) (heo : ∃ u, h'.get? e = some u)
    (new : ObjOk X.prog X.w (upd H x o) h' x o) : Inv X pins σ (upd H x o) { s with heap := h', toks := t' } := I.un (Un.write mu he k heo) (I.hok.write mu he k heo new)
theorem Inv.pins_of {pins' : List (Addr × Obj)} (I : Inv X pins σ H s) (h : ∀ p ∈ pins', s.heap.get? p.1 = some p.2 ∧ H p.1 = none ∧ p.1 ≠ X.env.locals ∧ p.1 ∉ X.fs ∧ ∀ v, p.2.data ≠ .cell v) : Inv X pins' σ H s :=
  ⟨I.ok, I.os, I.bare, I.base, I.loc, I.cell, I.free, I.freeC, fun p hp => (List.mem_append.mp hp).elim (fun z => I.pin p (List.mem_append_left _ z)) (h p), I.hok, I.len⟩

theorem nodup_ix {N : List Str} (hN : N.Nodup) {i j : Nat} {x : Str} (a : N[i]? = some x) (b : N[j]? = some x) : i = j := by
  obtain ⟨h1, e1⟩ := List.getElem?_eq_some_iff.mp a
  obtain ⟨h2, e2⟩ := List.getElem?_eq_some_iff.mp b
  exact (List.getElem_inj hN).mp (e1.trans e2.symm)

theorem store_ok2 {M : Model} {A : Around} {E : Value → Shared → Prop} {i : Nat} {x : Str} {v : V} {u : Value} {Q : Unit → Shared → Prop} (I : Inv X pins σ H s) (hN : X.N.Nodup) (hi : X.N[i]? = some x) (hx : Loc X.env.scope x) (r : RelV v u)
    (h : ∀ s', Inv X pins (σ.set i (some v)) H s' → (∃ a, Heap.SameBut a s.heap s'.heap ∧ (a = X.env.locals ∨ X.env.cells.lookup x = some a)) → Q () s') (hf : autoParam (X.fn x = true ∨ X.env.scope.names.lookup x = some .local) Internal.aut0._auto_1) : wpAny M A (storeName X.env x u) Q E s := by
  obtain ⟨m, hn, hl⟩ := id I.loc
  have hcls : (X.env.scope.kind == .class || (X.env.scope.kind == .module && X.env.locals != X.env.globals)) = false := by rw [I.ok.kind]; rfl
  have hiσ : i < σ.length := by rw [I.len]; exact (List.getElem?_eq_some_iff.mp hi).1
  have cne := I.cne
  have tracked : ∀ {a : Addr} {h' : Heap}, (∃ o, s.heap.get? a = some o ∧ H a = none) → Heap.SameBut a s.heap h' → HOk X.prog X.w H h' := fun {a h'} ha hs b ob e => by
    obtain ⟨_, _, hfree⟩ := ha
    refine (I.hok b ob e).stay (fun c w' hc q => (hs.2 c ?_).trans q) (fun _ q => q) fun _ _ q => q
    rintro rfl
    rcases hc with rfl | hc
    · rw [hfree] at e; cases e
    · rw [hfree] at hc; cases hc
  rcases hx with hk | hk
  · refine wpAny_storeName_local hk hn (fun h' hn' hs => ?_) hcls
    obtain ⟨oL, _, _, hoL, _⟩ := id hn
    refine h _ ⟨I.ok, I.os, I.bare, ⟨fun b o e n hb hx => ?_, fun b o e n hb hx => ?_, I.base.free, fun b o e hx => ?_, I.base.tups, I.base.frzs, I.base.tbls⟩, ⟨_, hn', fun j y v' e1 e2 e3 => ?_⟩, fun y c e => ?_, I.free, I.freeC, fun p hp => ?_, tracked ⟨oL, hoL, I.free⟩ hs, by simpa using I.len⟩ ⟨_, hs, .inl rfl⟩
    · exact (hs.2 b (Nat.ne_of_lt (Nat.lt_of_lt_of_le (Heap.lt_size e) I.ok.above))).trans (I.base.keep b o e n hb hx)
    · obtain ⟨sl, e1⟩ := I.base.slot b o e n hb hx
      exact ⟨sl, (hs.2 b (Nat.ne_of_lt (Nat.lt_of_lt_of_le (Heap.lt_size e) I.ok.above))).trans e1⟩
    · obtain ⟨o', e1⟩ := I.base.there b o e hx
      exact ⟨o', (hs.2 b (Nat.ne_of_lt (Nat.lt_of_lt_of_le (Heap.lt_size e) I.ok.above))).trans e1⟩
    · by_cases hj : j = i
      · subst hj
        rw [hi] at e1; cases e1
        rw [List.getElem?_set_self hiσ] at e2
        cases e2
        exact ⟨u, r, .inl ⟨hk, by simp⟩⟩
      · rw [List.getElem?_set_ne (Ne.symm hj)] at e2
        obtain ⟨u', r', q⟩ := hl j y v' e1 e2 e3
        refine ⟨u', r', ?_⟩
        rcases q with ⟨k, e⟩ | ⟨k, c, e, z⟩
        · refine .inl ⟨k, ?_⟩
          have : y ≠ x := fun e => hj (nodup_ix hN e1 (e ▸ hi))
          simp [this, e]
        · exact .inr ⟨k, c, e, z.sameBut hs (cne y c e)⟩
    · obtain ⟨w', z⟩ := I.cell y c e
      exact ⟨w', z.sameBut hs (cne y c e)⟩
    · obtain ⟨e, n, ne, nf, d⟩ := I.pin p hp
      exact ⟨(hs.2 p.1 ne).trans e, n, ne, nf, d⟩
  · have hfn : X.fn x = true := by
      rcases hf with z | z
      · exact z
      · rw [z] at hk; cases hk
    obtain ⟨c, hc⟩ := I.ok.has x (.inl hk)
    obtain ⟨w', z⟩ := I.cell x c hc
    refine wpAny_storeName_cell I.ok.kind hk hc z (fun h' hc' hs => ?_)
    obtain ⟨oc, hoc, hocd⟩ := id z
    refine h { s with heap := h' } ⟨I.ok, I.os, I.bare, ⟨fun b o e n hb hx => ?_, fun b o e n hb hx => ?_, I.base.free, fun b o e hx => ?_, I.base.tups, I.base.frzs, I.base.tbls⟩, ⟨m, hn.sameBut hs (Ne.symm (cne x c hc)), fun j y v' e1 e2 e3 => ?_⟩, fun y c' e => ?_, I.free, I.freeC, fun p hp => ?_, tracked ⟨oc, hoc, I.freeC x c hc⟩ hs, by simpa using I.len⟩ ⟨c, hs, .inr hc⟩
    · exact (hs.2 b (Nat.ne_of_lt (Nat.lt_of_lt_of_le (Heap.lt_size e) (I.ok.cab x c hfn hc)))).trans (I.base.keep b o e n hb hx)
    · obtain ⟨sl, e1⟩ := I.base.slot b o e n hb hx
      exact ⟨sl, (hs.2 b (Nat.ne_of_lt (Nat.lt_of_lt_of_le (Heap.lt_size e) (I.ok.cab x c hfn hc)))).trans e1⟩
    · obtain ⟨o', e1⟩ := I.base.there b o e hx
      exact ⟨o', (hs.2 b (Nat.ne_of_lt (Nat.lt_of_lt_of_le (Heap.lt_size e) (I.ok.cab x c hfn hc)))).trans e1⟩
    · by_cases hj : j = i
      · subst hj
        rw [hi] at e1; cases e1
        rw [List.getElem?_set_self hiσ] at e2
        cases e2
        exact ⟨u, r, .inr ⟨.inl hk, c, hc, hc'⟩⟩
      · rw [List.getElem?_set_ne (Ne.symm hj)] at e2
        obtain ⟨u', r', q⟩ := hl j y v' e1 e2 e3
        refine ⟨u', r', ?_⟩
        rcases q with q | ⟨k, c', e, z'⟩
        · exact .inl q
        · refine .inr ⟨k, c', e, z'.sameBut hs ?_⟩
          rintro rfl
          exact hj (nodup_ix hN e1 (I.ok.inj _ _ _ e hc ▸ hi))
    · by_cases hcc : c' = c
      · subst hcc; exact ⟨_, hc'⟩
      · obtain ⟨w2, z2⟩ := I.cell y c' e
        exact ⟨w2, z2.sameBut hs hcc⟩
    · obtain ⟨e, n, ne, nf, d⟩ := I.pin p hp
      refine ⟨(hs.2 p.1 ?_).trans e, n, ne, nf, d⟩
      intro q
      rw [q, hoc] at e
      have q' : oc = p.2 := Option.some.inj e
      exact d w' (by rw [← q']; exact hocd)
theorem store_ok {M : Model} {A : Around} {E : Value → Shared → Prop} {i : Nat} {x : Str} {v : V} {u : Value} {Q : Unit → Shared → Prop} (I : Inv X pins σ H s) (hN : X.N.Nodup) (hi : X.N[i]? = some x) (hx : Loc X.env.scope x) (r : RelV v u)
    (h : ∀ s', Inv X pins (σ.set i (some v)) H s' → Q () s') (hf : autoParam (X.fn x = true ∨ X.env.scope.names.lookup x = some .local) Internal.aut0._auto_1) : wpAny M A (storeName X.env x u) Q E s :=
  store_ok2 I hN hi hx r (fun s' I' _ => h s' I') hf
theorem Inv.call' {s' : Shared} {ch : List Addr} (I : Inv X pins σ H s) (ho : s'.os = s.os) (u : Un (frs X.stack) ch H H' s.heap s'.heap) (hok : HOk X.prog X.w H' s'.heap) (hg : AllBare s'.gens)
    (hch : ∀ b ∈ ch, (b ∈ X.ex ∨ X.s₀.heap.objs.size ≤ b) ∧ b ≠ X.env.locals ∧ (∀ x c, X.env.cells.lookup x = some c → c ≠ b) ∧ ∀ p ∈ X.pn ++ pins, p.1 ≠ b) : Inv X pins σ H' s' := by
  obtain ⟨h', g', d', t', o'⟩ := s'
  have e : o' = s.os := ho
  subst e
  exact I.call (g' := g') (t' := t') (d' := d') u hok hg hch
end

noncomputable abbrev XK := Value → Option Addr → Hp → Prop
noncomputable abbrev St := List (Option V)
noncomputable abbrev VK := V → Hp → Prop
noncomputable abbrev TE := St → Hp → VK → Prop
noncomputable abbrev TT := St → Hp → (Bool → Hp → Prop) → Prop
noncomputable abbrev TA := St → Hp → (List V → Hp → Prop) → Prop
set_option genInjectivity false in
set_option genSizeOf false in
structure Ends where
  nx : St → Hp → Prop
  rt : VK
  bk : St → Hp → Prop := fun _ _ => False
  ct : St → Hp → Prop := fun _ _ => False
noncomputable abbrev TS := Ends → St → Hp → Prop

noncomputable def EP (X : Cx) (pins : List (Addr × Obj)) (σ : St) (Q : VK) (u : Value) (s' : Shared) : Prop := ∃ v H', Inv X pins σ H' s' ∧ RelV v u ∧ Q v H'
noncomputable def TP (X : Cx) (pins : List (Addr × Obj)) (σ : St) (Q : Bool → Hp → Prop) (b : Bool) (s' : Shared) : Prop := ∃ H', Inv X pins σ H' s' ∧ Q b H'
noncomputable def AP (X : Cx) (pins : List (Addr × Obj)) (σ : St) (Q : List V → Hp → Prop) (us : List Value) (s' : Shared) : Prop := ∃ vs H', Inv X pins σ H' s' ∧ Vals vs us ∧ Q vs H'
noncomputable def SP (X : Cx) (pins : List (Addr × Obj)) (D : Ends) (f : Flow) (s' : Shared) : Prop :=
  match f with
  | .next => ∃ σ' H', Inv X pins σ' H' s' ∧ D.nx σ' H'
  | .brk => ∃ σ' H', Inv X pins σ' H' s' ∧ D.bk σ' H'
  | .cont => ∃ σ' H', Inv X pins σ' H' s' ∧ D.ct σ' H'
  | .ret u => ∃ v σ' H', Inv X pins σ' H' s' ∧ RelV v u ∧ D.rt v H'

noncomputable def PE (X : Cx) (e : Expr) (t : TE) : Prop :=
  ∀ (pins : List (Addr × Obj)) (s : Shared) (σ : St) (H : Hp) (Q : VK), Inv X pins σ H s → t σ H Q → wpAny (model X.prog X.w) X.A (eval e X.env) (EP X pins σ Q) X.xe s
noncomputable def PT (X : Cx) (e : Expr) (t : TT) : Prop :=
  ∀ (pins : List (Addr × Obj)) (s : Shared) (σ : St) (H : Hp) (Q : Bool → Hp → Prop), Inv X pins σ H s → t σ H Q → wpAny (model X.prog X.w) X.A (isTrue e X.env (eval e X.env)) (TP X pins σ Q) X.xe s
noncomputable def PW (X : Cx) (e : Expr) (t : TT) : Prop :=
  ∀ (whole : Sem Value) (pins : List (Addr × Obj)) (s : Shared) (σ : St) (H : Hp) (Q : Bool → Hp → Prop), Inv X pins σ H s → t σ H Q → wpAny (model X.prog X.w) X.A (isTrue e X.env whole) (TP X pins σ Q) X.xe s
theorem PW.pt {X : Cx} {e : Expr} {t : TT} (h : PW X e t) : PT X e t := h _
noncomputable def PA (X : Cx) (es : List Expr) (t : TA) : Prop :=
  ∀ (pos : Pos) (pins : List (Addr × Obj)) (s : Shared) (σ : St) (H : Hp) (Q : List V → Hp → Prop), Inv X pins σ H s → t σ H Q → wpAny (model X.prog X.w) X.A (spliced (backTo pos (starEach es X.env))) (AP X pins σ Q) X.xe s
noncomputable def PS (X : Cx) (st : Stmt) (t : TS) : Prop :=
  ∀ (pins : List (Addr × Obj)) (s : Shared) (σ : St) (H : Hp) (D : Ends), Inv X pins σ H s → t D σ H → wpAny (model X.prog X.w) X.A (exec st X.env) (SP X pins D) X.xe s
noncomputable def PSs (X : Cx) (st : List Stmt) (t : TS) : Prop :=
  ∀ (pins : List (Addr × Obj)) (s : Shared) (σ : St) (H : Hp) (D : Ends), Inv X pins σ H s → t D σ H → wpAny (model X.prog X.w) X.A (execs st X.env) (SP X pins D) X.xe s
theorem thn {α : Type} {t : Sem α} {Q Q' : α → Shared → Prop} {M : Model} {A : Around} {E : Value → Shared → Prop} {s : Shared} (h : wpAny M A t Q E s) (hQ : ∀ a s, Q a s → Q' a s) : wpAny M A t Q' E s := wpAny_mono h hQ fun _ _ x => x
end Internal

namespace Internal
open PySem PySem.Spec PyProof.Rows
section
variable {X : Cx}

noncomputable def tVar (i : Nat) : TE := fun σ H Q => ∃ v, σ[i]? = some (some v) ∧ Q v H
noncomputable abbrev tC (v : V) : TE := fun _ H Q => Q v H
theorem pe_var {i : Nat} {x : Str} {pos : Pos} (hN : X.N[i]? = some x) (hv : Vis X.env.scope x) (hd : autoParam ((x == ("__debug__" : Str)) = false) Internal.aut1._auto_1) (hcd : autoParam ((x == ("__classdict__" : Str)) = false) Internal.aut1._auto_1) : PE X (.Name x pos) (tVar i) := by
  intro pins s σ H Q I h
  obtain ⟨v, e, h⟩ := h
  obtain ⟨m, hn, hl⟩ := I.loc
  obtain ⟨u, r, l⟩ := hl i x v hN e hv
  have fin : EP X pins σ Q u s := ⟨v, H, I, r, h⟩
  rcases l with ⟨hk, hm⟩ | ⟨hk, c, hc, hcell⟩
  · exact wpAny_Name (wpAny_loadName_local I.ok.kind hk hn hm fin) hd
  · rcases hk with hk | hk
    · exact wpAny_Name (wpAny_loadName_cell I.ok.kind hk hc hcell fin) hd
    · exact wpAny_Name (wpAny_loadName_free I.ok.kind hk hc hcell fin hcd) hd
theorem pe_int {i j pos} : PE X (.Constant (.int i) j pos) (tC (.int i)) := fun _ _ _ H _ I h => wpAny_Constant_int ⟨.int i, H, I.tok _, ⟨_, rfl⟩, h⟩
theorem pe_bl {b j pos} : PE X (.Constant (.bool b) j pos) (tC (.bl b)) := fun _ _ _ H _ I h => Constant_bool ⟨.bl b, H, I, rfl, h⟩
theorem pe_non {j pos} : PE X (.Constant .none j pos) (tC .non) := fun _ _ _ H _ I h => Constant_none ⟨.non, H, I, rfl, h⟩
theorem pe_str {x j pos} : PE X (.Constant (.str x) j pos) (tC (.str x)) := fun _ _ _ H _ I h => Calls.Constant_str ⟨.str x, H, I.tok _, ⟨_, rfl⟩, h⟩

noncomputable def Gl (X : Cx) (x : Str) : Prop := X.env.kindOf x = some .globalImplicit
theorem ld_glob {E : Value → Shared → Prop} {pins : List (Addr × Obj)} {s : Shared} {σ : St} {H : Hp} {x : Str} {u : Value} {pos : Pos} {Q : Value → Shared → Prop} (I : Inv X pins σ H s) (hg : Gl X x) (hm : X.mg x = some u) (h : Q u s)
    (hd : autoParam ((x == ("__debug__" : Str)) = false) Internal.aut1._auto_1) : wpAny (model X.prog X.w) X.A (eval (.Name x pos) X.env) Q E s :=
  Calls.Name_function_global I.ok.kind hg (Calls.loadGlobal_global (by rw [I.ok.glob]; exact I.mod.glob.keeps I.bk) hm h) hd
theorem ld_blt {E : Value → Shared → Prop} {pins : List (Addr × Obj)} {s : Shared} {σ : St} {H : Hp} {x : Str} {u : Value} {pos : Pos} {Q : Value → Shared → Prop} (I : Inv X pins σ H s) (hg : Gl X x) (hm : X.mg x = none) (hv : bootBuiltins x = some u) (h : Q u s)
    (hn : autoParam (x ≠ "__name__") Internal.aut1._auto_1) (hd : autoParam ((x == ("__debug__" : Str)) = false) Internal.aut1._auto_1) : wpAny (model X.prog X.w) X.A (eval (.Name x pos) X.env) Q E s := by
  obtain ⟨mb, h1, h2⟩ := I.mod.blt
  exact Calls.Name_function_global I.ok.kind hg (Calls.loadGlobal_builtin (by rw [I.ok.glob]; exact I.mod.glob.keeps I.bk) hm (by rw [I.ok.blt]; exact h1.keeps I.bk) ((h2 x hn).trans hv) h) hd
theorem pe_glob {x : Str} {v : V} {u : Value} {pos : Pos} (hg : Gl X x) (hm : X.mg x = some u) (r : RelV v u) (hd : autoParam ((x == ("__debug__" : Str)) = false) Internal.aut1._auto_1) : PE X (.Name x pos) (tC v) :=
  fun _ _ _ H _ I h => ld_glob I hg hm ⟨v, H, I, r, h⟩ hd
theorem pe_bltn {x : Str} {v : V} {u : Value} {pos : Pos} (hg : Gl X x) (hm : X.mg x = none) (hv : bootBuiltins x = some u) (r : RelV v u) (hn : autoParam (x ≠ "__name__") Internal.aut1._auto_1) (hd : autoParam ((x == ("__debug__" : Str)) = false) Internal.aut1._auto_1) : PE X (.Name x pos) (tC v) :=
  fun _ _ _ H _ I h => ld_blt I hg hm hv ⟨v, H, I, r, h⟩ hn hd

noncomputable def t2I (ta tb : TE) (k : Int → Int → Hp → Prop) : St → Hp → Prop := fun σ H => ta σ H fun x H1 => tb σ H1 fun y H2 => ∃ i j, x = .int i ∧ y = .int j ∧ k i j H2
variable {a b : Expr} {ta tb : TE} {pos : Pos}
noncomputable def tCmp (p : Int → Int → Bool) (ta tb : TE) : TE := fun σ H Q => t2I ta tb (fun i j H2 => Q (.bl (p i j)) H2) σ H
noncomputable abbrev tLt : TE → TE → TE := tCmp fun i j => decide (i < j)
noncomputable abbrev tLe : TE → TE → TE := tCmp fun i j => decide (i ≤ j)
noncomputable abbrev tGt : TE → TE → TE := tCmp fun i j => decide (j < i)
noncomputable abbrev tGe : TE → TE → TE := tCmp fun i j => decide (j ≤ i)
noncomputable abbrev tEqI : TE → TE → TE := tCmp fun i j => decide (i = j)
noncomputable abbrev tNeI : TE → TE → TE := tCmp fun i j => !decide (i = j)
variable {tA tB' : TT} {rest : List Expr}
noncomputable abbrev tAnd (t u : TT) : TT := fun σ H Q => t σ H fun c H1 => if c = true then u σ H1 Q else Q false H1
noncomputable abbrev tOr (t u : TT) : TT := fun σ H Q => t σ H fun c H1 => if c = true then Q true H1 else u σ H1 Q
noncomputable abbrev tNot (t : TT) : TT := fun σ H Q => t σ H fun c H1 => Q (!c) H1
theorem pw_and1 (ha : PT X a tA) : PW X (.BoolOp .And [a] pos) tA := by
  intro wh pins s σ H Q I h
  refine isTrue_and (thn (ha pins s σ H Q I h) fun c s1 e => ?_)
  cases c with
  | true => exact isTrue_and_nil e
  | false => exact e
theorem pw_or1 (ha : PT X a tA) : PW X (.BoolOp .Or [a] pos) tA := by
  intro wh pins s σ H Q I h
  refine isTrue_or (thn (ha pins s σ H Q I h) fun c s1 e => ?_)
  cases c with
  | false => exact isTrue_or_nil e
  | true => exact e
theorem pw_and (ha : PT X a tA) (hb : PW X (.BoolOp .And (b :: rest) pos) tB') : PW X (.BoolOp .And (a :: b :: rest) pos) (tAnd tA tB') := by
  intro wh pins s σ H Q I h
  refine isTrue_and (thn (ha pins s σ H _ I h) fun c s1 ⟨H1, I1, q1⟩ => ?_)
  cases c with
  | true => exact hb wh pins s1 σ H1 Q I1 q1
  | false => exact ⟨H1, I1, q1⟩
theorem pw_or (ha : PT X a tA) (hb : PW X (.BoolOp .Or (b :: rest) pos) tB') : PW X (.BoolOp .Or (a :: b :: rest) pos) (tOr tA tB') := by
  intro wh pins s σ H Q I h
  refine isTrue_or (thn (ha pins s σ H _ I h) fun c s1 ⟨H1, I1, q1⟩ => ?_)
  cases c with
  | true => exact ⟨H1, I1, q1⟩
  | false => exact hb wh pins s1 σ H1 Q I1 q1
theorem pt_not (ha : PT X a tA) : PT X (.UnaryOp .Not a pos) (tNot tA) := by
  intro pins s σ H Q I h
  exact isTrue_not (ha pins s σ H (fun c H1 => Q (!c) H1) I h)
noncomputable def tAndV (ta tb : TE) : TE := fun σ H Q => ta σ H fun x H1 => ∃ c, x = .bl c ∧ if c = true then tb σ H1 Q else Q (.bl false) H1
theorem pe_one {op} {t : TE} (h : PE X a t) : PE X (.BoolOp op [a] pos) t := fun pins s σ H Q I hw => BoolOp_one (h pins s σ H Q I hw)
theorem pe_and (ha : PE X a ta) (hb : PE X (.BoolOp .And (b :: rest) pos) tb) : PE X (.BoolOp .And (a :: b :: rest) pos) (tAndV ta tb) := by
  intro pins s σ H Q I h
  refine BoolOp_and (thn (ha pins s σ H _ I h) fun v s1 zz => ?_)
  obtain ⟨x, H1, I1, r1, q1⟩ := zz
  obtain ⟨c, rfl, q1⟩ := q1
  cases r1
  refine wpAny_truthy_bool ?_
  cases c with
  | true => exact hb pins s1 σ H1 Q I1 q1
  | false => exact ⟨.bl false, H1, I1, rfl, q1⟩
noncomputable abbrev tIf (t : TT) (ta tb : TE) : TE := fun σ H Q => t σ H fun c H1 => if c = true then ta σ H1 Q else tb σ H1 Q
theorem pe_ifExp {c : Expr} (hc : PT X c tA) (ha : PE X a ta) (hb : PE X b tb) : PE X (.IfExp c a b pos) (tIf tA ta tb) := by
  intro pins s σ H Q I h
  refine wpAny_IfExp (thn (hc pins s σ H _ I h) fun d s1 ⟨H1, I1, q1⟩ => ?_)
  cases d with
  | true => exact ha pins s1 σ H1 Q I1 q1
  | false => exact hb pins s1 σ H1 Q I1 q1
end
end Internal

namespace Internal
open PySem PySem.Spec PyProof.Rows

noncomputable def SqL (K : PySem.W.Frag) (H : Hp) (a : Addr) (xs : List V) : Prop :=
  Rd H a (.lst xs) ∨
    ∃ (o : Obj) (its : Array Value) (n : Nat), K.lookup a = some o ∧ o.cls = .type "list" ∧ o.dict = none ∧ o.data = .seq its n ∧ its.size ≤ sizeLine ∧ Vals xs its.toList
noncomputable def SqT (K : PySem.W.Frag) (H : Hp) (a : Addr) (xs : List V) : Prop :=
  Rd H a (.tup xs) ∨
    ∃ (o : Obj) (its : Array Value) (n : Nat), K.lookup a = some o ∧ o.cls = .type "tuple" ∧ o.data = .seq its n ∧ its.size ≤ sizeLine ∧ Vals xs its.toList
noncomputable def absV : Value → Option V
  | .none => some .non
  | .bool b => some (.bl b)
  | .int i _ => some (.int i)
  | .str x _ => some (.str x)
  | .bytes b _ => some (.byt b)
  | .float b _ => some (.flt b)
  | .ref a => some (.ref a)
  | .type n => some (.ty n)
  | _ => none
theorem RelV.abs {x : V} {u : Value} (r : RelV x u) : absV u = some x := by
  cases x with
  | non => cases r; rfl
  | bl _ => cases r; rfl
  | int _ => obtain ⟨t, rfl⟩ := r; rfl
  | str _ => obtain ⟨t, rfl⟩ := r; rfl
  | byt _ => obtain ⟨t, rfl⟩ := r; rfl
  | flt _ => obtain ⟨t, rfl⟩ := r; rfl
  | ref _ => cases r; rfl
  | ty _ => cases r; rfl
theorem RelV.inj {x y : V} {u : Value} (r : RelV x u) (q : RelV y u) : x = y := Option.some.inj (r.abs.symm.trans q.abs)
theorem Vals.inj : ∀ {xs ys : List V} {us : List Value}, Vals xs us → Vals ys us → xs = ys
  | _, _, _, .nil, .nil => rfl
  | _, _, _, .cons r t, .cons r' t' => by rw [r.inj r', Vals.inj t t']
section
variable {X : Cx} {pins : List (Addr × Obj)} {σ : St} {H : Hp} {s : Shared} {a : Addr} {xs ys : List V}
theorem SqL.of {K : PySem.W.Frag} (h : H a = some (.lst xs)) : SqL K H a xs := .inl (.inl h)
theorem SqT.of {K : PySem.W.Frag} (h : H a = some (.tup xs)) : SqT K H a xs := .inl (.inl h)
theorem Inv.list (I : Inv X pins σ H s) (h : SqL X.K H a xs) : ∃ its : List Value, Vals xs its ∧ PlainL s.heap a its.toArray ∧ xs.length ≤ sizeLine := by
  rcases h with h | ⟨o, its, n, hk, hc, hd, hs, hz, r⟩
  · obtain ⟨z, its, n, r, e⟩ := h.ok I.hok
    exact ⟨its, r, ⟨_, n, e, rfl, rfl, rfl⟩, z⟩
  · refine ⟨its.toList, r, ⟨o, n, I.kIn a o hk, hc, hd, by simpa using hs⟩, ?_⟩
    have e := r.length
    simp only [Array.length_toList] at e
    omega
theorem Inv.tuple (I : Inv X pins σ H s) (h : SqT X.K H a xs) : ∃ its : List Value, Vals xs its ∧ IsTup s.heap a its.toArray ∧ xs.length ≤ sizeLine := by
  rcases h with h | ⟨o, its, n, hk, hc, hs, hz, r⟩
  · obtain ⟨z, its, r, p⟩ := h.ok I.hok
    exact ⟨its, r, p, z⟩
  · refine ⟨its.toList, r, ⟨o, I.kIn a o hk, hc, n, by simpa using hs⟩, ?_⟩
    have e := r.length
    simp only [Array.length_toList] at e
    omega
theorem Inv.list_inj (I : Inv X pins σ H s) (h : SqL X.K H a xs) (h' : SqL X.K H a ys) : xs = ys := by
  obtain ⟨its, r, ⟨o, n, e, _, _, d⟩, _⟩ := I.list h
  obtain ⟨its', r', ⟨o', n', e', _, _, d'⟩, _⟩ := I.list h'
  rw [e] at e'; cases e'
  rw [d] at d'
  injection d' with d1 _
  have : its = its' := by simpa using congrArg Array.toList d1
  subst this
  exact r.inj r'
end

noncomputable abbrev Cx.wish (X : Cx) (E : Value → Shared → Prop) : Cx := { X with xe := E }
noncomputable abbrev Cx.nox (X : Cx) : Cx := X.wish fun _ _ => False
theorem Cx.Ok.wish {X : Cx} (ok : X.Ok) (E : Value → Shared → Prop) : (X.wish E).Ok :=
  ⟨ok.mod, ok.kind, ok.glob, ok.blt, ok.above, ok.inj, ok.has, ok.cab, ok.hd, ok.frames, ok.stk, ok.exf, ok.bs, ok.bsz, ok.noex, ok.exfs, ok.funs, ok.frf⟩
theorem Cx.Ok.unwish {X : Cx} {E : Value → Shared → Prop} (ok : (X.wish E).Ok) : X.Ok :=
  ⟨ok.mod, ok.kind, ok.glob, ok.blt, ok.above, ok.inj, ok.has, ok.cab, ok.hd, ok.frames, ok.stk, ok.exf, ok.bs, ok.bsz, ok.noex, ok.exfs, ok.funs, ok.frf⟩
section
variable {X : Cx} {pins : List (Addr × Obj)} {σ : St} {H : Hp} {s : Shared} {E : Value → Shared → Prop}
theorem Inv.wish (I : Inv X pins σ H s) (E : Value → Shared → Prop) : Inv (X.wish E) pins σ H s := ⟨I.ok.wish E, I.os, I.bare, I.base, I.loc, I.cell, I.free, I.freeC, I.pin, I.hok, I.len⟩
theorem Inv.unwish (I : Inv (X.wish E) pins σ H s) : Inv X pins σ H s := ⟨I.ok.unwish, I.os, I.bare, I.base, I.loc, I.cell, I.free, I.freeC, I.pin, I.hok, I.len⟩
theorem SP.unwish {D : Ends} {f : Flow} {s' : Shared} (h : SP (X.wish E) pins D f s') : SP X pins D f s' := by
  cases f with
  | next => obtain ⟨σ', H', I, q⟩ := h; exact ⟨σ', H', I.unwish, q⟩
  | brk => obtain ⟨σ', H', I, q⟩ := h; exact ⟨σ', H', I.unwish, q⟩
  | cont => obtain ⟨σ', H', I, q⟩ := h; exact ⟨σ', H', I.unwish, q⟩
  | ret u => obtain ⟨v, σ', H', I, r, q⟩ := h; exact ⟨v, σ', H', I.unwish, r, q⟩
theorem PSs.nox {st : List Stmt} {t : TS} (h : PSs X.nox st t) : PSs X st t := fun pins s σ H D I hw =>
  wpAny_mono (h pins s σ H D (I.wish _) hw) (fun _ _ q => q.unwish) fun _ _ z => False.elim z
end

section
variable {X : Cx} {st : Stmt} {rest : List Stmt} {t u : TS} {e : Expr} {te : TE} {pos : Pos}
noncomputable abbrev tNext : TS := fun D σ H => D.nx σ H
noncomputable abbrev tSeq (t u : TS) : TS := fun D σ H => t { D with nx := u D } σ H
theorem pss_nil : PSs X [] tNext := fun _ _ σ H _ I h => wpAny_execs_nil ⟨σ, H, I, h⟩
theorem pss_cons (h1 : PS X st t) (h2 : PSs X rest u) : PSs X (st :: rest) (tSeq t u) := by
  intro pins s σ H D I h
  refine wpAny_execs_cons (thn (h1 pins s σ H { D with nx := u D } I h) fun f s1 q => ?_)
  cases f with
  | next =>
    obtain ⟨σ', H', I', q⟩ := q
    exact h2 pins s1 σ' H' D I' q
  | ret v => exact q
  | brk => exact q
  | cont => exact q
theorem pss_one (h1 : PS X st t) : PSs X [st] t := by
  intro pins s σ H D I h
  refine wpAny_execs_cons (thn (h1 pins s σ H D I h) fun f s1 q => ?_)
  cases f with
  | next => exact wpAny_execs_nil q
  | ret v => exact q
  | brk => exact q
  | cont => exact q
noncomputable abbrev tBreak : TS := fun D σ H => D.bk σ H
noncomputable abbrev tCont : TS := fun D σ H => D.ct σ H
theorem Inv.quiet {pins : List (Addr × Obj)} {σ : St} {H : Hp} {s : Shared} (I : Inv X pins σ H s) : interactive X.env = false := by simp [interactive, I.ok.kind]
noncomputable abbrev tDrop (te : TE) : TS := fun D σ H => te σ H fun _ H1 => D.nx σ H1
theorem ps_expr (he : PE X e te) (hs : autoParam (swapsWith e none pos.line X.env = pure false) Internal.aut2._auto_1) : PS X (.Expr e pos) (tDrop te) := by
  intro pins s σ H D I h
  exact wpAny_Expr_any (thn (he pins s σ H _ I h) fun v s1 ⟨x, H1, I1, r1, q1⟩ => ⟨σ, H1, I1, q1⟩) I.quiet hs
noncomputable abbrev tRet (te : TE) : TS := fun D σ H => te σ H D.rt
theorem ps_ret (he : PE X e te) : PS X (.Return (some e) pos) (tRet te) := by
  intro pins s σ H D I h
  exact wpAny_Return_some (thn (he pins s σ H _ I h) fun v s1 ⟨x, H1, I1, r1, q1⟩ => ⟨x, σ, H1, I1, r1, q1⟩)
noncomputable abbrev tRetN : TS := fun D _ H => D.rt .non H
noncomputable abbrev tIfS (c : TT) (t u : TS) : TS := fun D σ H => c σ H fun b H1 => if b = true then t D σ H1 else u D σ H1
theorem ps_if {c : Expr} {a b : List Stmt} {tc : TT} (hc : PT X c tc) (ha : PSs X a t) (hb : PSs X b u) : PS X (.If c a b pos) (tIfS tc t u) := by
  intro pins s σ H D I h
  refine wpAny_If (thn (hc pins s σ H _ I h) fun d s1 ⟨H1, I1, q1⟩ => ?_)
  cases d with
  | true => exact ha pins s1 σ H1 D I1 q1
  | false => exact hb pins s1 σ H1 D I1 q1
end

noncomputable abbrev TG := V → St → Hp → (St → Hp → Prop) → Prop
noncomputable abbrev TGs := List V → St → Hp → (St → Hp → Prop) → Prop
noncomputable def PG (X : Cx) (target : Expr) (t : TG) : Prop :=
  ∀ (pins : List (Addr × Obj)) (s : Shared) (σ : St) (H : Hp) (v : V) (u : Value) (Q : St → Hp → Prop), Inv X pins σ H s → RelV v u → t v σ H Q →
    wpAny (model X.prog X.w) X.A (assign target X.env u) (fun _ s' => ∃ σ' H', Inv X pins σ' H' s' ∧ Q σ' H') X.xe s
noncomputable def PGs (X : Cx) (ts : List Expr) (t : TGs) : Prop :=
  ∀ (pins : List (Addr × Obj)) (s : Shared) (σ : St) (H : Hp) (vs : List V) (us : List Value) (Q : St → Hp → Prop), Inv X pins σ H s → Vals vs us → t vs σ H Q →
    wpAny (model X.prog X.w) X.A (assignInOrder ((assignEach ts X.env).map (·.2)) us) (fun _ s' => ∃ σ' H', Inv X pins σ' H' s' ∧ Q σ' H') X.xe s
noncomputable abbrev TSet := V → V → V → Hp → (Hp → Prop) → Prop
noncomputable def PSet (X : Cx) (t : TSet) : Prop :=
  ∀ (pins : List (Addr × Obj)) (s : Shared) (σ : St) (H : Hp) (o i v : V) (ov iv u : Value) (Q : Hp → Prop), Inv X pins σ H s → RelV o ov → RelV i iv → RelV v u → t o i v H Q →
    wpAny (model X.prog X.w) X.A (setItem ov iv u) (fun _ s' => ∃ H', Inv X pins σ H' s' ∧ Q H') X.xe s
noncomputable abbrev TIp := V → V → Hp → VK → Prop
noncomputable def PIp (X : Cx) (op : Operator) (t : TIp) : Prop :=
  ∀ (pins : List (Addr × Obj)) (s : Shared) (σ : St) (H : Hp) (x y : V) (v u : Value) (Q : VK), Inv X pins σ H s → RelV x v → RelV y u → t x y H Q →
    wpAny (model X.prog X.w) X.A (inplaceOp op v u) (EP X pins σ Q) X.xe s
section
variable {X : Cx} {pos : Pos}
noncomputable abbrev gName (i : Nat) : TG := fun v σ H Q => Q (σ.set i (some v)) H
theorem pg_name {i : Nat} {x : Str} (hN : X.N.Nodup) (hi : X.N[i]? = some x) (hx : Loc X.env.scope x) (hf : autoParam (X.fn x = true ∨ X.env.scope.names.lookup x = some .local) Internal.aut0._auto_1) : PG X (.Name x pos) (gName i) := by
  intro pins s σ H v u Q I r h
  exact wpAny_assign_Name (store_ok I hN hi hx r (fun s' I' => ⟨_, H, I', h⟩) hf)
noncomputable def gNil : TGs := fun vs σ H Q => vs = [] ∧ Q σ H
noncomputable def gCons (t : TG) (u : TGs) : TGs := fun vs σ H Q => ∃ v r, vs = v :: r ∧ t v σ H fun σ' H' => u r σ' H' Q
theorem pgs_nil : PGs X [] gNil := by
  intro pins s σ H vs us Q I r h
  obtain ⟨e, h⟩ := h
  subst e
  cases r
  exact assignInOrder_nil ⟨σ, H, I, h⟩
theorem pgs_cons {e : Expr} {es : List Expr} {t : TG} {u : TGs} (h1 : PG X e t) (h2 : PGs X es u)
    (hs : autoParam ((assignEach (e :: es) X.env).map (·.2) = assign e X.env :: (assignEach es X.env).map (·.2)) Internal.aut2._auto_1) : PGs X (e :: es) (gCons t u) := by
  intro pins s σ H vs us Q I r h
  obtain ⟨v, vr, e1, h⟩ := h
  subst e1
  cases r with
  | cons r rr =>
    rw [hs]
    refine assignInOrder_cons (thn (h1 pins s σ H _ _ _ I r h) fun _ s1 zz => ?_)
    obtain ⟨σ1, H1, I1, q1⟩ := zz
    exact h2 pins s1 σ1 H1 _ _ Q I1 rr q1
noncomputable def gTup (K : PySem.W.Frag) (n : Nat) (t : TGs) : TG := fun v σ H Q => ∃ a xs, v = .ref a ∧ SqT K H a xs ∧ xs.length = n ∧ t xs σ H Q
theorem pg_tup {es : List Expr} {k : Nat} {t : TGs} {n : Nat} (hc : X.calm = true) (h : PGs X es t)
    (hn : autoParam ((assignEach es X.env).length = n) Internal.aut2._auto_1) (hst : autoParam ((assignEach es X.env).findIdx? (·.1) = none) Internal.aut2._auto_1) : PG X (.Tuple es k pos) (gTup X.K n t) := by
  intro pins s σ H v u Q I r hw
  obtain ⟨a, xs, e1, hq, hl, hw⟩ := hw
  subst e1
  cases r
  obtain ⟨its, rv, ht, hz⟩ := I.tuple hq
  refine assign_Tuple_tuple (I.ok.hd hc) ht (by simp [hn, ← hl, rv.length]) hst fun h' hx => ?_
  have I1 : Inv X pins σ H { s with heap := h' } := I.kept (t' := s.toks) fun b o e => hx b o (Nat.ne_of_lt (Heap.lt_size e)) e
  exact h pins _ σ H xs _ Q I1 (by simpa using rv) hw
noncomputable abbrev gSub (to ti : TE) (t : TSet) : TG := fun v σ H Q => to σ H fun o H1 => ti σ H1 fun i H2 => t o i v H2 fun H3 => Q σ H3
theorem pg_sub {o i : Expr} {to ti : TE} {t : TSet} (ho : PE X o to) (hi : PE X i ti) (hs : PSet X t)
    (ha : autoParam (∀ v, assign (.Subscript o i pos) X.env v = (do
      let ov ← holding [v] (eval o X.env)
      let iv ← holding [v, ov] (eval i X.env)
      standAt pos
      holding [v, ov, iv] (setItem ov iv v)
      release [v, ov, iv] [])) Internal.aut3._auto_1) : PG X (.Subscript o i pos) (gSub to ti t) := by
  intro pins s σ H v u Q I r h
  rw [ha]
  refine wpAny_bind (wpAny_holding (thn (ho pins s σ H _ I h) fun ov s1 zz => ?_))
  obtain ⟨x, H1, I1, r1, q1⟩ := zz
  refine wpAny_bind (wpAny_holding (thn (hi pins s1 σ H1 _ I1 q1) fun iv s2 zz => ?_))
  obtain ⟨y, H2, I2, r2, q2⟩ := zz
  refine wpAny_bind (wpAny_standAt (wpAny_bind (wpAny_holding (thn (hs pins s2 σ H2 x y v ov iv u _ I2 r1 r2 r q2) fun _ s3 ⟨H3, I3, q3⟩ => ?_))))
  exact wpAny_release ⟨σ, H3, I3, q3⟩
noncomputable abbrev tAsg (te : TE) (g : TG) : TS := fun D σ H => te σ H fun x H1 => g x σ H1 D.nx
theorem ps_asg {tg e : Expr} {te : TE} {g : TG} (he : PE X e te) (hg : PG X tg g) (hs : autoParam (swapsWithSole [tg] e pos.line X.env = pure false) Internal.aut2._auto_1) (hw : autoParam (swappedStores [tg] e X.env = pure none) Internal.aut2._auto_1)
    (h1 : autoParam ((assignEach [tg] X.env).map (·.2) = [assign tg X.env]) Internal.aut2._auto_1) : PS X (.Assign [tg] e pos) (tAsg te g) := by
  intro pins s σ H D I h
  refine wpAny_Assign_stores (thn (he pins s σ H _ I h) fun v s1 zz => ?_) hs hw
  obtain ⟨x, H1, I1, r1, q1⟩ := zz
  rw [h1]
  exact thn (hg pins s1 σ H1 x v _ I1 r1 q1) fun _ s2 q => q
theorem ps_set {i : Nat} {x : Str} {e : Expr} {te : TE} {pos' : Pos} (hN : X.N.Nodup) (hi : X.N[i]? = some x) (hx : Loc X.env.scope x) (he : PE X e te) (hs : autoParam (swapsWith e (some (.Name x pos')) pos.line X.env = pure false) Internal.aut2._auto_1) (hf : autoParam (X.fn x = true ∨ X.env.scope.names.lookup x = some .local) Internal.aut0._auto_1) :
    PS X (.Assign [.Name x pos'] e pos) (tAsg te (gName i)) := by
  intro pins s σ H D I h
  refine wpAny_Assign_Name (thn (he pins s σ H _ I h) fun v s1 zz => ?_) hs
  obtain ⟨y, H1, I1, r1, q1⟩ := zz
  exact store_ok I1 hN hi hx r1 (fun s2 I2 => ⟨_, H1, I2, q1⟩) hf
noncomputable def tAugS (to ti te : TE) (tget : V → V → Hp → VK → Prop) (tip : TIp) (tset : TSet) : TS := fun D σ H => to σ H fun o H1 => ti σ H1 fun i H2 => tget o i H2 fun x H3 => te σ H3 fun y H4 => tip x y H4 fun z H5 => tset o i z H5 fun H6 => D.nx σ H6
noncomputable def PGet (X : Cx) (t : V → V → Hp → VK → Prop) : Prop :=
  ∀ (pins : List (Addr × Obj)) (s : Shared) (σ : St) (H : Hp) (o i : V) (ov iv : Value) (Q : VK), Inv X pins σ H s → RelV o ov → RelV i iv → t o i H Q →
    wpAny (model X.prog X.w) X.A (getItem ov iv) (EP X pins σ Q) X.xe s
theorem ps_augS {o i e : Expr} {to ti te : TE} {tget : V → V → Hp → VK → Prop} {tip : TIp} {tset : TSet} {op : Operator} {tpos : Pos} (ho : PE X o to) (hi : PE X i ti) (hg : PGet X tget) (he : PE X e te) (hp : PIp X op tip) (hs : PSet X tset)
    (ha : autoParam (∀ ov iv new, augStore i ov iv new = (do holding [new, ov, iv] (setItem ov iv new); release [new, ov, iv] []; pure .next)) Internal.aut4._auto_1) : PS X (.AugAssign (.Subscript o i tpos) op e pos) (tAugS to ti te tget tip tset) := by
  intro pins s σ H D I h
  refine wpAny_AugAssign_SubscriptAny (thn (ho pins s σ H _ I h) fun ov s1 zz => ?_) ha
  obtain ⟨x1, H1, I1, r1, q1⟩ := zz
  refine thn (hi pins s1 σ H1 _ I1 q1) fun iv s2 zz => ?_
  obtain ⟨x2, H2, I2, r2, q2⟩ := zz
  refine thn (hg pins s2 σ H2 x1 x2 ov iv _ I2 r1 r2 q2) fun old s3 zz => ?_
  obtain ⟨x3, H3, I3, r3, q3⟩ := zz
  refine thn (he pins s3 σ H3 _ I3 q3) fun v s4 zz => ?_
  obtain ⟨x4, H4, I4, r4, q4⟩ := zz
  refine thn (hp pins s4 σ H4 x3 x4 old v _ I4 r3 r4 q4) fun new s5 zz => ?_
  obtain ⟨x5, H5, I5, r5, q5⟩ := zz
  exact thn (hs pins s5 σ H5 x1 x2 x5 ov iv new _ I5 r1 r2 r5 q5) fun _ s6 ⟨H6, I6, q6⟩ => ⟨σ, H6, I6, q6⟩
noncomputable def ipI (f : Int → Int → Int) : TIp := fun x y H Q => ∃ i j, x = .int i ∧ y = .int j ∧ Q (.int (f i j)) H
theorem ip_add : PIp X .Add (ipI fun i j => i + j) := by
  intro pins s σ H x y v u Q I r1 r2 h
  obtain ⟨i, j, e1, e2, q⟩ := h
  subst e1; subst e2
  obtain ⟨t, rfl⟩ := r1
  obtain ⟨t', rfl⟩ := r2
  exact iadd_int ⟨.int _, H, I.tok _, ⟨_, rfl⟩, q⟩
theorem ip_sub : PIp X .Sub (ipI fun i j => i - j) := by
  intro pins s σ H x y v u Q I r1 r2 h
  obtain ⟨i, j, e1, e2, q⟩ := h
  subst e1; subst e2
  obtain ⟨t, rfl⟩ := r1
  obtain ⟨t', rfl⟩ := r2
  exact isub_int ⟨.int _, H, I.tok _, ⟨_, rfl⟩, q⟩
end

section
variable {X : Cx} {pos : Pos}
noncomputable def tWhile (c : TT) (tb : TS) : TS := fun D σ H => ∃ W : Nat → St → Hp → Prop, (∃ m, W m σ H) ∧ ∀ m σ H, W m σ H →
  c σ H fun b H1 => if b = true then ∃ N : St → Hp → Prop, (∀ σ' H', N σ' H' → ∃ m', m' < m ∧ W m' σ' H') ∧ tb { D with nx := N, ct := N, bk := D.nx } σ H1 else D.nx σ H1
theorem ps_while {c : Expr} {body : List Stmt} {tc : TT} {tb : TS} (hp : PassesOwn (model X.prog X.w) X.A X.env X.xe) (hc : PT X c tc) (hb : PSs X body tb) : PS X (.While c body [] pos) (tWhile tc tb) := by
  intro pins s σ H D I h
  obtain ⟨W, ⟨m0, w0⟩, turn⟩ := h
  refine wpAny_While (codeAny_whileLoop (fun n s' => ∃ σ' H', Inv X pins σ' H' s' ∧ W n σ' H') ?_ m0 ⟨σ, H, I, w0⟩)
  rintro n s1 ⟨σ1, H1, I1, w1⟩
  refine wpAny_passesOwn hp (thn (hc pins s1 σ1 H1 _ I1 (turn n σ1 H1 w1)) fun b s2 ⟨H2, I2, q2⟩ => ?_)
  cases b with
  | true =>
    obtain ⟨N, hN, q2⟩ := q2
    rw [if_pos rfl]
    refine wpAny_passesOwn hp (thn (hb pins s2 σ1 H2 _ I2 q2) fun f s3 q3 => ?_)
    cases f with
    | next =>
      obtain ⟨σ3, H3, I3, n3⟩ := q3
      obtain ⟨m', hm, w3⟩ := hN σ3 H3 n3
      exact ⟨m', hm, σ3, H3, I3, w3⟩
    | cont =>
      obtain ⟨σ3, H3, I3, n3⟩ := q3
      obtain ⟨m', hm, w3⟩ := hN σ3 H3 n3
      exact ⟨m', hm, σ3, H3, I3, w3⟩
    | brk => exact q3
    | ret v => exact q3
  | false =>
    rw [if_neg Bool.false_ne_true]
    exact wpAny_execs_nil ⟨σ1, H2, I2, q2⟩
end

set_option genInjectivity false in
set_option genSizeOf false in
structure It where
  go : Nat → Hp → Prop
  yld : Nat → Hp → V → Hp → Prop
  stop : Nat → Hp → Prop
noncomputable def FpOk (X : Cx) (pins : List (Addr × Obj)) (H : Hp) (b : Addr) : Prop :=
  H b = none ∧ b ≠ X.env.locals ∧ b ∉ X.fs ∧ (b ∈ X.ex ∨ X.s₀.heap.objs.size ≤ b) ∧ (∀ x c, X.env.cells.lookup x = some c → c ≠ b) ∧ ∀ p ∈ X.pn ++ pins, p.1 ≠ b
theorem Inv.fpOk {X : Cx} {pins : List (Addr × Obj)} {σ : St} {H H' : Hp} {s : Shared} {b : Addr} (I : Inv X pins σ H s) (hb : s.heap.objs.size ≤ b) (hn : H' b = none) : FpOk X pins H' b := by
  refine ⟨hn, Nat.ne_of_gt (Nat.lt_of_lt_of_le I.lt hb), I.nofs hb, .inr (Nat.le_trans I.sz hb), fun x c e z => ?_, fun p hp z => ?_⟩
  · obtain ⟨v, q⟩ := I.cell x c e
    exact absurd (Nat.lt_of_lt_of_le q.lt (by rw [z]; exact hb)) (Nat.lt_irrefl _)
  · exact absurd (Nat.lt_of_lt_of_le (Heap.lt_size (I.pin p hp).1) (by rw [z]; exact hb)) (Nat.lt_irrefl _)
set_option genInjectivity false in
set_option genSizeOf false in
structure Turn (P : Program) (w : World) (K : PySem.W.Frag) (tg : Expr) (J : It) (fp : List Addr) (it : Addr) (tn : Nat → Heap → Prop) : Prop where
  mem : it ∈ fp
  obj : ∀ i h, tn i h → ∀ b ∈ fp, ∃ o, h.get? b = some o ∧ ∀ v, o.data ≠ .cell v
  keep : ∀ i h h', tn i h → (∀ b ∈ fp, ∀ o, h.get? b = some o → h'.get? b = some o) → tn i h'
  item : ∀ (X : Cx), X.prog = P → X.w = w → X.K = K → X.calm = true → ∀ (i : Nat) (pins : List (Addr × Obj)) (s : Shared) (σ : St) (H : Hp) (E : Value → Shared → Prop), Inv X pins σ H s → (∀ b ∈ fp, FpOk X pins H b) → tn i s.heap → J.go i H →
    wpAny (model P w) X.A (pyNext (.ref it)) (fun r s1 => ∃ u, r = some u ∧
      wpAny (model P w) X.A (letOwnedTupleGo tg (.ref it) u) (fun _ s2 => ∃ x H', Inv X pins σ H' s2 ∧ RelV x u ∧ J.yld i H x H' ∧ tn (i + 1) s2.heap ∧ ∀ b ∈ fp, H' b = none) E s1) E s
  done : ∀ (X : Cx), X.prog = P → X.w = w → X.K = K → X.calm = true → ∀ (i : Nat) (pins : List (Addr × Obj)) (s : Shared) (σ : St) (H : Hp) (E : Value → Shared → Prop), Inv X pins σ H s → (∀ b ∈ fp, FpOk X pins H b) → tn i s.heap → J.stop i H →
    wpAny (model P w) X.A (pyNext (.ref it)) (fun r s1 => r = none ∧ Inv X pins σ H s1) E s
  self : ∀ (A : Around) (i : Nat) (s : Shared) (Q : Value → Shared → Prop) (E : Value → Shared → Prop), tn i s.heap → Q (.ref it) s → wpAny (model P w) A (pyIter (.ref it)) Q E s
noncomputable abbrev TI := St → Hp → (It → Hp → Prop) → Prop
noncomputable def PIE (X : Cx) (pins : List (Addr × Obj)) (σ : St) (tg : Expr) (R : It → Hp → Prop) (itv : Value) (s2 : Shared) : Prop :=
  ∃ (it : Addr) (fp : List Addr) (tn : Nat → Heap → Prop) (J : It) (H' : Hp), itv = .ref it ∧ Inv X pins σ H' s2 ∧ Turn X.prog X.w X.K tg J fp it tn ∧ tn 0 s2.heap ∧ (∀ b ∈ fp, FpOk X pins H' b) ∧ R J H'
noncomputable def PI (X : Cx) (tg iter : Expr) (wi : TI) : Prop :=
  ∀ (pins : List (Addr × Obj)) (s : Shared) (σ : St) (H : Hp) (R : It → Hp → Prop), Inv X pins σ H s → wi σ H R →
    wpAny (model X.prog X.w) X.A (eval iter X.env) (fun v s1 => wpAny (model X.prog X.w) X.A (pyIter v) (PIE X pins σ tg R) X.xe s1) X.xe s

theorem go_of {M : Model} {A : Around} {E : Value → Shared → Prop} {s : Shared} {tg : Expr} {it : Addr} {u : Value} {o : Obj} {n : String} {vs : Array Value} {Q : Unit → Shared → Prop} (ho : s.heap.get? it = some o) (hc : o.cls = .type n) (hd : o.data = .fields vs)
    (hn : ["enumerate", "zip", "dict_itemiterator", "dict_reverseitemiterator", "odict_iterator", "itertools.zip_longest", "itertools.pairwise"].contains n = false) (hQ : Q () s) : wpAny M A (letOwnedTupleGo tg (.ref it) u) Q E s := by
  unfold letOwnedTupleGo
  cases tg <;> first
    | exact wpAny_pure hQ
    | (cases u <;> first
        | exact wpAny_pure hQ
        | (refine wpAny_bind (wpAny_load ho ?_)
           rw [hc, hd]
           show wpAny M A (if (["enumerate", "zip", "dict_itemiterator", "dict_reverseitemiterator", "odict_iterator", "itertools.zip_longest", "itertools.pairwise"].contains n && vs[0]? == some (rawInt _)) = true then _ else _) Q E s
           rw [if_neg (by intro h; rw [hn, Bool.false_and] at h; cases h)]
           exact wpAny_pure hQ))

noncomputable def Itl (K : PySem.W.Frag) (a : Addr) : It :=
  ⟨fun i H => ∃ xs x, SqL K H a xs ∧ xs[i]? = some x, fun i H x H' => H' = H ∧ ∀ xs, SqL K H a xs → xs[i]? = some x, fun i H => ∃ xs, SqL K H a xs ∧ xs.length ≤ i⟩
noncomputable def Itr (lo : Int) (n : Nat) : It := ⟨fun i _ => i < n, fun i H x H' => H' = H ∧ x = .int (lo + i), fun i _ => n ≤ i⟩
theorem turn_list {P : Program} {w : World} {K : PySem.W.Frag} {tg : Expr} (a it : Addr) : Turn P w K tg (Itl K a) [it] it (fun i h => h.IsListIter it a i) where
  mem := by simp
  obj := fun i h st b hb => by
    have e : b = it := by simpa using hb
    subst e
    obtain ⟨o, e, c, d⟩ := st
    exact ⟨o, e, fun v z => by rw [d] at z; cases z⟩
  keep := fun i h h' st k => st.at fun o e => k it (by simp) o e
  item := by
    intro X hP hw hK hc i pins s σ H E I hf st hg
    subst hP hw hK
    obtain ⟨xs, x, hq, hx⟩ := hg
    obtain ⟨its, rv, p, hz⟩ := I.list hq
    obtain ⟨u, hu, ru⟩ := rv.get hx
    obtain ⟨f0, f1, f2, f3, f4, f5⟩ := hf it (by simp)
    refine wpAny_pyNext_list_item st p.isList (x := u) (by simpa using hu) fun h' st' sb => ?_
    have I1 : Inv X pins σ H { s with heap := h' } := I.turned (t' := s.toks) (fun b o hb e => (sb.2 b hb).trans e) f0 f1 f3 f4 f5
    obtain ⟨o, e, c, d⟩ := id st'
    exact ⟨u, rfl, go_of (s := { s with heap := h' }) e c d (by decide) ⟨x, H, I1, ru, ⟨rfl, fun ys hy => by rw [I.list_inj hy hq]; exact hx⟩, st', fun b hb => (hf b hb).1⟩⟩
  done := by
    intro X hP hw hK hc i pins s σ H E I hf st hg
    subst hP hw hK
    obtain ⟨xs, hq, hx⟩ := hg
    obtain ⟨its, rv, p, hz⟩ := I.list hq
    obtain ⟨f0, f1, f2, f3, f4, f5⟩ := hf it (by simp)
    have hl := rv.length
    exact wpAny_pyNext_list_end (I.ok.hd hc) st p.isList (by simp; omega) fun h' eb => ⟨rfl, I.turned (t' := s.toks) (fun b o hb e => eb b o hb e) f0 f1 f3 f4 f5⟩
  self := fun _ _ _ _ _ st h => wpAny_pyIter_listiter st h
theorem turn_range {P : Program} {w : World} {K : PySem.W.Frag} {tg : Expr} (it : Addr) (lo : Int) (n : Nat) : Turn P w K tg (Itr lo n) [it] it (fun i h => IsRangeIter h it (lo + (i : Nat) * 1) ((n : Int) - (i : Nat)) 1) where
  mem := by simp
  obj := fun i h st b hb => by
    have e : b = it := by simpa using hb
    subst e
    exact ⟨_, st, fun v z => by
      have z' : Data.fields _ = Data.cell v := z
      cases z'⟩
  keep := fun i h h' st k => k it (by simp) _ st
  item := by
    intro X hP hw hK hc i pins s σ H E I hf st hg
    subst hP hw hK
    obtain ⟨f0, f1, f2, f3, f4, f5⟩ := hf it (by simp)
    have W := Walks.range (prog := X.prog) (w := X.w) (I.ok.hd hc) it lo 1 n
    refine W.item i s _ _ hg st fun v h' tk hv st' kk => ?_
    obtain ⟨t, rfl⟩ := hv
    have I1 : Inv X pins σ H { s with heap := h', toks := tk } := I.turned (fun b o hb e => kk b o (by simpa using hb) e) f0 f1 f3 f4 f5
    refine ⟨_, rfl, go_of (s := { s with heap := h', toks := tk }) (n := "range_iterator") st' rfl rfl (by decide) ⟨.int (lo + i), H, I1, ⟨t, ?_⟩, ⟨rfl, rfl⟩, st', fun b hb => (hf b hb).1⟩⟩
    rw [Int.mul_one]
  done := by
    intro X hP hw hK hc i pins s σ H E I hf st hg
    subst hP hw hK
    obtain ⟨f0, f1, f2, f3, f4, f5⟩ := hf it (by simp)
    exact wpAny_pyNext_range_end (I.ok.hd hc) st (by have : n ≤ i := hg; omega) fun h' eb => ⟨rfl, I.turned (t' := s.toks) (fun b o hb e => eb b o hb e) f0 f1 f3 f4 f5⟩
  self := fun _ _ _ _ _ st h => wpAny_pyIter_rangeiter st h
end Internal

namespace Internal
open PySem PySem.Spec PyProof.Rows
section
variable {X : Cx} {tg : Expr}
noncomputable def iList (K : PySem.W.Frag) (tl : TE) : TI := fun σ H R => tl σ H fun x H1 => ∃ a, x = .ref a ∧ (∃ xs, SqL K H1 a xs) ∧ R (Itl K a) H1
theorem pi_list {l : Expr} {tl : TE} (hl : PE X l tl) : PI X tg l (iList X.K tl) := by
  intro pins s σ H R I h
  refine thn (hl pins s σ H _ I h) fun v s1 zz => ?_
  obtain ⟨x, H1, I1, r1, q1⟩ := zz
  obtain ⟨a, e, ⟨xs, hq⟩, q⟩ := q1
  subst e
  cases r1
  obtain ⟨its, rv, p, hz⟩ := I1.list hq
  refine wpAny_pyIter_list p.isList ?_
  refine ⟨s1.heap.objs.size, [s1.heap.objs.size], _, _, H1, rfl, I1.kept (t' := s1.toks) fun b o e => Heap.get?_push_of_some _ e, turn_list a _, ⟨_, Heap.get?_push_size _ rfl, rfl, rfl⟩, fun b hb => ?_, q⟩
  have e : b = s1.heap.objs.size := by simpa using hb
  subst e
  exact I1.fpOk (Nat.le_refl _) (I1.hok.fresh (Nat.le_refl _))
theorem range_it {pins : List (Addr × Obj)} {σ : St} {H : Hp} {s : Shared} {R : It → Hp → Prop} {E : Value → Shared → Prop} {lo hi : Int} {t u v : Tok} {tk : Nat} (I : Inv X pins σ H s) (h1 : -(2 ^ 62) ≤ lo) (h2 : lo < 2 ^ 62) (h3 : -(2 ^ 62) ≤ hi) (h4 : hi < 2 ^ 62)
    (q : R (Itr lo (hi - lo).toNat) H) : wpAny (model X.prog X.w) X.A (pyIter (.ref s.heap.objs.size)) (PIE X pins σ tg R) E { s with heap := s.heap.push { cls := .type "range", data := .fields #[.int lo t, .int hi u, .int 1 v] }, toks := tk } := by
  refine wpAny_pyIter_range (IsRange.new ..) (small_one h1 h2 h3 h4) ?_
  have I1 : Inv X pins σ H { s with heap := s.heap.push { cls := .type "range", data := .fields #[.int lo t, .int hi u, .int 1 v] }, toks := tk } := I.kept fun b o e => Heap.get?_push_of_some _ e
  refine ⟨(s.heap.push { cls := .type "range", data := .fields #[.int lo t, .int hi u, .int 1 v] }).objs.size, [(s.heap.push { cls := .type "range", data := .fields #[.int lo t, .int hi u, .int 1 v] }).objs.size], _, _, H, rfl,
    I1.kept (t' := tk) fun b o e => Heap.get?_push_of_some _ e, turn_range _ lo (hi - lo).toNat, ?_, fun b hb => ?_, q⟩
  · have e1 : lo + ((0 : Nat) : Int) * 1 = lo := by simp
    have e2 : (((hi - lo).toNat : Nat) : Int) - ((0 : Nat) : Int) = Builtin.Range.rangeSize lo hi 1 := by rw [rangeSize_one]; split <;> omega
    show IsRangeIter _ _ (lo + ((0 : Nat) : Int) * 1) ((((hi - lo).toNat : Nat) : Int) - ((0 : Nat) : Int)) 1
    rw [e1, e2]
    exact Heap.get?_push_size _ rfl
  · have e : b = (s.heap.push { cls := .type "range", data := .fields #[.int lo t, .int hi u, .int 1 v] }).objs.size := by simpa using hb
    subst e
    exact I1.fpOk (Nat.le_refl _) (I1.hok.fresh (Nat.le_refl _))
noncomputable def iRng1 (ta : TA) : TI := fun σ H R => ta σ H fun vs H1 => ∃ j : Int, vs = [.int j] ∧ -(2 ^ 62) ≤ j ∧ j < 2 ^ 62 ∧ R (Itr 0 j.toNat) H1
theorem pi_range1 {a : Expr} {ta : TA} {p pos : Pos} (hg : Gl X "range") (hm : X.mg "range" = none) (ha : PA X [a] ta) (hs : autoParam (starEach [a] X.env = [(false, eval a X.env)]) Internal.aut2._auto_1) : PI X tg (.Call (.Name "range" p) [a] [] pos) (iRng1 ta) := by
  intro pins s σ H R I h
  refine Call_ (ld_blt I hg hm boot_range (PyProof.Rows.callWith_type1 (thn (ha pos pins s σ H _ I h) fun us s1 ⟨vs, H1, I1, r1, q1⟩ => ?_) hs rfl))
  obtain ⟨j, e, q1, q2, q⟩ := q1
  subst e
  cases r1 with
  | cons r rr =>
    cases rr
    obtain ⟨t, rfl⟩ := r
    exact call_range_1 (range_it I1 (by omega) (by omega) q1 q2 (by simpa using q))
noncomputable def tFor (wi : TI) (g : TG) (tb : TS) : TS := fun D σ H => wi σ H fun J H1 => ∃ W : Nat → Nat → St → Hp → Prop, (∃ m, W 0 m σ H1) ∧ ∀ i m σ H, W i m σ H →
  (J.stop i H ∧ D.nx σ H) ∨ (J.go i H ∧ ∃ N : St → Hp → Prop, (∀ σ' H', N σ' H' → ∃ m', m' < m ∧ W (i + 1) m' σ' H') ∧ ∀ x H', J.yld i H x H' → g x σ H' fun σ2 H2 => tb { D with nx := N, ct := N, bk := D.nx } σ2 H2)
noncomputable def pinsAt (fp : List Addr) (h : Heap) : List (Addr × Obj) := fp.filterMap fun b => (h.get? b).map fun o => (b, o)
theorem mem_pinsAt {fp : List Addr} {h : Heap} {b : Addr} {o : Obj} (hb : b ∈ fp) (e : h.get? b = some o) : (b, o) ∈ pinsAt fp h := List.mem_filterMap.mpr ⟨b, hb, by rw [e]; rfl⟩
theorem of_pinsAt {fp : List Addr} {h : Heap} {p : Addr × Obj} (hp : p ∈ pinsAt fp h) : p.1 ∈ fp ∧ h.get? p.1 = some p.2 := by
  obtain ⟨b, hb, e⟩ := List.mem_filterMap.mp hp
  cases q : h.get? b with
  | none => rw [q] at e; cases e
  | some o =>
    rw [q] at e
    have e' : (b, o) = p := Option.some.inj e
    subst e'
    exact ⟨hb, q⟩
theorem Inv.pinned {pins : List (Addr × Obj)} {σ : St} {H : Hp} {s : Shared} {fp : List Addr} (I : Inv X pins σ H s) (hf : ∀ b ∈ fp, FpOk X pins H b) (ho : ∀ b ∈ fp, ∃ o, s.heap.get? b = some o ∧ ∀ v, o.data ≠ .cell v) : Inv X (pins ++ pinsAt fp s.heap) σ H s :=
  I.pins_of fun p hp => (List.mem_append.mp hp).elim (fun z => I.pin p (List.mem_append_right _ z)) fun z => by
    obtain ⟨hb, e⟩ := of_pinsAt z
    obtain ⟨f0, f1, f2, _⟩ := hf p.1 hb
    obtain ⟨o, e', d⟩ := ho p.1 hb
    rw [e] at e'; cases e'
    exact ⟨e, f0, f1, f2, d⟩
theorem Inv.unpinned {pins pl : List (Addr × Obj)} {σ : St} {H : Hp} {s : Shared} (I : Inv X (pins ++ pl) σ H s) : Inv X pins σ H s := I.pins_of fun p hp => I.pin p (List.mem_append_right _ (List.mem_append_left _ hp))
theorem ps_for {iter : Expr} {body : List Stmt} {wi : TI} {g : TG} {tb : TS} {pos : Pos} (hp : PassesOwn (model X.prog X.w) X.A X.env X.xe) (hc : X.calm = true) (hi : PI X tg iter wi) (hg : PG X tg g) (hb : PSs X body tb)
    (hs : autoParam (∀ x, foldedSetIterable iter X.env x = pure x) Internal.aut3._auto_1) : PS X (.For tg iter body [] pos) (tFor wi g tb) := by
  intro pins s σ H D I h
  refine wpAny_For (thn (hi pins s σ H _ I h) fun v s1 h1 => thn h1 fun itv s2 h2 => ?_) hs
  obtain ⟨it, fp, tn, J, H2, e, I2, T, st2, f2, W, ⟨m0, w0⟩, turn⟩ := h2
  subst e
  -- what stays true of the iterator's objects through the loop
  have stat : ∀ {H' : Hp}, (∀ b ∈ fp, H' b = none) → ∀ b ∈ fp, FpOk X pins H' b := fun hn b hb => ⟨hn b hb, (f2 b hb).2⟩
  refine codeAny_forLoop_any (fun n s' => ∃ i σ' H', Inv X pins σ' H' s' ∧ tn i s'.heap ∧ (∀ b ∈ fp, H' b = none) ∧ W i n σ' H') ?_ m0 ⟨0, σ, H2, I2, st2, fun b hb => (f2 b hb).1, w0⟩
  rintro n s3 ⟨i, σ3, H3, I3, st3, fr3, w3⟩
  rcases turn i n σ3 H3 w3 with ⟨stop, qn⟩ | ⟨go, N, hN, step⟩
  · refine wpAny_passesOwn hp (thn (T.done X rfl rfl rfl hc i pins s3 σ3 H3 X.xe I3 (stat fr3) st3 stop) fun r s4 ⟨hr, I4⟩ => ?_)
    subst hr
    exact wpAny_execs_nil ⟨σ3, H3, I4, qn⟩
  · refine wpAny_passesOwn hp (thn (T.item X rfl rfl rfl hc i pins s3 σ3 H3 X.xe I3 (stat fr3) st3 go) fun r s4 ⟨u, hr, h4⟩ => ?_)
    subst hr
    refine wpAny_passesOwn hp (thn h4 fun _ s5 zz => ?_)
    obtain ⟨x, H5, I5, r5, y5, st5, fr5⟩ := zz
    have I5' := I5.pinned (stat fr5) (T.obj _ _ st5)
    refine wpAny_passesOwn hp (thn (hg _ s5 σ3 H5 x u _ I5' r5 (step x H5 y5)) fun _ s6 zz => ?_)
    obtain ⟨σ6, H6, I6, q6⟩ := zz
    refine wpAny_passesOwn hp (thn (hb _ s6 σ6 H6 _ I6 q6) fun f s7 q7 => ?_)
    have again : ∀ {σ7 : St} {H7 : Hp}, Inv X (pins ++ pinsAt fp s5.heap) σ7 H7 s7 → N σ7 H7 → ∃ m, m < n ∧ ∃ i σ' H', Inv X pins σ' H' s7 ∧ tn i s7.heap ∧ (∀ b ∈ fp, H' b = none) ∧ W i m σ' H' := fun {σ7 H7} I7 n7 => by
      obtain ⟨m', hm, w7⟩ := hN σ7 H7 n7
      refine ⟨m', hm, i + 1, σ7, H7, I7.unpinned, T.keep _ _ _ st5 fun b hb o e => (I7.pin (b, o) (List.mem_append_right _ (List.mem_append_right _ (mem_pinsAt hb e)))).1, fun b hb => ?_, w7⟩
      obtain ⟨o, e, d⟩ := T.obj _ _ st5 b hb
      exact (I7.pin (b, o) (List.mem_append_right _ (List.mem_append_right _ (mem_pinsAt hb e)))).2.1
    cases f with
    | next => obtain ⟨σ7, H7, I7, n7⟩ := q7; exact again I7 n7
    | cont => obtain ⟨σ7, H7, I7, n7⟩ := q7; exact again I7 n7
    | brk => obtain ⟨σ7, H7, I7, q7⟩ := q7; exact ⟨σ7, H7, I7.unpinned, q7⟩
    | ret v => obtain ⟨x7, σ7, H7, I7, r7, q7⟩ := q7; exact ⟨x7, σ7, H7, I7.unpinned, r7, q7⟩
end

theorem for_list {K : PySem.W.Frag} {a : Addr} {xs : List V} {g : TG} {tb : TS} {D : Ends} {σ : St} {H : Hp} (Pv : Nat → St → Hp → Prop) (h0 : Pv 0 σ H) (hl : ∀ i σ H, i ≤ xs.length → Pv i σ H → SqL K H a xs)
    (hs : ∀ i x σ H, xs[i]? = some x → Pv i σ H → g x σ H fun σ2 H2 => tb { D with nx := Pv (i + 1), ct := Pv (i + 1), bk := D.nx } σ2 H2) (hd : ∀ σ H, Pv xs.length σ H → D.nx σ H) :
    ∃ W : Nat → Nat → St → Hp → Prop, (∃ m, W 0 m σ H) ∧ ∀ i m σ H, W i m σ H →
      ((Itl K a).stop i H ∧ D.nx σ H) ∨ ((Itl K a).go i H ∧ ∃ N : St → Hp → Prop, (∀ σ' H', N σ' H' → ∃ m', m' < m ∧ W (i + 1) m' σ' H') ∧ ∀ x H', (Itl K a).yld i H x H' → g x σ H' fun σ2 H2 => tb { D with nx := N, ct := N, bk := D.nx } σ2 H2) := by
  refine ⟨fun i m σ H => m = xs.length - i ∧ i ≤ xs.length ∧ Pv i σ H, ⟨xs.length, by simp, Nat.zero_le _, h0⟩, ?_⟩
  rintro i m σ H ⟨rfl, hi, p⟩
  have q := hl i σ H hi p
  by_cases hlt : i < xs.length
  · refine .inr ⟨⟨xs, xs[i], q, by simp [hlt]⟩, Pv (i + 1), fun σ' H' p' => ⟨xs.length - (i + 1), by omega, rfl, hlt, p'⟩, fun x H' y => ?_⟩
    obtain ⟨e, y⟩ := y
    subst e
    exact hs i x σ _ (y xs q) p
  · have e : i = xs.length := by omega
    subst e
    exact .inl ⟨⟨xs, q, Nat.le_refl _⟩, hd σ H p⟩
theorem for_range {lo : Int} {n : Nat} {g : TG} {tb : TS} {D : Ends} {σ : St} {H : Hp} (Pv : Nat → St → Hp → Prop) (h0 : Pv 0 σ H)
    (hs : ∀ i σ H, i < n → Pv i σ H → g (.int (lo + i)) σ H fun σ2 H2 => tb { D with nx := Pv (i + 1), ct := Pv (i + 1), bk := D.nx } σ2 H2) (hd : ∀ σ H, Pv n σ H → D.nx σ H) :
    ∃ W : Nat → Nat → St → Hp → Prop, (∃ m, W 0 m σ H) ∧ ∀ i m σ H, W i m σ H →
      ((Itr lo n).stop i H ∧ D.nx σ H) ∨ ((Itr lo n).go i H ∧ ∃ N : St → Hp → Prop, (∀ σ' H', N σ' H' → ∃ m', m' < m ∧ W (i + 1) m' σ' H') ∧ ∀ x H', (Itr lo n).yld i H x H' → g x σ H' fun σ2 H2 => tb { D with nx := N, ct := N, bk := D.nx } σ2 H2) := by
  refine ⟨fun i m σ H => m = n - i ∧ i ≤ n ∧ Pv i σ H, ⟨n, by simp, Nat.zero_le _, h0⟩, ?_⟩
  rintro i m σ H ⟨rfl, hi, p⟩
  by_cases hlt : i < n
  · refine .inr ⟨hlt, Pv (i + 1), fun σ' H' p' => ⟨n - (i + 1), by omega, rfl, hlt, p'⟩, fun x H' y => ?_⟩
    obtain ⟨e, y⟩ := y
    subst e y
    exact hs i σ _ hlt p
  · have e : i = n := by omega
    subst e
    exact .inl ⟨Nat.le_refl _, hd σ H p⟩
end Internal

namespace Internal
open PySem PySem.Spec PyProof.Rows

noncomputable abbrev R2 := V → V → Hp → VK → Prop
noncomputable def OpR (X : Cx) (f : Value → Value → Sem Value) (r : R2) : Prop :=
  ∀ (pins : List (Addr × Obj)) (s : Shared) (σ : St) (H : Hp) (x y : V) (v u : Value) (Q : VK), Inv X pins σ H s → RelV x v → RelV y u → r x y H Q →
    wpAny (model X.prog X.w) X.A (f v u) (EP X pins σ Q) X.xe s
noncomputable def UnR (X : Cx) (f : Value → Sem Value) (r : V → Hp → VK → Prop) : Prop :=
  ∀ (pins : List (Addr × Obj)) (s : Shared) (σ : St) (H : Hp) (x : V) (v : Value) (Q : VK), Inv X pins σ H s → RelV x v → r x H Q →
    wpAny (model X.prog X.w) X.A (f v) (EP X pins σ Q) X.xe s
noncomputable def CallR (X : Cx) (f : Value) (r : List V → Hp → VK → Prop) : Prop :=
  ∀ (pins : List (Addr × Obj)) (s : Shared) (σ : St) (H : Hp) (xs : List V) (us : List Value) (Q : VK), Inv X pins σ H s → Vals xs us → r xs H Q →
    wpAny (model X.prog X.w) X.A (call f us) (EP X pins σ Q) X.xe s
noncomputable def TruR (X : Cx) (r : V → Hp → (Bool → Hp → Prop) → Prop) : Prop :=
  ∀ (pins : List (Addr × Obj)) (s : Shared) (σ : St) (H : Hp) (x : V) (v : Value) (Q : Bool → Hp → Prop), Inv X pins σ H s → RelV x v → r x H Q →
    wpAny (model X.prog X.w) X.A (truthy v) (TP X pins σ Q) X.xe s

noncomputable abbrev tOp (r : R2) (ta tb : TE) : TE := fun σ H Q => ta σ H fun x H1 => tb σ H1 fun y H2 => r x y H2 Q
noncomputable abbrev tUn (r : V → Hp → VK → Prop) (ta : TE) : TE := fun σ H Q => ta σ H fun x H1 => r x H1 Q
noncomputable def rI (C : Int → Int → Prop) (g : Int → Int → V) : R2 := fun x y H Q => ∃ i j, x = .int i ∧ y = .int j ∧ C i j ∧ Q (g i j) H
noncomputable def rI0 (g : Int → Int → V) : R2 := fun x y H Q => ∃ i j, x = .int i ∧ y = .int j ∧ Q (g i j) H
noncomputable def rU (g : Int → V) : V → Hp → VK → Prop := fun x H Q => ∃ i, x = .int i ∧ Q (g i) H

section
variable {X : Cx} {a b c : Expr} {ta tb tc : TE} {pos : Pos}

theorem binT (ha : PE X a ta) (hb : PE X b tb) {pins : List (Addr × Obj)} {s : Shared} {σ : St} {H : Hp} {R : V → V → Hp → Prop} (I : Inv X pins σ H s)
    (h : ta σ H fun x H1 => tb σ H1 fun y H2 => R x y H2) {Q : Value → Shared → Prop} {f : Value → Value → Sem Value}
    (hf : ∀ v u s2 x y H2, Inv X pins σ H2 s2 → RelV x v → RelV y u → R x y H2 → wpAny (model X.prog X.w) X.A (f v u) Q X.xe s2) :
    wpAny (model X.prog X.w) X.A (eval a X.env) (fun v s₁ => wpAny (model X.prog X.w) X.A (eval b X.env) (fun u s₂ => wpAny (model X.prog X.w) X.A (f v u) Q X.xe s₂) X.xe s₁) X.xe s := by
  refine thn (ha pins s σ H _ I h) fun v s1 zz => ?_
  obtain ⟨x, H1, I1, r1, q1⟩ := zz
  refine thn (hb pins s1 σ H1 _ I1 q1) fun u s2 zz => ?_
  obtain ⟨y, H2, I2, r2, q2⟩ := zz
  exact hf v u s2 x y H2 I2 r1 r2 q2

theorem pe_op {op : Operator} {r : R2} (ho : OpR X (binaryOp op) r) (ha : PE X a ta) (hb : PE X b tb) : PE X (.BinOp a op b pos) (tOp r ta tb) := by
  intro pins s σ H Q I h
  exact wpAny_BinOp (binT ha hb I h fun v u s2 x y H2 I2 rx ry q => ho pins s2 σ H2 x y v u Q I2 rx ry q)
theorem pe_un {op : UnaryOp} {r : V → Hp → VK → Prop} (ho : UnR X (unaryOp op) r) (ha : PE X a ta) : PE X (.UnaryOp op a pos) (tUn r ta) := by
  intro pins s σ H Q I h
  exact UnaryOp_ (thn (ha pins s σ H _ I h) fun v s1 ⟨x, H1, I1, r1, q1⟩ => ho pins s1 σ H1 x v Q I1 r1 q1)
theorem opI {f : Value → Value → Sem Value} {C : Int → Int → Prop} {g : Int → Int → Int}
    (rule : ∀ (i j : Int) (t u : Tok) (s : Shared) (Q : Value → Shared → Prop) (E : Value → Shared → Prop), C i j → Q (.int (g i j) s.toks) { s with toks := s.toks + 1 } → wpAny (model X.prog X.w) X.A (f (.int i t) (.int j u)) Q E s) :
    OpR X f (rI C fun i j => .int (g i j)) := by
  intro pins s σ H x y v u Q I rx ry h
  obtain ⟨i, j, rfl, rfl, hc, q⟩ := h
  obtain ⟨t, rfl⟩ := rx
  obtain ⟨t', rfl⟩ := ry
  exact rule i j t t' s _ _ hc ⟨.int (g i j), H, I.tok _, ⟨_, rfl⟩, q⟩
theorem opI0 {f : Value → Value → Sem Value} {g : Int → Int → Int}
    (rule : ∀ (i j : Int) (t u : Tok) (s : Shared) (Q : Value → Shared → Prop) (E : Value → Shared → Prop), Q (.int (g i j) s.toks) { s with toks := s.toks + 1 } → wpAny (model X.prog X.w) X.A (f (.int i t) (.int j u)) Q E s) :
    OpR X f (rI0 fun i j => .int (g i j)) := by
  intro pins s σ H x y v u Q I rx ry h
  obtain ⟨i, j, rfl, rfl, q⟩ := h
  obtain ⟨t, rfl⟩ := rx
  obtain ⟨t', rfl⟩ := ry
  exact rule i j t t' s _ _ ⟨.int (g i j), H, I.tok _, ⟨_, rfl⟩, q⟩
theorem opB0 {f : Value → Value → Sem Value} {g : Int → Int → Bool}
    (rule : ∀ (i j : Int) (t u : Tok) (s : Shared) (Q : Value → Shared → Prop) (E : Value → Shared → Prop), Q (.bool (g i j)) s → wpAny (model X.prog X.w) X.A (f (.int i t) (.int j u)) Q E s) :
    OpR X f (rI0 fun i j => .bl (g i j)) := by
  intro pins s σ H x y v u Q I rx ry h
  obtain ⟨i, j, rfl, rfl, q⟩ := h
  obtain ⟨t, rfl⟩ := rx
  obtain ⟨t', rfl⟩ := ry
  exact rule i j t t' s _ _ ⟨.bl (g i j), H, I, rfl, q⟩

noncomputable def CPow (i j : Int) : Prop := 0 ≤ j ∧ j ≤ 1000000 ∧ i.natAbs < 2 ^ 64
theorem op_add : OpR X (binaryOp .Add) (rI0 fun i j => .int (i + j)) := opI0 fun _ _ _ _ _ _ _ q => add_int q
theorem op_sub : OpR X (binaryOp .Sub) (rI0 fun i j => .int (i - j)) := opI0 fun _ _ _ _ _ _ _ q => sub_int q
theorem op_modN : OpR X (binaryOp .Mod) (rI (fun _ j => j ≠ 0) fun i j => .int (i.fmod j)) := opI fun _ _ _ _ _ _ _ hc q => mod_int' hc q
theorem op_pow : OpR X (binaryOp .Pow) (rI CPow fun i j => .int (i ^ j.toNat)) := opI fun _ _ _ _ _ _ _ hc q => pow_int_small hc.1 hc.2.1 hc.2.2 q
theorem unI {f : Value → Sem Value} {g : Int → Int}
    (rule : ∀ (i : Int) (t : Tok) (s : Shared) (Q : Value → Shared → Prop) (E : Value → Shared → Prop), Q (.int (g i) s.toks) { s with toks := s.toks + 1 } → wpAny (model X.prog X.w) X.A (f (.int i t)) Q E s) :
    UnR X f (rU fun i => .int (g i)) := by
  intro pins s σ H x v Q I rx h
  obtain ⟨i, rfl, q⟩ := h
  obtain ⟨t, rfl⟩ := rx
  exact rule i t s _ _ ⟨.int (g i), H, I.tok _, ⟨_, rfl⟩, q⟩
theorem un_neg : UnR X (unaryOp .USub) (rU fun i => .int (-i)) := unI fun _ _ _ _ _ q => neg_int q
end

noncomputable def scal : V → V → Bool
  | .non, .non => true | .non, .int _ => true | .int _, .non => true | .non, .bl _ => true | .bl _, .non => true | .non, .str _ => true | .str _, .non => true
  | .int _, .int _ => true | .bl _, .bl _ => true | .str _, .str _ => true | .byt _, .byt _ => true
  | .int _, .str _ => true | .str _, .int _ => true | .bl _, .str _ => true | .str _, .bl _ => true
  | _, _ => false
noncomputable def rEq : R2 := fun x y H Q => scal x y = true ∧ Q (.bl (decide (x = y))) H
noncomputable def rNe : R2 := fun x y H Q => scal x y = true ∧ Q (.bl (!decide (x = y))) H

theorem dec_int {i j : Int} : decide (V.int i = V.int j) = (i == j) := by
  rw [Bool.eq_iff_iff]
  simp
theorem dec_bl {i j : Bool} : decide (V.bl i = V.bl j) = (i == j) := by
  rw [Bool.eq_iff_iff]
  simp
theorem dec_str {i j : Str} : decide (V.str i = V.str j) = (i == j) := by
  rw [Bool.eq_iff_iff]
  simp
theorem dec_byt {i j : Array UInt8} : decide (V.byt i = V.byt j) = (i.toList == j.toList) := by
  rw [Bool.eq_iff_iff]
  cases i
  cases j
  simp

section
variable {X : Cx} {a b c : Expr} {ta tb tc : TE} {pos : Pos}
theorem fin_bl {pins : List (Addr × Obj)} {σ : St} {H : Hp} {s : Shared} {Q : VK} {k k' : Bool} (I : Inv X pins σ H s) (q : Q (.bl k) H) (e : k = k') : EP X pins σ Q (.bool k') s := by
  subst e
  exact ⟨.bl k, H, I, rfl, q⟩
theorem op_eq : OpR X (compareOp .Eq) rEq := by
  intro pins s σ H x y v u Q I rx ry h
  obtain ⟨hs, q⟩ := h
  cases x with
  | non =>
    cases rx
    cases y with
    | non => cases ry; exact PySem.EqNone.eq_none_none (fin_bl I q (by simp))
    | bl j => cases ry; exact PySem.EqNone.eq_none_bool (fin_bl I q (by simp))
    | int j => obtain ⟨t', rfl⟩ := ry; exact PySem.EqNone.eq_none_int (fin_bl I q (by simp))
    | str j => obtain ⟨t', rfl⟩ := ry; exact PySem.EqNone.eq_none_str (fin_bl I q (by simp))
    | _ => exact absurd (show false = true from hs) Bool.false_ne_true
  | bl i =>
    cases rx
    cases y with
    | non => cases ry; exact PySem.EqNone.eq_bool_none (fin_bl I q (by simp))
    | bl j => cases ry; exact eq_bool (fin_bl I q dec_bl)
    | str j => obtain ⟨t', rfl⟩ := ry; exact PySem.EqMixed.eq_bool_str (fin_bl I q (by simp))
    | _ => exact absurd (show false = true from hs) Bool.false_ne_true
  | int i =>
    obtain ⟨t, rfl⟩ := rx
    cases y with
    | non => cases ry; exact PySem.EqNone.eq_int_none (fin_bl I q (by simp))
    | int j => obtain ⟨t', rfl⟩ := ry; exact eq_int (fin_bl I q dec_int)
    | str j => obtain ⟨t', rfl⟩ := ry; exact PySem.EqMixed.eq_int_str (fin_bl I q (by simp))
    | _ => exact absurd (show false = true from hs) Bool.false_ne_true
  | str i =>
    obtain ⟨t, rfl⟩ := rx
    cases y with
    | non => cases ry; exact PySem.EqNone.eq_str_none (fin_bl I q (by simp))
    | bl j => cases ry; exact PySem.EqMixed.eq_str_bool (fin_bl I q (by simp))
    | int j => obtain ⟨t', rfl⟩ := ry; exact PySem.EqMixed.eq_str_int (fin_bl I q (by simp))
    | str j => obtain ⟨t', rfl⟩ := ry; exact eq_str (fin_bl I q dec_str)
    | _ => exact absurd (show false = true from hs) Bool.false_ne_true
  | byt i =>
    obtain ⟨t, rfl⟩ := rx
    cases y with
    | byt j => obtain ⟨t', rfl⟩ := ry; exact PySem.W.eq_bytes (fin_bl I q dec_byt)
    | _ => exact absurd (show false = true from hs) Bool.false_ne_true
  | _ => cases y <;> exact absurd (show false = true from hs) Bool.false_ne_true
theorem op_ne : OpR X (compareOp .NotEq) rNe := by
  intro pins s σ H x y v u Q I rx ry h
  obtain ⟨hs, q⟩ := h
  cases x with
  | non =>
    cases rx
    cases y with
    | non => cases ry; exact PySem.EqNone.ne_none_none (fin_bl I q (by simp))
    | bl j => cases ry; exact PySem.EqNone.ne_none_bool (fin_bl I q (by simp))
    | int j => obtain ⟨t', rfl⟩ := ry; exact PySem.EqNone.ne_none_int (fin_bl I q (by simp))
    | str j => obtain ⟨t', rfl⟩ := ry; exact PySem.EqNone.ne_none_str (fin_bl I q (by simp))
    | _ => exact absurd (show false = true from hs) Bool.false_ne_true
  | bl i =>
    cases rx
    cases y with
    | non => cases ry; exact PySem.EqNone.ne_bool_none (fin_bl I q (by simp))
    | bl j => cases ry; exact ne_bool (fin_bl I q (congrArg not dec_bl))
    | str j => obtain ⟨t', rfl⟩ := ry; exact PySem.EqMixed.ne_bool_str (fin_bl I q (by simp))
    | _ => exact absurd (show false = true from hs) Bool.false_ne_true
  | int i =>
    obtain ⟨t, rfl⟩ := rx
    cases y with
    | non => cases ry; exact PySem.EqNone.ne_int_none (fin_bl I q (by simp))
    | int j => obtain ⟨t', rfl⟩ := ry; exact ne_int (fin_bl I q (congrArg not dec_int))
    | str j => obtain ⟨t', rfl⟩ := ry; exact PySem.EqMixed.ne_int_str (fin_bl I q (by simp))
    | _ => exact absurd (show false = true from hs) Bool.false_ne_true
  | str i =>
    obtain ⟨t, rfl⟩ := rx
    cases y with
    | non => cases ry; exact PySem.EqNone.ne_str_none (fin_bl I q (by simp))
    | bl j => cases ry; exact PySem.EqMixed.ne_str_bool (fin_bl I q (by simp))
    | int j => obtain ⟨t', rfl⟩ := ry; exact PySem.EqMixed.ne_str_int (fin_bl I q (by simp))
    | str j => obtain ⟨t', rfl⟩ := ry; exact ne_str (fin_bl I q (congrArg not dec_str))
    | _ => exact absurd (show false = true from hs) Bool.false_ne_true
  | byt i =>
    obtain ⟨t, rfl⟩ := rx
    cases y with
    | byt j => obtain ⟨t', rfl⟩ := ry; exact PySem.W.ne_bytes (fin_bl I q (congrArg not dec_byt))
    | _ => exact absurd (show false = true from hs) Bool.false_ne_true
  | _ => cases y <;> exact absurd (show false = true from hs) Bool.false_ne_true

theorem op_lt : OpR X (compareOp .Lt) (rI0 fun i j => .bl (decide (i < j))) := opB0 fun _ _ _ _ _ _ _ q => lt_int q
theorem op_le : OpR X (compareOp .LtE) (rI0 fun i j => .bl (decide (i ≤ j))) := opB0 fun _ _ _ _ _ _ _ q => le_int q
theorem op_gt : OpR X (compareOp .Gt) (rI0 fun i j => .bl (decide (j < i))) := opB0 fun _ _ _ _ _ _ _ q => gt_int q
theorem op_ge : OpR X (compareOp .GtE) (rI0 fun i j => .bl (decide (j ≤ i))) := opB0 fun _ _ _ _ _ _ _ q => ge_int q
theorem OpR.or {f : Value → Value → Sem Value} {r r' : R2} (h : OpR X f r) (h' : OpR X f r') : OpR X f (fun x y H Q => r x y H Q ∨ r' x y H Q) := by
  intro pins s σ H x y v u Q I rx ry q
  rcases q with q | q
  · exact h pins s σ H x y v u Q I rx ry q
  · exact h' pins s σ H x y v u Q I rx ry q

theorem nomark (b : Expr) {op : CmpOp} (h : autoParam (op ≠ .In) Internal.aut1._auto_1) (h2 : autoParam (op ≠ .NotIn) Internal.aut1._auto_1) : behindInMarks op b = false := by
  have e1 : (op == CmpOp.In) = false := by cases op <;> first | rfl | exact absurd rfl h
  have e2 : (op == CmpOp.NotIn) = false := by cases op <;> first | rfl | exact absurd rfl h2
  cases b <;> simp [behindInMarks, e1, e2]
theorem pe_cmpR {op : CmpOp} {r : R2} (ho : OpR X (compareOp op) r) (ha : PE X a ta) (hb : PE X b tb) (hm : behindInMarks op b = false) : PE X (.Compare a [op] [b] pos) (tOp r ta tb) := by
  intro pins s σ H Q I h
  exact wpAny_Compare1 (binT ha hb I h fun v u s2 x y H2 I2 rx ry q => ho pins s2 σ H2 x y v u Q I2 rx ry q) hm
noncomputable abbrev tTest (t : TE) : TT := fun σ H Q => t σ H fun x H' => ∃ k, x = .bl k ∧ Q k H'
theorem pt_cmpR {op : CmpOp} {r : R2} (ho : OpR X (compareOp op) r) (ha : PE X a ta) (hb : PE X b tb) (hm : behindInMarks op b = false) : PT X (.Compare a [op] [b] pos) (tTest (tOp r ta tb)) := by
  intro pins s σ H Q I h
  refine wpAny_isTrue_Compare1 (thn (ha pins s σ H _ I h) fun v s1 ⟨x, H1, I1, r1, q1⟩ => thn (hb pins s1 σ H1 _ I1 q1) fun u s2 ⟨y, H2, I2, r2, q2⟩ =>
    thn (ho pins s2 σ H2 x y v u _ I2 r1 r2 q2) fun c s3 ⟨z, H3, I3, r3, k, e, q3⟩ => ?_) hm
  subst e
  cases r3
  exact wpAny_truthy_bool ⟨H3, I3, q3⟩
noncomputable def tChain (r r' : R2) (ta tb tc : TE) : TE := fun σ H Q => ta σ H fun x H1 => tb σ H1 fun y H2 => r x y H2 fun z H3 => ∃ k, z = .bl k ∧
  (if k = true then tc σ H3 fun w' H4 => r' y w' H4 Q else Q (.bl false) H3)
theorem pt_chain {op op' : CmpOp} {r r' : R2} (ho : OpR X (compareOp op) r) (ho' : OpR X (compareOp op') r') (ha : PE X a ta) (hb : PE X b tb) (hc : PE X c tc)
    (hm : autoParam (lastMarks [op, op'] [b, c] = false) Internal.aut5._auto_1) : PT X (.Compare a [op, op'] [b, c] pos) (tTest (tChain r r' ta tb tc)) := by
  intro pins s σ H Q I h
  refine isTrue_chain (thn (ha pins s σ H _ I h) fun v s1 ⟨x, H1, I1, r1, q1⟩ => test_link (thn (hb pins s1 σ H1 _ I1 q1) fun u s2 ⟨y, H2, I2, r2, q2⟩ =>
    thn (ho pins s2 σ H2 x y v u _ I2 r1 r2 q2) fun d s3 ⟨z, H3, I3, r3, k, e, q3⟩ => ?_)) hm
  subst e
  cases r3
  refine wpAny_truthy_bool ?_
  cases k with
  | false =>
    obtain ⟨k', e', q'⟩ := q3
    cases e'
    exact ite_ff ⟨H3, I3, q'⟩
  | true =>
    refine ite_tt (test_last (thn (hc pins s3 σ H3 _ I3 q3) fun w' s4 ⟨z', H4, I4, r4, q4⟩ => thn (ho' pins s4 σ H4 y z' u w' _ I4 r2 r4 q4) fun d' s5 zz => ?_))
    obtain ⟨z2, H5, I5, r5, k2, e2, q5⟩ := zz
    subst e2
    cases r5
    exact wpAny_truthy_bool ⟨H5, I5, q5⟩

noncomputable def TruV (K : PySem.W.Frag) (x : V) (H : Hp) (k : Bool) : Prop :=
  match x with
  | .non => k = false
  | .bl b => k = b
  | .int i => k = (i != 0)
  | .str y => y.length ≤ sizeLine ∧ k = ((y.length : Int) != 0)
  | .byt y => y.size ≤ sizeLine ∧ k = ((y.size : Int) != 0)
  | .ref p => (∃ xs, SqL K H p xs ∧ k = !xs.isEmpty) ∨ (∃ xs, SqT K H p xs ∧ k = !xs.isEmpty) ∨ ∃ kvs, H p = some (.dK kvs) ∧ k = !kvs.isEmpty
  | _ => False
theorem isEmpty_kv {κ : Type} {kvs : List (κ × V)} {vs : List (κ × Value)} (r : KV kvs vs) : (!vs.isEmpty) = !kvs.isEmpty := by
  cases r <;> rfl
theorem isEmpty_of {xs : List V} {its : List Value} (r : Vals xs its) : (!its.toArray.isEmpty) = !xs.isEmpty := by
  cases r <;> simp
theorem line63 : (sizeLine : Nat) < 2 ^ 63 := by rw [sizeLine_eq]; decide
theorem tru_ok : TruR X (fun x H Q => ∃ k, TruV X.K x H k ∧ Q k H) := by
  intro pins s σ H x v Q I rx h
  obtain ⟨k, e, q⟩ := h
  have hl := line63
  have hs : sizeLine = 16777216 := sizeLine_eq
  cases x with
  | non =>
    cases rx
    have e' : k = false := e
    subst e'
    exact truthy_none ⟨H, I, q⟩
  | bl b =>
    cases rx
    have e' : k = b := e
    subst e'
    exact wpAny_truthy_bool ⟨H, I, q⟩
  | int i =>
    obtain ⟨t, rfl⟩ := rx
    have e' : k = (i != 0) := e
    subst e'
    exact PySem.P.truthy_int ⟨H, I, q⟩
  | str y =>
    obtain ⟨t, rfl⟩ := rx
    obtain ⟨hy, e'⟩ : y.length ≤ sizeLine ∧ k = ((y.length : Int) != 0) := e
    subst e'
    exact PySem.P.truthy_str (by omega) ⟨H, I.tok _, q⟩
  | byt y =>
    obtain ⟨t, rfl⟩ := rx
    obtain ⟨hy, e'⟩ : y.size ≤ sizeLine ∧ k = ((y.size : Int) != 0) := e
    subst e'
    exact PySem.W.truthy_bytes (by omega) ⟨H, I.tok _, q⟩
  | ref p =>
    cases rx
    have e' : (∃ xs, SqL X.K H p xs ∧ k = !xs.isEmpty) ∨ (∃ xs, SqT X.K H p xs ∧ k = !xs.isEmpty) ∨ ∃ kvs, H p = some (.dK kvs) ∧ k = !kvs.isEmpty := e
    rcases e' with ⟨xs, hx, e'⟩ | ⟨xs, hx, e'⟩ | ⟨kvs, hx, e'⟩
    · subst e'
      obtain ⟨its, r, pl, hz⟩ := I.list hx
      have hlen := r.length
      exact wpAny_truthy_list pl.isList (by simp only [List.size_toArray]; omega) ⟨H, I.tok _, by rw [isEmpty_of r]; exact q⟩
    · subst e'
      obtain ⟨its, r, pl, hz⟩ := I.tuple hx
      have hlen := r.length
      exact truthy_tuple pl (by simp only [List.size_toArray]; omega) ⟨H, I.tok _, by rw [isEmpty_of r]; exact q⟩
    · subst e'
      obtain ⟨hz, hS, vs, r, m⟩ : kvs.length ≤ sizeLine ∧ (p == sysModules) = false ∧ ∃ vs, KV kvs vs ∧ s.heap.DictOf (mixKind X.prog X.w) p vs := I.hok p _ hx
      have hlen : kvs.length = vs.length := Paired.length r
      exact wpAny_truthy_dict hS m (by omega) ⟨H, I.tok _, by rw [isEmpty_kv r]; exact q⟩
  | _ => exact (show False from e).elim
theorem pt_truth (ha : PE X a ta) (he : ∀ whole, isTrue a X.env whole = (do let v ← whole; standAt a.pos; holding [v] (truthy v))) :
    PT X a (fun σ H Q => ta σ H fun x H' => ∃ k, TruV X.K x H' k ∧ Q k H') := by
  intro pins s σ H Q I h
  exact isTrue_plain (thn (ha pins s σ H _ I h) fun v s1 ⟨x, H1, I1, r1, q1⟩ => tru_ok pins s1 σ H1 x v Q I1 r1 q1) (he _)

theorem vals1 {x : V} {us : List Value} (r : Vals [x] us) : ∃ u, us = [u] ∧ RelV x u := by
  cases r with
  | cons r1 r2 => cases r2; exact ⟨_, rfl, r1⟩
theorem vals2 {x y : V} {us : List Value} (r : Vals [x, y] us) : ∃ u w', us = [u, w'] ∧ RelV x u ∧ RelV y w' := by
  cases r with
  | cons r1 r2 =>
    cases r2 with
    | cons r3 r4 => cases r4; exact ⟨_, _, rfl, r1, r3⟩
theorem call_abs : CallR X (.builtin "abs") (fun xs H Q => ∃ i, xs = [.int i] ∧ Q (.int (if i < 0 then -i else i)) H) := by
  intro pins s σ H xs us Q I r h
  obtain ⟨i, rfl, q⟩ := h
  obtain ⟨u, rfl, t, rfl⟩ := vals1 r
  exact call_abs_int fun u tk => ⟨.int (if i < 0 then -i else i), H, I.tok _, ⟨_, rfl⟩, q⟩
theorem call_max2 (hc : X.calm = true) : CallR X (.builtin "max") (fun xs H Q => ∃ i j, xs = [.int i, .int j] ∧ Q (.int (if j > i then j else i)) H) := by
  intro pins s σ H xs us Q I r h
  obtain ⟨i, j, rfl, q⟩ := h
  obtain ⟨u, w', rfl, ⟨t, rfl⟩, ⟨t', rfl⟩⟩ := vals2 r
  refine max_two_ints (I.ok.hd hc) fun h' tk k => ⟨_, H, I.kept k, ?_, q⟩
  by_cases hj : j > i
  · rw [if_pos hj, if_pos hj]; exact ⟨_, rfl⟩
  · rw [if_neg hj, if_neg hj]; exact ⟨_, rfl⟩
theorem call_min2 (hc : X.calm = true) : CallR X (.builtin "min") (fun xs H Q => ∃ i j, xs = [.int i, .int j] ∧ Q (.int (if j < i then j else i)) H) := by
  intro pins s σ H xs us Q I r h
  obtain ⟨i, j, rfl, q⟩ := h
  obtain ⟨u, w', rfl, ⟨t, rfl⟩, ⟨t', rfl⟩⟩ := vals2 r
  refine min_two_ints (I.ok.hd hc) fun h' tk k => ⟨_, H, I.kept k, ?_, q⟩
  by_cases hj : j < i
  · rw [if_pos hj, if_pos hj]; exact ⟨_, rfl⟩
  · rw [if_neg hj, if_neg hj]; exact ⟨_, rfl⟩
theorem call_int1 : CallR X (.type "int") (fun xs H Q => (∃ i, xs = [.int i] ∧ Q (.int i) H) ∨ ∃ k, xs = [.bl k] ∧ Q (.int (if k then 1 else 0)) H) := by
  intro pins s σ H xs us Q I r h
  rcases h with ⟨i, rfl, q⟩ | ⟨k, rfl, q⟩
  · obtain ⟨u, rfl, t, rfl⟩ := vals1 r
    exact call_int_int ⟨.int i, H, I, ⟨_, rfl⟩, q⟩
  · obtain ⟨u, rfl, r1⟩ := vals1 r
    cases r1
    exact call_int_bool ⟨.int (if k then 1 else 0), H, I.tok _, ⟨_, rfl⟩, q⟩
end
end Internal

namespace Internal
open PySem PySem.Spec PyProof.Rows

set_option genInjectivity false in
set_option genSizeOf false in
structure ObjM (h : Heap) (x dx C : Addr) (mA : Str → Option Value) : Prop where
  obj : h.get? x = some (PySem.W.instObj C dx)
  ns : h.Ns1 dx mA
  ne : dx ≠ x

theorem lookIn_ns {h : Heap} {dx : Addr} {mA : Str → Option Value} (n : h.Ns1 dx mA) : ∃ od, h.get? dx = some od ∧ ∀ name, PySem.W.lookIn name od = some (mA name) := by
  obtain ⟨o, es, ep, ho, hd, hk, _, hm⟩ := n
  refine ⟨o, ho, fun name => ?_⟩
  have e := hm name
  unfold nsFind findBy at e
  rw [← Array.find?_toList] at e
  unfold PySem.W.lookIn
  rw [hd]
  dsimp only
  split
  · rename_i y q
    rw [q] at e
    exact congrArg some e
  · rename_i q
    rw [q] at e
    have a : es.toList.any (·.refKey) = false := by
      rw [List.any_eq_false]
      intro y hy
      obtain ⟨z, t, hkey⟩ := hk y (Array.mem_toList_iff.mp hy)
      simp [DictEntry.refKey, hkey]
    have a' : ¬ es.toList.any (·.refKey) = true := by rw [a]; exact Bool.false_ne_true
    rw [if_neg a']
    exact congrArg some e

theorem ObjM.look {h : Heap} {x dx C : Addr} {mA : Str → Option Value} (I : ObjM h x dx C mA) : ∃ od, PySem.W.InstAt h x (PySem.W.instObj C dx) C (some od) ∧ ∀ name, PySem.W.lookIn name od = some (mA name) :=
  let ⟨od, ho, hl⟩ := lookIn_ns I.ns
  ⟨od, ⟨I.obj, rfl, rfl, ho⟩, hl⟩

section
variable {prog : Program} {w : World} {A : Around} {E : Value → Shared → Prop} {s : Shared} {K : PySem.W.Frag} {x dx C f : Addr} {mA : Str → Option Value} {name : Str} {v : Value}

theorem get_map {expr : Bool} {Q : Value → Shared → Prop} (X : K.In s.heap) (I : ObjM s.heap x dx C mA) (hg : PySem.W.plainGet K C name = true) (hh : PySem.W.hasDictIn K C = true)
    (ha : PySem.W.findIn K (.ref C) name = some none) (hv : mA name = some v) (hv' : PySem.W.handedIn v = true) (h : Q v { s with toks := s.toks + 1 }) :
    wpAny (model prog w) A (getAttr (.ref x) name expr) Q E s := by
  obtain ⟨od, J, hl⟩ := I.look
  exact PySem.W.get_value X J (PySem.W.plainGet_of hg).1 (PySem.W.findObj_own hh ha rfl (by rw [hl, hv])) hv' h

theorem get_meth {pl : Sem Bool} {Q : Value × List Value → Shared → Prop} (X : K.In s.heap) (I : ObjM s.heap x dx C mA) (hg : PySem.W.plainGet K C name = true)
    (hf : PySem.W.findIn K (.ref C) name = some (some (.ref f))) (ht : PySem.W.isFn K (.ref f) = true) (hv : mA name = none) (h : Q (.ref f, [.ref x]) s) :
    wpAny (model prog w) A (getMethod (.ref x) name pl) Q E s := by
  obtain ⟨od, J, hl⟩ := I.look
  exact PySem.W.method_fn X J (PySem.W.plainGet_of hg).1 (PySem.W.plainGet_of hg).2 hf (beq_iff_eq.mp ht) (by show (PySem.W.lookIn name od).map (·.isSome) = some false; rw [hl, hv]; rfl) h

theorem set_map {ns : List Str} {Q : Unit → Shared → Prop} (X : K.In s.heap) (I : ObjM s.heap x dx C mA)
    (hs : PySem.W.findIn K (.ref C) "__setattr__" = some (some (.builtin "object.__setattr__"))) (hp : PySem.W.plainOver K C = true) (ht : PySem.W.takerIn K C name = some none) (hh : PySem.W.hasDictIn K C = true)
    (hw : PySem.Within mA ns) (hsz : ns.length ≤ sizeLine)
    (h : ∀ h', ObjM h' x dx C (fun y => if y = name then some v else mA y) → Heap.SameBut dx s.heap h' → Q () { s with heap := h', toks := s.toks + 2 }) :
    wpAny (model prog w) A (setAttr (.ref x) name v) Q E s := by
  obtain ⟨od, J, hl⟩ := I.look
  refine PySem.W.set_plain X J hs (PySem.W.osa_open (s := { s with toks := s.toks + 1 }) (r := none) X J hp ht fun b => ?_)
  obtain ⟨cd, hc, hd'⟩ := PySem.W.any_some hh
  have hx : s.heap.get? x = some ⟨.ref C, some dx, .plain, #[]⟩ := I.obj
  refine wpAny_bind (wpAny_pure (wpAny_bind (wpAny_bind (wpAny_loadPart hx (wpAny_bind (PySem.W.Looks.here (s := { s with toks := s.toks + 1 }) (PySem.W.looks_clsIn X hc) ?_))))))
  rw [hd']
  refine wpAny_pure (a := some dx) (wpAny_bind (wpAny_pure (wpAny_bind ?_)))
  refine wpAny_nsSet1 (s := { s with toks := s.toks + 1 }) I.ns fun h' hn2 hs2 => ?_
  obtain ⟨oD, esD, epD, hoD, hdD, hcD⟩ := hn2.count (PySem.Within.cons name v hw)
  refine wpAny_bind (wpAny_lookBehind hoD (by rw [hdD]; exact pastItsLine_dict (Nat.le_trans hcD (by rw [List.length_cons]; omega))) ?_)
  exact wpAny_pure (h _ ⟨(hs2.2 _ (Ne.symm I.ne)).trans I.obj, hn2, I.ne⟩ hs2)

theorem make_map {R : Result → Shared → Prop} {vs : List Value} {kw : List (Str × Value)} (X : K.In s.heap) (hm : PySem.W.makesIn K C = true)
    (hi : PySem.W.findIn K (.ref C) "__init__" = some (some (.ref f))) (hf : PySem.W.typeIn K (.ref f) = some (.type "function"))
    (h : codeAny (model prog w) (A.under (.builtin "type.__call__" ⟨.ref C :: vs, kw⟩)) (.call (.ref f) ⟨.ref (s.heap.objs.size + 1) :: vs, kw⟩) (PySem.W.InitBack (s.heap.objs.size + 1) R)
      { s with heap := (s.heap.push PySem.W.emptyDict).push (PySem.W.instObj C s.heap.objs.size) }) :
    codeAny (model prog w) A (.call (.ref C) ⟨vs, kw⟩) R s := by
  obtain ⟨hh, g, d, t, os⟩ := s
  exact PySem.W.make_core (PySem.W.makes_of X hm) (PySem.W.looks_findIn X hi) (fun self => PySem.W.bind_fn X self hf) (.inl rfl) h
end

noncomputable def putF (f : Str) (v : V) : List (Str × V) → List (Str × V)
  | [] => [(f, v)]
  | (g, x) :: r => if g = f then (g, v) :: r else (g, x) :: putF f v r
theorem lookup_putF (f g : Str) (v : V) : ∀ fs : List (Str × V), (putF f v fs).lookup g = if g = f then some v else fs.lookup g
  | [] => by
    show List.lookup g [(f, v)] = _
    by_cases h : g = f
    · have hb : (g == f) = true := beq_iff_eq.mpr h
      simp only [List.lookup, hb, if_pos h]
    · have hb : (g == f) = false := beq_eq_false_iff_ne.mpr h
      simp only [List.lookup, hb, if_neg h]
  | (k, x) :: r => by
    have ih := lookup_putF f g v r
    rw [show putF f v ((k, x) :: r) = (if k = f then (k, v) :: r else (k, x) :: putF f v r) from rfl]
    by_cases hk : k = f
    · rw [if_pos hk]
      by_cases h : g = k
      · have hb : (g == k) = true := beq_iff_eq.mpr h
        simp only [List.lookup, hb, if_pos (h.trans hk)]
      · have hb : (g == k) = false := beq_eq_false_iff_ne.mpr h
        simp only [List.lookup, hb, if_neg (fun e : g = f => h (e.trans hk.symm))]
    · rw [if_neg hk]
      by_cases h : g = k
      · have hb : (g == k) = true := beq_iff_eq.mpr h
        simp only [List.lookup, hb, if_neg (fun e : g = f => hk (h.symm.trans e))]
      · have hb : (g == k) = false := beq_eq_false_iff_ne.mpr h
        simp only [List.lookup, hb]
        exact ih
theorem keys_putF (f : Str) (v : V) : ∀ fs : List (Str × V), f ∈ (putF f v fs).map (·.1) ∧ ∀ g, g ∈ fs.map (·.1) → g ∈ (putF f v fs).map (·.1)
  | [] => ⟨by simp [putF], fun g h => by simp at h⟩
  | (k, x) :: r => by
    obtain ⟨i1, i2⟩ := keys_putF f v r
    rw [show putF f v ((k, x) :: r) = (if k = f then (k, v) :: r else (k, x) :: putF f v r) from rfl]
    by_cases hk : k = f
    · rw [if_pos hk]
      subst hk
      exact ⟨by simp, fun g h => by simpa using h⟩
    · rw [if_neg hk]
      refine ⟨?_, fun g h => ?_⟩
      · rw [List.map_cons]
        exact List.mem_cons_of_mem _ i1
      · rw [List.map_cons] at h ⊢
        rcases List.mem_cons.mp h with e | e
        · exact List.mem_cons.mpr (.inl e)
        · exact List.mem_cons_of_mem _ (i2 g e)
theorem length_putF (f : Str) (v : V) : ∀ fs : List (Str × V), (putF f v fs).length ≤ fs.length + 1
  | [] => by simp [putF]
  | (k, x) :: r => by
    have ih := length_putF f v r
    rw [show putF f v ((k, x) :: r) = (if k = f then (k, v) :: r else (k, x) :: putF f v r) from rfl]
    by_cases hk : k = f
    · rw [if_pos hk, List.length_cons, List.length_cons]; omega
    · rw [if_neg hk, List.length_cons, List.length_cons]; omega

theorem RelO.some_of {v : V} {o : Option Value} (r : RelO (some v) o) : ∃ u, o = some u ∧ RelV v u := by
  cases o with
  | none => exact (show False from r).elim
  | some u => exact ⟨u, rfl, r⟩
theorem RelO.none_of {o : Option Value} (r : RelO none o) : o = none := by
  cases o with
  | none => rfl
  | some u => exact (show False from r).elim
theorem handed_of {v : V} {u : Value} (r : RelV v u) : PySem.W.handedIn u = true := by
  cases v with
  | non => cases (show u = Value.none from r); rfl
  | bl b => cases (show u = Value.bool b from r); rfl
  | int i => obtain ⟨t, e⟩ := (show ∃ t, u = Value.int i t from r); cases e; rfl
  | str x => obtain ⟨t, e⟩ := (show ∃ t, u = Value.str x t from r); cases e; rfl
  | byt b => obtain ⟨t, e⟩ := (show ∃ t, u = Value.bytes b t from r); cases e; rfl
  | flt b => obtain ⟨t, e⟩ := (show ∃ t, u = Value.float b t from r); cases e; rfl
  | ref a => cases (show u = Value.ref a from r); rfl
  | ty n => cases (show u = Value.type n from r); rfl

section
variable {P : Program} {w : World} {H H' : Hp} {h h' : Heap} {a C dx : Addr} {fs fs' : List (Str × V)}
theorem ins_get (hok : HOk P w H h) (e : H a = some (.ins C dx fs)) : ∃ mA, ObjM h a dx C mA ∧ (∀ f, RelO (fs.lookup f) (mA f)) ∧ PySem.Within mA (fs.map (·.1)) ∧ fs.length ≤ 1000 ∧ H dx = some (.own a) := by
  obtain ⟨d, z, ne, ob, mA, n, r, q⟩ := (show ObjOk P w H h a (.ins C dx fs) from hok a _ e)
  exact ⟨mA, ⟨ob, n, ne⟩, r, q, z, d⟩
end

set_option genInjectivity false in
set_option genSizeOf false in
structure Cls (K : PySem.W.Frag) (C : Addr) : Prop where
  pg : PySem.W.plainGet K C Str.empty = true
  hd : PySem.W.hasDictIn K C = true
  po : PySem.W.plainOver K C = true
  sa : PySem.W.findIn K (.ref C) "__setattr__" = some (some (.builtin "object.__setattr__"))
theorem Cls.get {K : PySem.W.Frag} {C : Addr} (c : Cls K C) (f : Str) : PySem.W.plainGet K C f = true := c.pg
noncomputable def NoAttr (K : PySem.W.Frag) (C : Addr) (f : Str) : Prop := PySem.W.findIn K (.ref C) f = some none
theorem NoAttr.taker {K : PySem.W.Frag} {C : Addr} {f : Str} (n : NoAttr K C f) : PySem.W.takerIn K C f = some none := by
  unfold PySem.W.takerIn
  rw [show PySem.W.findIn K (.ref C) f = some none from n]
  rfl
set_option genInjectivity false in
set_option genSizeOf false in
structure Con (K : PySem.W.Frag) (C : Addr) (f : Str) (v : V) (u : Value) : Prop where
  at_ : PySem.W.findIn K (.ref C) f = some (some u)
  rel : RelV v u
  get : PySem.W.specialIn K u "__get__" = some none
  cp : PySem.W.copiedNames.contains f = false
set_option genInjectivity false in
set_option genSizeOf false in
structure Meth (K : PySem.W.Frag) (C : Addr) (m : Str) (f : Addr) : Prop where
  at_ : PySem.W.findIn K (.ref C) m = some (some (.ref f))
  fn : PySem.W.isFn K (.ref f) = true
  kp : PySem.W.keepIn K (.ref f) = true

section
variable {X : Cx} {pins : List (Addr × Obj)} {σ : St} {H : Hp} {s : Shared} {a C dx : Addr} {fs : List (Str × V)} {f : Str} {v : V} {A : Around} {E : Value → Shared → Prop}

theorem getattr_ok {b : Bool} {Q : Value → Shared → Prop} (I : Inv X pins σ H s) (e : H a = some (.ins C dx fs)) (c : Cls X.K C) (n : NoAttr X.K C f) (l : fs.lookup f = some v)
    (h : ∀ u s', Inv X pins σ H s' → RelV v u → Q u s') : wpAny (model X.prog X.w) A (getAttr (.ref a) f b) Q E s := by
  obtain ⟨mA, O, r, _, _, _⟩ := ins_get I.hok e
  obtain ⟨u, hu, ru⟩ := RelO.some_of (v := v) (o := mA f) (by rw [← l]; exact r f)
  exact get_map I.kIn O (c.get f) c.hd n hu (handed_of ru) (h u _ (I.tok _) ru)

theorem getmeth_ok {m : Str} {g : Addr} {pl : Sem Bool} {Q : Value × List Value → Shared → Prop} (I : Inv X pins σ H s) (e : H a = some (.ins C dx fs)) (c : Cls X.K C) (k : Meth X.K C m g) (l : fs.lookup m = none)
    (h : Q (.ref g, [.ref a]) s) : wpAny (model X.prog X.w) A (getMethod (.ref a) m pl) Q E s := by
  obtain ⟨mA, O, r, _, _, _⟩ := ins_get I.hok e
  have hn : mA m = none := RelO.none_of (by rw [← l]; exact r m)
  exact get_meth I.kIn O (c.get m) k.at_ k.fn hn h

theorem setattr_ok {y : V} {u : Value} {Q : Unit → Shared → Prop} (I : Inv X pins σ H s) (e : H a = some (.ins C dx fs)) (c : Cls X.K C) (n : NoAttr X.K C f) (hl : fs.length < 1000) (ry : RelV y u)
    (h : ∀ s', Inv X pins σ (upd H a (.ins C dx (putF f y fs))) s' → Q () s') : wpAny (model X.prog X.w) A (setAttr (.ref a) f u) Q E s := by
  obtain ⟨mA, O, r, wi, _, ho⟩ := ins_get I.hok e
  have hz : (fs.map (·.1)).length ≤ sizeLine := by rw [List.length_map, sizeLine_eq]; omega
  refine set_map I.kIn O c.sa c.po n.taker c.hd wi hz fun h' O' sb => h _ ?_
  have hd : ∃ o, h'.get? dx = some o := let ⟨o, _, _, e', _⟩ := O'.ns; ⟨o, e'⟩
  refine I.write (x := a) (e := dx) (by rw [e]; exact True.intro) (.inr ho) (fun b q hb z => (sb.2 b hb).trans z) hd ?_
  refine ⟨by rw [upd_ne O.ne]; exact ho, ?_, O.ne, O'.obj, _, O'.ns, fun g => ?_, fun g hg => ?_⟩
  · have := length_putF f y fs; omega
  · show RelO ((putF f y fs).lookup g) (if g = f then some u else mA g)
    rw [lookup_putF]
    by_cases q : g = f
    · rw [if_pos q, if_pos q]; exact ry
    · rw [if_neg q, if_neg q]; exact r g
  · by_cases q : g = f
    · rw [q]; exact (keys_putF f y fs).1
    · refine (keys_putF f y fs).2 g (wi g fun z => hg ?_)
      show (if g = f then some u else mA g) = none
      rw [if_neg q]; exact z

theorem Inv.made (I : Inv X pins σ H s) : Inv X pins σ (upd (upd H s.heap.objs.size (.own (s.heap.objs.size + 1))) (s.heap.objs.size + 1) (.ins C s.heap.objs.size []))
    { s with heap := (s.heap.push PySem.W.emptyDict).push (PySem.W.instObj C s.heap.objs.size) } := by
  have e1 : (s.heap.push PySem.W.emptyDict).get? s.heap.objs.size = some PySem.W.emptyDict := Heap.get?_push_size s.heap rfl
  have e2 : ((s.heap.push PySem.W.emptyDict).push (PySem.W.instObj C s.heap.objs.size)).get? (s.heap.objs.size + 1) = some (PySem.W.instObj C s.heap.objs.size) := by
    have := Heap.get?_push_size (s.heap.push PySem.W.emptyDict) (o := PySem.W.instObj C s.heap.objs.size) rfl
    rwa [Heap.size_push] at this
  have e3 : (s.heap.push PySem.W.emptyDict).Ns s.heap.objs.size (fun _ => none) := ⟨PySem.W.emptyDict, #[], _, e1, rfl, (fun e he => absurd he (by simp)), fun _ => rfl⟩
  have I1 := I.laid (a := s.heap.objs.size) (o := .own (s.heap.objs.size + 1)) (h' := s.heap.push PySem.W.emptyDict) (t' := s.toks) (fun b u q => Heap.get?_push_of_some _ q) (Nat.le_refl _) ⟨_, e1⟩
  refine I1.laid (a := s.heap.objs.size + 1) (o := .ins C s.heap.objs.size []) (t' := s.toks) (fun b u q => Heap.get?_push_of_some _ q) (Nat.le_of_eq (Heap.size_push _ _)) ?_
  have ne : s.heap.objs.size ≠ s.heap.objs.size + 1 := Nat.ne_of_lt (Nat.lt_succ_self _)
  refine ⟨by rw [upd_ne ne, upd_same], Nat.zero_le _, ne, e2, fun _ => none, (Heap.Ns1.of_empty e3).at fun o q => Heap.get?_push_of_some _ q, fun _ => True.intro, fun y hy => absurd rfl hy⟩

theorem attr_of {prog : Program} {w : World} {env : Env} {e : Expr} {f : Str} {pos : Pos} {s : Shared} {Q : Value → Shared → Prop} (hb : attributeBase e f env (eval e env) = eval e env)
    (h : wpAny (model prog w) A (eval e env) (fun o s₁ => wpAny (model prog w) A (getAttr o f true) Q E s₁) E s) : wpAny (model prog w) A (eval (.Attribute e f pos) env) Q E s :=
  Attribute_any_ h (by rw [arm_eval_Attribute, hb])
end

noncomputable def tFld (K : PySem.W.Frag) (ta : TE) (f : Str) : TE := fun σ H Q => ta σ H fun x H1 => ∃ a C dx fs v, x = .ref a ∧ H1 a = some (.ins C dx fs) ∧ Cls K C ∧ NoAttr K C f ∧ fs.lookup f = some v ∧ Q v H1
noncomputable def sFld (K : PySem.W.Frag) (ta tv : TE) (f : Str) : TS := fun D σ H => tv σ H fun y H1 => ta σ H1 fun x H2 => ∃ a C dx fs, x = .ref a ∧ H2 a = some (.ins C dx fs) ∧ Cls K C ∧ NoAttr K C f ∧ fs.length < 1000 ∧
  D.nx σ (upd H2 a (.ins C dx (putF f y fs)))
section
variable {X : Cx} {o e value : Expr} {f : Str} {pos pos' tpos : Pos} {ta tv : TE}
theorem pe_fld (he : PE X e ta) (hb : attributeBase e f X.env (eval e X.env) = eval e X.env) : PE X (.Attribute e f pos) (tFld X.K ta f) := by
  intro pins s σ H Q I h
  refine attr_of hb (thn (he pins s σ H _ I h) fun u s1 zz => ?_)
  obtain ⟨x, H1, I1, rx, a, C, dx, fs, v, ex, ea, c, n, l, q⟩ := zz
  subst ex
  obtain rfl : u = Value.ref a := rx
  exact getattr_ok I1 ea c n l fun u' s2 I2 ru => ⟨v, H1, I2, ru, q⟩
theorem ps_fld (ha : PE X o ta) (hv : PE X value tv) (hs : swapsWith value (some (.Attribute o f pos')) pos.line X.env = pure false) : PS X (.Assign [.Attribute o f pos'] value pos) (sFld X.K ta tv f) := by
  intro pins s σ H D I h
  refine plainObj_wpAny_Assign_Attribute (thn (hv pins s σ H _ I h) fun u s1 ⟨y, H1, I1, ry, q⟩ => thn (ha pins s1 σ H1 _ I1 q) fun ov s2 zz => ?_) hs
  obtain ⟨x, H2, I2, rx, a, C, dx, fs, ex, ea, c, n, l, q2⟩ := zz
  subst ex
  obtain rfl : ov = Value.ref a := rx
  exact setattr_ok I2 ea c n l ry fun s3 I3 => ⟨σ, _, I3, q2⟩
end

section
variable {X : Cx} {pins : List (Addr × Obj)} {σ : St} {H : Hp} {s : Shared} {A : Around} {E : Value → Shared → Prop} {Q : Value → Shared → Prop} {c : Value} {b : Bool}
inductive TyOf (K : PySem.W.Frag) (H : Hp) : V → Value → Prop where
  | non : TyOf K H .non (.type "NoneType")
  | bl (x : Bool) : TyOf K H (.bl x) (.type "bool")
  | int (i : Int) : TyOf K H (.int i) (.type "int")
  | str (x : Str) : TyOf K H (.str x) (.type "str")
  | flt (x : UInt64) : TyOf K H (.flt x) (.type "float")
  | lst {a : Addr} {xs : List V} (e : H a = some (.lst xs)) : TyOf K H (.ref a) (.type "list")
  | frz {a : Addr} {o : Obj} {xs : List V} (e : H a = some (.frz o (.lst xs))) : TyOf K H (.ref a) (.type "list")
  | tup {a : Addr} {xs : List V} (e : H a = some (.tup xs)) : TyOf K H (.ref a) (.type "tuple")
  | dK {a : Addr} {kvs : List (Key × V)} (e : H a = some (.dK kvs)) : TyOf K H (.ref a) (.type "dict")
  | dT {a : Addr} {kvs : List (List Key × V)} (e : H a = some (.dT kvs)) : TyOf K H (.ref a) (.type "dict")
  | ins {a C dx : Addr} {fs : List (Str × V)} (e : H a = some (.ins C dx fs)) (cl : Cls K C) (ha : PySem.W.findIn K (.ref C) "__class__" = some (some (.builtin "object.__class__")))
      (hn : PySem.W.specialIn K (.builtin "object.__class__") "__get__" = some (some (.builtin "getset_descriptor.__get__"))) (htk : PySem.W.takesIn K (.builtin "object.__class__") = some true)
      (hm : PySem.W.mroIn K C (.type "object") = some true) : TyOf K H (.ref a) (.ref C)
theorem isinst_ok {x : V} {u t : Value} (I : Inv X pins σ H s) (rx : RelV x u) (ty : TyOf X.K H x t) (e : PySem.W.kitOne X.K t c = some b) (h : ∀ tk, Q (.bool b) { s with toks := tk }) :
    wpAny (model X.prog X.w) A (call (.builtin "isinstance") [u, c]) Q E s := by
  cases ty with
  | non => cases (show u = Value.none from rx); exact PySem.W.kia_one PySem.W.kitx_none I.kIn True.intro e (fun z => nomatch z) h
  | bl y => cases (show u = Value.bool y from rx); exact PySem.W.kia_one PySem.W.kitx_bool I.kIn True.intro e (fun z => nomatch z) h
  | int i => obtain ⟨t, q⟩ := (show ∃ t, u = Value.int i t from rx); cases q; exact PySem.W.kia_one PySem.W.kitx_int I.kIn True.intro e (fun z => nomatch z) h
  | str y => obtain ⟨t, q⟩ := (show ∃ t, u = Value.str y t from rx); cases q; exact PySem.W.kia_one PySem.W.kitx_str I.kIn True.intro e (fun z => nomatch z) h
  | flt y => obtain ⟨t, q⟩ := (show ∃ t, u = Value.float y t from rx); cases q; exact PySem.W.kia_one PySem.W.kitx_float I.kIn True.intro e (fun z => nomatch z) h
  | @lst a xs ea =>
    cases (show u = Value.ref a from rx)
    obtain ⟨_, _, n, _, h1⟩ := (show ObjOk X.prog X.w H s.heap a (.lst xs) from I.hok a _ ea)
    exact PySem.W.kia_one PySem.W.kitx_list I.kIn ⟨_, h1, rfl⟩ e (fun z => nomatch z) h
  | @frz a ob xs ea =>
    cases (show u = Value.ref a from rx)
    obtain ⟨_, _, _, n, _, h1⟩ := (show ObjOk X.prog X.w H s.heap a (.frz ob (.lst xs)) from I.hok a _ ea)
    exact PySem.W.kia_one PySem.W.kitx_list I.kIn ⟨_, h1, rfl⟩ e (fun z => nomatch z) h
  | @tup a xs ea =>
    cases (show u = Value.ref a from rx)
    obtain ⟨_, _, _, p⟩ := (show ObjOk X.prog X.w H s.heap a (.tup xs) from I.hok a _ ea)
    obtain ⟨o, h1, h2, _⟩ := p
    exact PySem.W.kia_one PySem.W.kitx_tuple I.kIn ⟨o, h1, h2⟩ e (fun z => nomatch z) h
  | @dK a kvs ea =>
    cases (show u = Value.ref a from rx)
    obtain ⟨_, _, vs, _, p⟩ := (show ObjOk X.prog X.w H s.heap a (.dK kvs) from I.hok a _ ea)
    obtain ⟨o, es, ep, h1, h2, _⟩ := p
    exact PySem.W.kia_one PySem.W.kitx_dict I.kIn ⟨o, h1, h2.1⟩ e (fun z => nomatch z) h
  | @dT a kvs ea =>
    cases (show u = Value.ref a from rx)
    obtain ⟨_, _, xs, _, o, es, ep, h1, h2, _⟩ := (show ObjOk X.prog X.w H s.heap a (.dT kvs) from I.hok a _ ea)
    exact PySem.W.kia_one PySem.W.kitx_dict I.kIn ⟨o, h1, h2.1⟩ e (fun z => nomatch z) h
  | @ins a C dx fs ea cl ha hn htk hm =>
    cases (show u = Value.ref a from rx)
    obtain ⟨mA, O, _⟩ := ins_get I.hok ea
    obtain ⟨od, J, _⟩ := O.look
    exact PySem.W.kia_one (PySem.W.kitx_own (cl.get _) cl.hd ha hn htk hm) I.kIn J e (fun z => nomatch z) h
end
end Internal

namespace Internal
open PySem PySem.Spec PyProof.Rows

set_option genInjectivity false in
set_option genSizeOf false in
structure Room (k : Nat) (A : Around) : Prop where
  hd : A.handled = none
  dp : A.depth + 3 * k + 5 < recursionLimit
  un : A.units + 16 * k + 200 < cLine
theorem Room.mono {j k : Nat} {A : Around} (r : Room k A) (h : j ≤ k) : Room j A := ⟨r.hd, by have := r.dp; omega, by have := r.un; omega⟩
theorem Room.deeper {k : Nat} {A : Around} (r : Room (k + 1) A) (env : Env) : Room k (A.deeper env) :=
  ⟨r.hd, by have := r.dp; show A.depth + 1 + 3 * k + 5 < _; omega, by have := r.un; show A.units + 3 + 16 * k + 200 < _; omega⟩
theorem make_depth {A : Around} {C : Addr} {us : List Value} {kw : List (Str × Value)} : (A.under (.builtin "type.__call__" ⟨.ref C :: us, kw⟩)).depth = A.depth + 1 := by
  first | rfl | simp [Around.under, Code.weight, Code.isCreation, Code.isGuard, Code.isCaller, Code.frames, Code.isFrame, guardIds]
theorem make_units {A : Around} {C : Addr} {us : List Value} {kw : List (Str × Value)} : (A.under (.builtin "type.__call__" ⟨.ref C :: us, kw⟩)).units = A.units + 1 := by
  first | rfl | simp [Around.under, Code.cUnits, Code.frames, Code.isFrame]
theorem Room.make {k : Nat} {A : Around} (r : Room (k + 1) A) (C : Addr) (us : List Value) (kw : List (Str × Value)) : Room k (A.under (.builtin "type.__call__" ⟨.ref C :: us, kw⟩)) :=
  ⟨r.hd, by have := r.dp; rw [make_depth]; omega, by have := r.un; rw [make_units]; omega⟩
theorem Room.depth {k : Nat} {A : Around} (r : Room k A) : A.depth < recursionLimit := by have := r.dp; omega
theorem Room.units {k : Nat} {A : Around} (r : Room k A) : A.units + 64 < cLine := by have := r.un; omega
noncomputable abbrev tNil : TA := fun _ H Q => Q [] H
noncomputable abbrev tCons (ta : TE) (tr : TA) : TA := fun σ H Q => ta σ H fun x H1 => tr σ H1 fun xs H2 => Q (x :: xs) H2
section
variable {X : Cx} {e : Expr} {es : List Expr} {te : TE} {t : TA} {pos : Pos}
theorem pa_nil : PA X [] tNil := fun _ _ _ _ H Q I h => Calls.spliced_nil ⟨[], H, I, .nil, h⟩
theorem pa_cons (ha : PE X e te) (hr : PA X es t) (hs : autoParam (starEach (e :: es) X.env = (false, eval e X.env) :: starEach es X.env) Internal.aut2._auto_1) : PA X (e :: es) (tCons te t) := by
  intro pos pins s σ H Q I h
  rw [hs]
  show wpAny _ _ (spliced ((false, eval e X.env) :: backTo pos (starEach es X.env))) _ _ s
  refine Calls.spliced_cons (thn (ha pins s σ H _ I h) fun u s1 zz => ?_)
  obtain ⟨x, H1, I1, r1, q1⟩ := zz
  exact thn (hr pos pins s1 σ H1 _ I1 q1) fun us s2 ⟨xs, H2, I2, r2, q2⟩ => ⟨x :: xs, H2, I2, .cons r1 r2, q2⟩

noncomputable def tTup (t : TA) : TE := fun σ H Q => t σ H fun xs H1 => xs.length ≤ sizeLine ∧ ∀ p, H1 p = none → Q (.ref p) (upd H1 p (.tup xs))
noncomputable def tLst (t : TA) : TE := fun σ H Q => t σ H fun xs H1 => xs.length ≤ sizeLine ∧ ∀ p, H1 p = none → Q (.ref p) (upd H1 p (.lst xs))
theorem pe_tup {x1} (h : PA X es t) : PE X (.Tuple es x1 pos) (tTup t) := by
  intro pins s σ H Q I hq
  refine wpAny_Tuple_spliced (thn (h pos pins s σ H _ I hq) fun us s1 ⟨xs, H1, I1, r, z, q⟩ => ⟨by rw [← r.length]; exact z, ?_⟩)
  have hf : H1 s1.heap.objs.size = none := I1.hok.fresh (Nat.le_refl _)
  refine ⟨.ref s1.heap.objs.size, upd H1 s1.heap.objs.size (.tup xs), I1.laid (t' := s1.toks) (fun b u e => Heap.get?_push_of_some _ e) (Nat.le_refl _) ?_, rfl, q _ hf⟩
  exact ⟨z, us, r, ⟨_, Heap.get?_push_size _ rfl, rfl, _, rfl⟩⟩
theorem pe_lst (h : PA X es t) : PE X (.List es pos) (tLst t) := by
  intro pins s σ H Q I hq
  refine wpAny_List_spliced (thn (h pos pins s σ H _ I hq) fun us s1 ⟨xs, H1, I1, r, z, q⟩ => ⟨by rw [← r.length]; exact z, ?_⟩)
  have hf : H1 s1.heap.objs.size = none := I1.hok.fresh (Nat.le_refl _)
  refine ⟨.ref s1.heap.objs.size, upd H1 s1.heap.objs.size (.lst xs), I1.laid (t' := s1.toks) (fun b u e => Heap.get?_push_of_some _ e) (Nat.le_refl _) ?_, rfl, q _ hf⟩
  exact ⟨z, us, 0, r, Heap.get?_push_size _ rfl⟩
end

noncomputable abbrev Sp := List V → Hp → VK → XK → Prop
noncomputable abbrev CXT := List Env → Hp → Shared → XK → Value → Shared → Prop

set_option genInjectivity false in
set_option genSizeOf false in
structure Env0 (P : Program) (w : World) (K : PySem.W.Frag) (mg : Str → Option Value) (base : Heap) (A : Around) (outer : List Env) (s : Shared) (H : Hp) : Prop where
  frames : A.frames = some outer
  mod : Mod K mg base
  bs : ∀ b o, base.get? b = some o → s.heap.get? b = some o ∧ H b = none
  bsz : base.objs.size ≤ s.heap.objs.size
  funs : s.heap.FunFrames base outer
  frf : ∀ b ∈ frs outer, H b = none
  hok : HOk P w H s.heap
  bare : AllBare s.gens
noncomputable def CE (outer : List Env) (P : Program) (w : World) (H : Hp) (s : Shared) (Q : VK) (u : Value) (s' : Shared) : Prop :=
  ∃ v H', s'.os = s.os ∧ AllBare s'.gens ∧ Un (frs outer) [] H H' s.heap s'.heap ∧ HOk P w H' s'.heap ∧ RelV v u ∧ Q v H'
noncomputable def CR (CX : CXT) (outer : List Env) (P : Program) (w : World) (H : Hp) (s : Shared) (Q : VK) (E : XK) (r : Result) (s' : Shared) : Prop :=
  match r with
  | .ok (.ret u) => CE outer P w H s Q u s'
  | .ok _ => False
  | .error e => CX outer H s E e s'
set_option genInjectivity false in
set_option genSizeOf false in
structure FnOk (P : Program) (w : World) (K : PySem.W.Frag) (mg : Str → Option Value) (base : Heap) (CX : CXT) (k : Nat) (f : Addr) (fd : FuncData) (ps : List Str) (sp : Sp) : Prop where
  len : ∀ vs H Q E, sp vs H Q E → vs.length = ps.length
  run : ∀ (A : Around) (outer : List Env) (s : Shared) (H : Hp) (args : Args) (us : List Value) (vs : List V) (Q : VK) (E : XK), Room k A → Env0 P w K mg base A outer s H → BindsTo s fd args (ps.zip us) → Vals vs us → sp vs H Q E →
    codeAny (model P w) A (.call (.ref f) args) (CR CX outer P w H s Q E) s
theorem Env0.make {P : Program} {w : World} {K : PySem.W.Frag} {mg : Str → Option Value} {base : Heap} {A : Around} {outer : List Env} {s : Shared} {H : Hp} (e : Env0 P w K mg base A outer s H) (C : Addr) (us : List Value) (kw : List (Str × Value)) :
    Env0 P w K mg base (A.under (.builtin "type.__call__" ⟨.ref C :: us, kw⟩)) outer s H := ⟨by first | exact e.frames | (simpa [Around.under, Code.envs, Code.isFrame, pushEnvs] using e.frames), e.mod, e.bs, e.bsz, e.funs, e.frf, e.hok, e.bare⟩
theorem Env0.in1 {P : Program} {w : World} {K : PySem.W.Frag} {mg : Str → Option Value} {base : Heap} {A : Around} {outer : List Env} {s : Shared} {H : Hp} (e : Env0 P w K mg base A outer s H) :
    Env0 P w K mg base A.in1 outer s H := ⟨e.frames, e.mod, e.bs, e.bsz, e.funs, e.frf, e.hok, e.bare⟩

section
variable {X : Cx} {pins : List (Addr × Obj)} {σ : St} {H : Hp} {s s' : Shared}
theorem Inv.env0 (I : Inv X pins σ H s) : Env0 X.prog X.w X.K X.mg X.base X.A X.stack s H :=
  ⟨I.ok.frames, I.ok.mod, I.bs, Nat.le_trans I.ok.bsz I.sz, I.stack, I.stkFree, I.hok, I.bare⟩
theorem Inv.after {Q : VK} {u : Value} (I : Inv X pins σ H s) (h : CE X.stack X.prog X.w H s Q u s') : EP X pins σ Q u s' := by
  obtain ⟨v, H', os, bare, un, hok, r, q⟩ := h
  obtain ⟨hh, g, d, t, os'⟩ := s'
  obtain rfl : os' = s.os := os
  exact ⟨v, H', I.call (h' := hh) (g' := g) (d' := d) (t' := t) (ch := []) un hok bare (fun b z => absurd z (by simp)), r, q⟩
end

noncomputable def tCall (sp : Sp) (dvs : List V) (E : XK) (t : TA) : TE := fun σ H Q => t σ H fun vs H1 => sp (vs ++ dvs) H1 Q E
noncomputable def tMeth (C : Addr) (m : Str) (sp : Sp) (dvs : List V) (E : XK) (ta : TE) (t : TA) : TE := fun σ H Q => ta σ H fun x H1 => ∃ a dx fs, x = .ref a ∧ H1 a = some (.ins C dx fs) ∧ fs.lookup m = none ∧
  t σ H1 fun vs H2 => sp (x :: (vs ++ dvs)) H2 Q E
noncomputable def tMake (C : Addr) (sp : Sp) (dvs : List V) (E : XK) (t : TA) : TE := fun σ H Q => t σ H fun vs H1 => ∀ x dx, H1 x = none → H1 dx = none → dx ≠ x →
  sp (.ref x :: (vs ++ dvs)) (upd (upd H1 dx (.own x)) x (.ins C dx [])) (fun v H2 => v = .non ∧ Q (.ref x) H2) E

noncomputable def Binds (K : PySem.W.Frag) (fd : FuncData) (ps : List Str) (ds : List Value) : Prop :=
  ∀ (s : Shared) (us : List Value), K.In s.heap → (us ++ ds).length = ps.length → BindsTo s fd ⟨us, []⟩ (ps.zip (us ++ ds))
theorem Binds.all {K : PySem.W.Frag} {fd : FuncData} {ps : List Str} (h : ∀ us : List Value, us.length = ps.length → bindArgs fd ⟨us, []⟩ = pure (ps.zip us)) : Binds K fd ps [] := fun s us _ hl => by
  rw [List.append_nil] at hl ⊢
  exact .of_eq (h us hl)

noncomputable def Passes (CX : CXT) (X : Cx) (E : XK) : Prop := ∀ (pins : List (Addr × Obj)) (σ : St) (H : Hp) (s : Shared) (e : Value) (s' : Shared), Inv X pins σ H s → CX X.stack H s E e s' → X.xe e s'

section
variable {X : Cx} {CX : CXT} {k : Nat} {f C : Addr} {fd : FuncData} {ps : List Str} {sp : Sp} {dvs : List V} {ds : List Value} {E : XK} {x m : Str} {p pos apos : Pos} {e o : Expr} {es : List Expr} {ta : TE} {t : TA}

theorem run_fn {pins : List (Addr × Obj)} {σ : St} {H : Hp} {s : Shared} {Q : VK} {us : List Value} {vs : List V} (F : FnOk X.prog X.w X.K X.mg X.base CX k f fd ps sp) (hr : Room k X.A) (hb : Binds X.K fd ps ds) (hd : Vals dvs ds) (hx : Passes CX X E)
    (I : Inv X pins σ H s) (r : Vals vs us) (h : sp (vs ++ dvs) H Q E) : wpAny (model X.prog X.w) X.A (call (.ref f) us) (EP X pins σ Q) X.xe s := by
  have r2 : Vals (vs ++ dvs) (us ++ ds) := r.append hd
  have hl : (us ++ ds).length = ps.length := by rw [← r2.length]; exact F.len _ _ _ _ h
  refine wpAny_call (codeAny_mono (F.run X.A X.stack s H ⟨us, []⟩ (us ++ ds) (vs ++ dvs) Q E hr I.env0 (hb s us I.kIn hl) r2 h) fun r s' hq => ?_)
  cases r with
  | error e => exact hx pins σ H s e s' I hq
  | ok fl =>
    cases fl with
    | ret u => exact I.after hq
    | next => exact False.elim hq
    | brk => exact False.elim hq
    | cont => exact False.elim hq

theorem pe_call (F : FnOk X.prog X.w X.K X.mg X.base CX k f fd ps sp) (hr : Room k X.A) (hg : Gl X x) (hm : X.mg x = some (.ref f)) (hk : PySem.W.keepIn X.K (.ref f) = true) (hb : Binds X.K fd ps ds) (hd : Vals dvs ds) (hx : Passes CX X E)
    (ha : PA X (e :: es) t) (hdb : autoParam ((x == ("__debug__" : Str)) = false) Internal.aut1._auto_1) (he : autoParam (starEach (e :: es) X.env = (false, eval e X.env) :: starEach es X.env) Internal.aut2._auto_1) (hpl : autoParam ((backTo pos (starEach es X.env)).any (·.1) = false) Internal.aut2._auto_1) :
    PE X (.Call (.Name x p) (e :: es) [] pos) (tCall sp dvs E t) := by
  intro pins s σ H Q I h
  refine wpAny_Call_Name_kw (ld_glob I hg hm ?_ hdb)
  refine PySem.W.callWith_K (h₀ := X.base) I.ok.mod.kin hk (thn (ha pos pins s σ H _ I h) fun us s1 ⟨vs, H1, I1, r, q⟩ => ⟨I1.kIn, ?_⟩) he hpl
  exact run_fn F hr hb hd hx I1 r q
theorem pe_meth {pl : Sem Bool} (he : PE X o ta) (c : Cls X.K C) (hm : Meth X.K C m f) (F : FnOk X.prog X.w X.K X.mg X.base CX k f fd ps sp) (hr : Room k X.A) (hb : Binds X.K fd ps ds) (hd : Vals dvs ds) (hx : Passes CX X E) (ha : PA X (e :: es) t)
    (hst : autoParam (starEach (e :: es) X.env = (false, eval e X.env) :: starEach es X.env) Internal.aut2._auto_1) (hpl : autoParam ((backTo pos (starEach es X.env)).any (·.1) = false) Internal.aut2._auto_1)
    (ht : autoParam (eval (.Call (.Attribute o m apos) (e :: es) [] pos) X.env = (do
      let ov ← eval o X.env
      standAt apos.atName
      let (f, first) ← holding [ov] (getMethod ov m pl)
      callWith pos f first (backTo pos (starEach (e :: es) X.env)) (backToKw pos (keywordEach [] X.env)))) Internal.aut2._auto_1) :
    PE X (.Call (.Attribute o m apos) (e :: es) [] pos) (tMeth C m sp dvs E ta t) := by
  intro pins s σ H Q I h
  refine PySem.W.methodCall_KW (pl := pl) (thn (he pins s σ H _ I h) fun u s1 zz => ?_) ht
  obtain ⟨x, H1, I1, rx, a, dx, fs, ex, ea, l, q⟩ := zz
  subst ex
  obtain rfl : u = Value.ref a := rx
  refine getmeth_ok I1 ea c hm l ?_
  refine PySem.W.callWith_K (first := [.ref a]) (h₀ := X.base) I.ok.mod.kin hm.kp (thn (ha pos pins s1 σ H1 _ I1 q) fun us s2 ⟨vs, H2, I2, r, q2⟩ => ⟨I2.kIn, ?_⟩) hst hpl
  exact run_fn (us := .ref a :: us) (vs := .ref a :: vs) F hr hb hd hx I2 (.cons rfl r) q2
theorem pe_meth0 {pl : Sem Bool} (he : PE X o ta) (c : Cls X.K C) (hm : Meth X.K C m f) (F : FnOk X.prog X.w X.K X.mg X.base CX k f fd ps sp) (hr : Room k X.A) (hb : Binds X.K fd ps ds) (hd : Vals dvs ds) (hx : Passes CX X E)
    (ht : autoParam (eval (.Call (.Attribute o m apos) [] [] pos) X.env = (do
      let ov ← eval o X.env
      standAt apos.atName
      let (f, first) ← holding [ov] (getMethod ov m pl)
      callWith pos f first (backTo pos (starEach [] X.env)) (backToKw pos (keywordEach [] X.env)))) Internal.aut2._auto_1) :
    PE X (.Call (.Attribute o m apos) [] [] pos) (tMeth C m sp dvs E ta tNil) := by
  intro pins s σ H Q I h
  refine PySem.W.methodCall_KW (pl := pl) (thn (he pins s σ H _ I h) fun u s1 zz => ?_) ht
  obtain ⟨x, H1, I1, rx, a, dx, fs, ex, ea, l, q⟩ := zz
  subst ex
  obtain rfl : u = Value.ref a := rx
  refine getmeth_ok I1 ea c hm l ?_
  exact PySem.W.callWith_K0 (first := [.ref a]) I1.kIn hm.kp (run_fn (us := [.ref a]) (vs := [.ref a]) F hr hb hd hx I1 (.cons rfl .nil) q)

set_option genInjectivity false in
set_option genSizeOf false in
structure Mk (K : PySem.W.Frag) (C f : Addr) : Prop where
  makes : PySem.W.makesIn K C = true
  init : PySem.W.findIn K (.ref C) "__init__" = some (some (.ref f))
  fn : PySem.W.isFn K (.ref f) = true
  kp : PySem.W.keepIn K (.ref C) = true

theorem run_make {pins : List (Addr × Obj)} {σ : St} {H : Hp} {s : Shared} {Q : VK} {us : List Value} {vs : List V} (M : Mk X.K C f) (F : FnOk X.prog X.w X.K X.mg X.base CX k f fd ps sp) (hr : Room (k + 1) X.A) (hb : Binds X.K fd ps ds) (hd : Vals dvs ds)
    (hx : Passes CX X E) (I : Inv X pins σ H s) (r : Vals vs us)
    (h : ∀ x dx, H x = none → H dx = none → dx ≠ x → sp (.ref x :: (vs ++ dvs)) (upd (upd H dx (.own x)) x (.ins C dx [])) (fun v H2 => v = .non ∧ Q (.ref x) H2) E) :
    wpAny (model X.prog X.w) X.A (call (.ref C) us) (EP X pins σ Q) X.xe s := by
  have hq := h (s.heap.objs.size + 1) s.heap.objs.size (I.hok.fresh (Nat.le_succ _)) (I.hok.fresh (Nat.le_refl _)) (Nat.ne_of_lt (Nat.lt_succ_self _))
  have I2 := Inv.made (C := C) I
  have r2 : Vals (V.ref (s.heap.objs.size + 1) :: (vs ++ dvs)) (Value.ref (s.heap.objs.size + 1) :: (us ++ ds)) := .cons rfl (r.append hd)
  have hl : (Value.ref (s.heap.objs.size + 1) :: us ++ ds).length = ps.length := by
    have e := r2.length
    rw [F.len _ _ _ _ hq] at e
    exact e.symm
  refine wpAny_call (make_map (f := f) I.kIn M.makes M.init (beq_iff_eq.mp M.fn) (codeAny_mono (F.run _ X.stack _ _ ⟨Value.ref (s.heap.objs.size + 1) :: us, []⟩ (Value.ref (s.heap.objs.size + 1) :: (us ++ ds)) _ _ E (hr.make C us [])
    (I2.env0.make C us []) (hb _ (Value.ref (s.heap.objs.size + 1) :: us) I2.kIn hl) r2 hq) fun r s' hq' => ?_))
  cases r with
  | error e => exact hx pins σ _ _ e s' I2 hq'
  | ok fl =>
    cases fl with
    | ret u =>
      obtain ⟨v, H', I3, rv, ev, q3⟩ := I2.after hq'
      subst ev
      exact ⟨rv, ⟨V.ref (s.heap.objs.size + 1), H', I3, rfl, q3⟩⟩
    | next => exact False.elim hq'
    | brk => exact False.elim hq'
    | cont => exact False.elim hq'
theorem pe_make (M : Mk X.K C f) (F : FnOk X.prog X.w X.K X.mg X.base CX k f fd ps sp) (hr : Room (k + 1) X.A) (hg : Gl X x) (hm : X.mg x = some (.ref C)) (hb : Binds X.K fd ps ds) (hd : Vals dvs ds) (hx : Passes CX X E)
    (ha : PA X (e :: es) t) (hdb : autoParam ((x == ("__debug__" : Str)) = false) Internal.aut1._auto_1) (he : autoParam (starEach (e :: es) X.env = (false, eval e X.env) :: starEach es X.env) Internal.aut2._auto_1) (hpl : autoParam ((backTo pos (starEach es X.env)).any (·.1) = false) Internal.aut2._auto_1) :
    PE X (.Call (.Name x p) (e :: es) [] pos) (tMake C sp dvs E t) := by
  intro pins s σ H Q I h
  refine wpAny_Call_Name_kw (ld_glob I hg hm ?_ hdb)
  refine PySem.W.callWith_K (h₀ := X.base) I.ok.mod.kin M.kp (thn (ha pos pins s σ H _ I h) fun us s1 ⟨vs, H1, I1, r, q⟩ => ⟨I1.kIn, ?_⟩) he hpl
  exact run_make M F hr hb hd hx I1 r q
end

noncomputable def PK (X : Cx) (kws : List Keyword) (t : TA) : Prop :=
  ∀ (pos : Pos) (pins : List (Addr × Obj)) (s : Shared) (σ : St) (H : Hp) (Q : List V → Hp → Prop), Inv X pins σ H s → t σ H Q → wpAny (model X.prog X.w) X.A (evalAll ((backToKw pos (keywordEach kws X.env)).map (·.2))) (AP X pins σ Q) X.xe s
section
variable {X : Cx} {CX : CXT} {k : Nat} {f C : Addr} {fd : FuncData} {ps ks : List Str} {sp : Sp} {E : XK} {x m : Str} {p pos apos kpos : Pos} {e o : Expr} {es : List Expr} {kws : List Keyword} {te ta : TE} {t tk : TA} {nm : Option Str}
theorem pk_nil : PK X [] tNil := fun _ _ _ _ H Q I h => wpAny_evalAll_nil ⟨[], H, I, .nil, h⟩
theorem pk_cons (ha : PE X e te) (hr : PK X kws t) : PK X (⟨nm, e, kpos⟩ :: kws) (tCons te t) := by
  intro pos pins s σ H Q I h
  show wpAny _ _ (evalAll ((do let v ← eval e X.env; standAt pos; pure v) :: (backToKw pos (keywordEach kws X.env)).map (·.2))) _ _ s
  refine wpAny_evalAll_cons (wpAny_bind (thn (ha pins s σ H _ I h) fun u s1 ⟨x, H1, I1, r1, q1⟩ => wpAny_bind (wpAny_standAt (wpAny_pure ?_))))
  exact thn (hr pos pins s1 σ H1 _ I1 q1) fun us s2 ⟨xs, H2, I2, r2, q2⟩ => ⟨x :: xs, H2, I2, .cons r1 r2, q2⟩

set_option genInjectivity false in
set_option genSizeOf false in
structure KBinds (K : PySem.W.Frag) (fd : FuncData) (ps ks : List Str) (g : List Value → List Value → List Value) (gV : List V → List V → List V) : Prop where
  to : ∀ (s : Shared) (us ws : List Value), K.In s.heap → (g us ws).length = ps.length → BindsTo s fd ⟨us, ks.zip ws⟩ (ps.zip (g us ws))
  rel : ∀ {vs : List V} {us : List Value} {zs : List V} {ws : List Value}, Vals vs us → Vals zs ws → Vals (gV vs zs) (g us ws)
variable {g : List Value → List Value → List Value} {gV : List V → List V → List V}
end

set_option genInjectivity false in
set_option genSizeOf false in
structure FnScope (N P : List Str) (sc : Scope) : Prop where
  kind : sc.kind = .function
  co : sc.isCoroutine = false
  gen : sc.isGenerator = false
  nd : N.Nodup
  pre : N.take P.length = P
  par : ∀ x ∈ P, sc.names.lookup x = some .local ∨ sc.names.lookup x = some .cell
  nofree : ∀ y ∈ sc.names, y.2 ≠ .free

theorem bindL_out {kindOf : Str → Option NameKind} {x : Str} : ∀ {binds : List (Str × Value)} {m : Str → Option Value}, (∀ v, (x, v) ∉ binds) → bindL kindOf binds m x = m x
  | [], _, _ => rfl
  | (n, v) :: r, m, h => by
    unfold bindL
    rw [bindL_out fun w hw => h w (List.mem_cons_of_mem _ hw)]
    split
    · have : x ≠ n := by rintro rfl; exact h v List.mem_cons_self
      simp [this]
    · rfl
theorem bindC_out {kindOf : Str → Option NameKind} {x : Str} : ∀ {binds : List (Str × Value)} {m : Str → Option Value}, (∀ v, (x, v) ∉ binds) → bindC kindOf binds m x = m x
  | [], _, _ => rfl
  | (n, v) :: r, m, h => by
    unfold bindC
    rw [bindC_out fun w hw => h w (List.mem_cons_of_mem _ hw)]
    split
    · rfl
    · have : x ≠ n := by rintro rfl; exact h v List.mem_cons_self
      simp [this]
theorem bindL_get {kindOf : Str → Option NameKind} {x : Str} {v : Value} : ∀ {P : List Str} {vs : List Value} {i : Nat} {m : Str → Option Value}, P.Nodup → P[i]? = some x → vs[i]? = some v → kindOf x = some .local →
    bindL kindOf (P.zip vs) m x = some v
  | [], _, _, _, _, h, _, _ => by simp at h
  | _ :: _, [], _, _, _, _, h, _ => by simp at h
  | p :: P, w :: vs, 0, m, nd, h1, h2, hk => by
    simp at h1 h2; subst h1; subst h2
    show bindL kindOf ((p, w) :: P.zip vs) m p = _
    unfold bindL
    rw [bindL_out fun v hv => (List.nodup_cons.mp nd).1 (List.of_mem_zip hv).1, if_pos hk]
    simp
  | p :: P, w :: vs, i + 1, m, nd, h1, h2, hk => by
    show bindL kindOf ((p, w) :: P.zip vs) m x = _
    unfold bindL
    exact bindL_get (i := i) (List.nodup_cons.mp nd).2 (by simpa using h1) (by simpa using h2) hk
theorem bindC_get {kindOf : Str → Option NameKind} {x : Str} {v : Value} : ∀ {P : List Str} {vs : List Value} {i : Nat} {m : Str → Option Value}, P.Nodup → P[i]? = some x → vs[i]? = some v → kindOf x ≠ some .local →
    bindC kindOf (P.zip vs) m x = some v
  | [], _, _, _, _, h, _, _ => by simp at h
  | _ :: _, [], _, _, _, _, h, _ => by simp at h
  | p :: P, w :: vs, 0, m, nd, h1, h2, hk => by
    simp at h1 h2; subst h1; subst h2
    show bindC kindOf ((p, w) :: P.zip vs) m p = _
    unfold bindC
    rw [bindC_out fun v hv => (List.nodup_cons.mp nd).1 (List.of_mem_zip hv).1, if_neg hk]
    simp
  | p :: P, w :: vs, i + 1, m, nd, h1, h2, hk => by
    show bindC kindOf ((p, w) :: P.zip vs) m x = _
    unfold bindC
    exact bindC_get (i := i) (List.nodup_cons.mp nd).2 (by simpa using h1) (by simpa using h2) hk

noncomputable def start (N : List Str) (vs : List V) : St := vs.map some ++ List.replicate (N.length - vs.length) none

noncomputable def cxOf (CX : CXT) (P : Program) (w : World) (K : PySem.W.Frag) (mg : Str → Option Value) (base : Heap) (N : List Str) (qual : Str) (scope : Scope) (f : Addr) (cd : Value) (A : Around) (outer : List Env) (s : Shared) (H : Hp) (E : XK) : Cx where
  prog := P
  w := w
  K := K
  mg := mg
  base := base
  A := A.deeper (envOfC qual scope s.heap.objs.size f cd)
  N := N
  s₀ := s
  H₀ := H
  env := envOfC qual scope s.heap.objs.size f cd
  outer := outer
  stack := envOfC qual scope s.heap.objs.size f cd :: outer
  ex := []
  calm := true
  fn := fun _ => true
  pn := []
  xe := fun e s' => wpAny (model P w) (A.deeper (envOfC qual scope s.heap.objs.size f cd)) (leaving (envOfC qual scope s.heap.objs.size f cd) e) (fun _ s'' => CX outer H s E e s'') (fun e' s'' => CX outer H s E e' s'') s'

theorem cell_has {sc : Scope} {n : Nat} {x : Str} (h : sc.names.lookup x = some .cell) : ∃ c, (cellsFrom n sc.names []).lookup x = some c := by
  have q := PySem.W.cellsFrom_some sc.names n [] (.inl h)
  exact Option.isSome_iff_exists.mp q

theorem inv_start {CX : CXT} {P : Program} {w : World} {K : PySem.W.Frag} {mg : Str → Option Value} {base : Heap} {N ps : List Str} {qual : Str} {scope : Scope} {f : Addr} {cd : Value} {A : Around} {outer : List Env} {s s1 : Shared} {H : Hp} {E : XK} {us : List Value} {vs : List V}
    (S : FnScope N ps scope) (hd : A.handled = none) (e0 : Env0 P w K mg base A outer s H) (hl : vs.length = ps.length) (r : Vals vs us)
    (x : InCallC s s.heap.objs.size (bindL (envOfC qual scope s.heap.objs.size f cd).kindOf (ps.zip us) fun _ => none) (cellsFrom (s.heap.objs.size + 1) scope.names []) (bindC (envOfC qual scope s.heap.objs.size f cd).kindOf (ps.zip us) fun _ => none) s1) :
    Inv (cxOf CX P w K mg base N qual scope f cd A outer s H E) [] (start N vs) H s1 := by
  have hpl : ps.length ≤ N.length := by have := congrArg List.length S.pre; rw [List.length_take] at this; omega
  obtain ⟨h1, tk, rfl, hk⟩ := x.done
  have noA : ∀ b : Addr, b ∉ (cxOf CX P w K mg base N qual scope f cd A outer s H E).ex := fun b z => absurd (show b ∈ ([] : List Addr) from z) (by simp)
  refine ⟨⟨e0.mod, S.kind, rfl, rfl, Nat.le_refl _, fun y z c h1 h2 => ?_, fun y hy => ?_, fun y c _ h => ?_, fun _ => hd, Around.frames_deeper e0.frames, .inr ⟨rfl, rfl⟩, fun b z => absurd z (noA b), e0.bs, e0.bsz, fun b _ _ => noA b, fun b z => absurd z (noA b), e0.funs, e0.frf⟩,
    rfl, e0.bare, Un.kept hk, ⟨_, x.toInCall.ns, fun i y v h1 h2 h3 => ?_⟩, fun y c h => ⟨_, x.cell y c h⟩, e0.hok.fresh (Nat.le_refl _), fun y c h => ?_, fun p hp => absurd (show p ∈ ([] : List (Addr × Obj)) from hp) (by simp), e0.hok.kept hk, ?_⟩
  · exact name_of_addr x.apart (PySem.mem_of_lookup h1) (PySem.mem_of_lookup h2)
  · have hy : scope.names.lookup y = some .cell ∨ scope.names.lookup y = some .free := hy
    rcases hy with hy | hy
    · exact cell_has hy
    · exact absurd rfl (S.nofree _ (PySem.mem_of_lookup hy))
  · exact Nat.le_of_lt (x.above y c (PySem.mem_of_lookup h))
  · have hi : i < vs.length := by
      unfold start at h2
      by_cases hi : i < vs.length
      · exact hi
      · rw [List.getElem?_append_right (by simpa using hi)] at h2
        rw [List.getElem?_replicate] at h2
        split at h2 <;> cases h2
    have ha : vs[i]? = some v := by
      unfold start at h2
      rw [List.getElem?_append_left (by simpa using hi), List.getElem?_map] at h2
      cases e : vs[i]? with
      | none => rw [e] at h2; cases h2
      | some a => rw [e] at h2; cases h2; rfl
    obtain ⟨u, hu, rv⟩ := r.get ha
    have hp : ps[i]? = some y := by
      rw [← S.pre, List.getElem?_take_of_lt (by omega)]; exact h1
    have ndP : ps.Nodup := by rw [← S.pre]; exact S.nd.sublist (List.take_sublist _ _)
    refine ⟨u, rv, ?_⟩
    rcases S.par y (List.mem_of_getElem? hp) with k | k
    · exact .inl ⟨k, bindL_get ndP hp hu k⟩
    · obtain ⟨c, e⟩ := cell_has (n := s.heap.objs.size + 1) k
      refine .inr ⟨.inl k, c, e, ?_⟩
      have q := x.cell y c e
      rw [bindC_get ndP hp hu (by show scope.names.lookup y ≠ _; rw [k]; decide)] at q
      exact q
  · exact e0.hok.fresh (Nat.le_of_lt (x.above y c (PySem.mem_of_lookup h)))
  · unfold start
    show _ = N.length
    rw [List.length_append, List.length_map, List.length_replicate]
    omega

theorem fn_of {CX : CXT} {P : Program} {w : World} {K : PySem.W.Frag} {mg : Str → Option Value} {base : Heap} {k : Nat} {f : Addr} {name qual : Str} {params : Arguments} {body : List Stmt} {scope : Scope} {dV kV doc pm cdv ct oc : Value} {an od : Option Addr}
    {osl : Array (Option Value)} {N ps : List Str} {sp : Sp} (lk : K.lookup f = some ⟨oc, od, .func (PySem.W.fnOf name qual params body scope dV kV doc pm an cdv ct), osl⟩) (hcd : PySem.W.codeIn K cdv qual = true) (S : FnScope N ps scope)
    (len : ∀ vs H Q E, sp vs H Q E → vs.length = ps.length)
    (hbody : ∀ (A : Around) (outer : List Env) (s : Shared) (H : Hp) (vs : List V) (Q : VK) (E : XK), Room k (A.deeper (envOfC qual scope s.heap.objs.size f cdv)) → sp vs H Q E →
      ∃ t, PSs (cxOf CX P w K mg base N qual scope f cdv A outer s H E) body t ∧ t { nx := fun _ H' => Q .non H', rt := Q } (start N vs) H) :
    FnOk P w K mg base CX (k + 1) f (PySem.W.fnOf name qual params body scope dV kV doc pm an cdv ct) ps sp := by
  refine ⟨len, fun A outer s H args us vs Q E hr e0 hb r hsp => ?_⟩
  have hl := len _ _ _ _ hsp
  have KX : K.In s.heap := e0.mod.kin.keeps fun b o e => (e0.bs b o e).1
  have lim : s.heap.NoLimit := e0.mod.nolimit.keeps fun b o e => (e0.bs b o e).1
  have hkind : ∀ y ∈ ps.zip us, scope.names.lookup y.1 = some .local ∨ (scope.names.lookup y.1 = some .cell ∧ ((cellsFrom (s.heap.objs.size + 1) scope.names []).lookup y.1).isSome = true) := fun ⟨n, v⟩ hy => by
    rcases S.par n (List.of_mem_zip hy).1 with q | q
    · exact .inl q
    · exact .inr ⟨q, PySem.W.cellsFrom_some _ _ _ (.inl q)⟩
  refine codeAny_call_function hr.depth (KX _ _ lk) rfl S.co S.gen rfl (PySem.W.codeRec_of KX hcd) (hb _ _ _ _ ?_)
  refine wpAny_newFunctionEnv_cells S.kind hkind fun env he s1 x => ?_
  subst he
  refine ⟨lim.keeps x.toInCall.keep, codeAny_func ?_⟩
  obtain ⟨t, ht, hq⟩ := hbody A outer s H vs Q E (hr.deeper _) hsp
  have I : Inv (cxOf CX P w K mg base N qual scope f cdv A outer s H E) [] (start N vs) H s1 := inv_start S hr.hd e0 hl r x
  refine wpAny_mono (ht [] s1 (start N vs) H _ I hq) (fun fl s' hs => ?_) fun e s' hs => hs
  have fin : ∀ {σ' : St} {H' : Hp} {v : V} {u : Value}, Inv (cxOf CX P w K mg base N qual scope f cdv A outer s H E) [] σ' H' s' → RelV v u → Q v H' → CE outer P w H s Q u s' :=
    fun {σ' H' v u} J rv q => ⟨v, H', J.os, J.bare, J.base, J.hok, rv, q⟩
  cases fl with
  | ret u =>
    obtain ⟨v, σ', H', J, rv, q⟩ := hs
    exact fin J rv q
  | next =>
    obtain ⟨σ', H', J, q⟩ := hs
    exact fin (v := V.non) (u := Value.none) J rfl q
  | brk =>
    obtain ⟨_, _, _, q⟩ := hs
    exact False.elim q
  | cont =>
    obtain ⟨_, _, _, q⟩ := hs
    exact False.elim q
end Internal

namespace Internal
open PySem PySem.Spec PyProof.Rows
section
variable {X : Cx} {x : Str} {p pos : Pos} {e : Expr} {es : List Expr} {t : TA} {id T : String} {r : List V → Hp → VK → Prop}

noncomputable abbrev tCB (r : List V → Hp → VK → Prop) (t : TA) : TE := fun σ H Q => t σ H fun vs H1 => r vs H1 Q
theorem pe_callB (hc : CallR X (.builtin id) r) (hg : Gl X x) (hm : X.mg x = none) (hv : bootBuiltins x = some (.builtin id)) (ha : PA X (e :: es) t) (hn : autoParam (x ≠ "__name__") Internal.aut1._auto_1) (hdb : autoParam ((x == ("__debug__" : Str)) = false) Internal.aut1._auto_1)
    (he : autoParam (starEach (e :: es) X.env = (false, eval e X.env) :: starEach es X.env) Internal.aut2._auto_1) (hpl : autoParam ((backTo pos (starEach es X.env)).any (·.1) = false) Internal.aut2._auto_1) : PE X (.Call (.Name x p) (e :: es) [] pos) (tCB r t) := by
  intro pins s σ H Q I h
  refine wpAny_Call_Name_kw (ld_blt I hg hm hv ?_ hn hdb)
  exact PyProof.Rows.callWith_builtin1 (thn (ha pos pins s σ H _ I h) fun us s1 ⟨vs, H1, I1, r1, q1⟩ => hc pins s1 σ H1 vs us Q I1 r1 q1) he hpl
theorem pe_callTy (hc : CallR X (.type T) r) (hg : Gl X x) (hm : X.mg x = none) (hv : bootBuiltins x = some (.type T)) (ha : PA X (e :: es) t) (hn : autoParam (x ≠ "__name__") Internal.aut1._auto_1) (hdb : autoParam ((x == ("__debug__" : Str)) = false) Internal.aut1._auto_1)
    (he : autoParam (starEach (e :: es) X.env = (false, eval e X.env) :: starEach es X.env) Internal.aut2._auto_1) (hpl : autoParam ((backTo pos (starEach es X.env)).any (·.1) = false) Internal.aut2._auto_1) : PE X (.Call (.Name x p) (e :: es) [] pos) (tCB r t) := by
  intro pins s σ H Q I h
  refine wpAny_Call_Name_kw (ld_blt I hg hm hv ?_ hn hdb)
  exact PyProof.Rows.callWith_type1 (thn (ha pos pins s σ H _ I h) fun us s1 ⟨vs, H1, I1, r1, q1⟩ => hc pins s1 σ H1 vs us Q I1 r1 q1) he hpl
end
end Internal

namespace HT
open PySem PyProof.Rows

section
open PySem.SeqAt
open PySem.AutoSeq1 (wpAny_loadPart')
open PySem.MeetsSeq PySem.MeetsSeq2 PySem.MeetsSeq3

end

section
variable {prog : Program} {w : World} {A : Around} {E : Value → Shared → Prop} {s : Shared}

theorem cat_tup {t b : Addr} {vs ws : List Value} {Q : Value → Shared → Prop} (ht : IsTup s.heap t vs.toArray) (hb : IsTup s.heap b ws.toArray) (hv : vs ≠ [])
    (h1 : ws = [] → Q (.ref t) s) (h2 : ws ≠ [] → Q (.ref s.heap.objs.size) { s with heap := s.heap.push { cls := .type "tuple", data := .seq (vs ++ ws).toArray } })
    (hsz : vs.length + ws.length ≤ sizeLine) : wpAny (model prog w) A (binaryOp .Add (.ref t) (.ref b)) Q E s := by
  obtain ⟨⟨cls, dd, data, sl⟩, ho, hc, n, hd⟩ := id ht
  obtain ⟨⟨cls2, dd2, data2, sl2⟩, ho2, hc2, n2, hd2⟩ := id hb
  simp only at hc hd hc2 hd2
  subst hc hd hc2 hd2
  have e : vs.toArray ++ ws.toArray = (vs ++ ws).toArray := by simp
  by_cases hw : ws = []
  · exact concat_meets ⟨_, ho, rfl⟩ ⟨_, ho2, rfl⟩ noFill_tuple_add seq_tuple_add PySem.F.slot_tuple_add PySem.F.entry_tuple_add (PySem.F.args_tuple_add_2 _ _)
      (tuple_addW1 t b vs.toArray ws.toArray n n2 dd dd2 sl sl2 (by simpa using hv) (by simp [hw])) ⟨ho, ho2, h1 hw⟩
  · refine concat_meets ⟨_, ho, rfl⟩ ⟨_, ho2, rfl⟩ noFill_tuple_add seq_tuple_add PySem.F.slot_tuple_add PySem.F.entry_tuple_add (PySem.F.args_tuple_add_2 _ _)
      (tuple_addW2 t b vs.toArray ws.toArray n n2 dd dd2 sl sl2 (by simpa using hv) (by simpa using hw) (by rw [List.size_toArray, List.size_toArray]; exact hsz)) ⟨ho, ho2, ?_⟩
    rw [e]
    exact h2 hw

noncomputable def sIx (n d : Nat) : Option Int → Nat
  | none => d
  | some v => if v < 0 then (v + (n : Int)).toNat else min v.toNat n
theorem sIx_none (n d : Nat) : sIx n d none = d := rfl
theorem sIx_nat (n d k : Nat) : sIx n d (some (k : Int)) = min k n := by
  show (if (k : Int) < 0 then ((k : Int) + (n : Int)).toNat else min (k : Int).toNat n) = min k n
  rw [if_neg (by omega), Int.toNat_natCast]
end
end HT

namespace Internal
open PySem PySem.Spec PyProof.Rows

noncomputable abbrev TO := St → Hp → (Option Int → Hp → Prop) → Prop
noncomputable def PO (X : Cx) (e : Option Expr) (t : TO) : Prop :=
  ∀ (pins : List (Addr × Obj)) (s : Shared) (σ : St) (H : Hp) (Q : Option Int → Hp → Prop), Inv X pins σ H s → t σ H Q →
    wpAny (model X.prog X.w) X.A (evalPart e X.env) (fun u s' => ∃ o H', Inv X pins σ H' s' ∧ IsPart u o ∧ Q o H') X.xe s
noncomputable abbrev tNoPart : TO := fun _ H Q => Q none H
noncomputable def tPart (t : TE) : TO := fun σ H Q => t σ H fun x H1 => ∃ i, x = .int i ∧ Q (some i) H1

section
variable {X : Cx} {e : Expr} {te : TE} {lo hi : Option Expr} {tl th : TO} {pos p2 : Pos}

theorem po_none : PO X none tNoPart := by
  intro pins s σ H Q I h
  rw [evalPart_none]
  exact wpAny_pure ⟨none, H, I, .none, h⟩
theorem po_some (h : PE X e te) : PO X (some e) (tPart te) := by
  intro pins s σ H Q I hw
  rw [evalPart_some]
  refine thn (h pins s σ H _ I hw) fun u s1 zz => ?_
  obtain ⟨x, H1, I1, r1, q1⟩ := zz
  obtain ⟨i, rfl, q⟩ := q1
  obtain ⟨t, rfl⟩ := r1
  exact ⟨some i, H1, I1, .int i t, q⟩

noncomputable def SlR (X : Cx) (r : V → Option Int → Option Int → Hp → VK → Prop) : Prop :=
  ∀ (pins : List (Addr × Obj)) (s : Shared) (σ : St) (H : Hp) (x : V) (v vl vu : Value) (lo hi : Option Int) (sl : Addr) (Q : VK), Inv X pins σ H s → RelV x v → s.heap.IsSliceOf sl vl vu .none → IsPart vl lo → IsPart vu hi → r x lo hi H Q →
    ∃ T id, typeLookup (.type T) "__getitem__" = pure (some (.builtin id)) ∧ s.TypeIs v T ∧ wpAny (model X.prog X.w) X.A (getItem v (.ref sl)) (EP X pins σ Q) X.xe s
noncomputable abbrev tSl (r : V → Option Int → Option Int → Hp → VK → Prop) (te : TE) (tl th : TO) : TE := fun σ H Q => te σ H fun x H1 => tl σ H1 fun l H2 => th σ H2 fun u H3 => r x l u H3 Q
theorem pe_slice {r : V → Option Int → Option Int → Hp → VK → Prop} (hr : SlR X r) (he : PE X e te) (hl : PO X lo tl) (hu : PO X hi th) : PE X (.Subscript e (.Slice lo hi none p2) pos) (tSl r te tl th) := by
  intro pins s σ H Q I h
  refine Subscript_ (thn (he pins s σ H _ I h) fun v s1 zz => ?_)
  obtain ⟨x, H1, I1, r1, q1⟩ := zz
  refine wpAny_Slice (thn (hl pins s1 σ H1 _ I1 q1) fun vl s2 ⟨l, H2, I2, pl, q2⟩ => thn (hu pins s2 σ H2 _ I2 q2) fun vu s3 zz => ?_)
  obtain ⟨u, H3, I3, pu, q3⟩ := zz
  rw [evalPart_none]
  refine wpAny_pure ?_
  have I4 : Inv X pins σ H3 { s3 with heap := s3.heap.push { cls := .type "slice", data := .fields #[vl, vu, .none] } } := I3.kept (t' := s3.toks) fun b ob q => Heap.get?_push_of_some _ q
  obtain ⟨T, id, hT, ht, hg⟩ := hr pins { s3 with heap := s3.heap.push { cls := .type "slice", data := .fields #[vl, vu, .none] } } σ H3 x v vl vu l u s3.heap.objs.size Q I4 r1 (Heap.IsSliceOf.new ..) pl pu q3
  show wpAny (model X.prog X.w) X.A (subscriptTail e (.Slice lo hi none p2) v (.ref s3.heap.objs.size)) (EP X pins σ Q) X.xe { s3 with heap := s3.heap.push { cls := .type "slice", data := .fields #[vl, vu, .none] } }
  exact tail_any (ops := [.ref s3.heap.objs.size, v]) ht hT hg (by with_unfolding_all rfl)

noncomputable def cutV (xs : List V) (lo hi : Option Int) : List V := (xs.drop (HT.sIx xs.length 0 lo)).take (HT.sIx xs.length xs.length hi - HT.sIx xs.length 0 lo)
theorem cutV_length (xs : List V) (lo hi : Option Int) : (cutV xs lo hi).length ≤ xs.length := by
  unfold cutV
  rw [List.length_take, List.length_drop]
  omega
noncomputable def rCatT (K : PySem.W.Frag) : R2 := fun x y H Q => ∃ a b xs ys, x = .ref a ∧ y = .ref b ∧ SqT K H a xs ∧ SqT K H b ys ∧ xs ≠ [] ∧ xs.length + ys.length ≤ sizeLine ∧
  (ys = [] → Q (.ref a) H) ∧ (ys ≠ [] → ∀ p, H p = none → Q (.ref p) (upd H p (.tup (xs ++ ys))))
theorem Vals.nil_iff {xs : List V} {us : List Value} (r : Vals xs us) : us = [] ↔ xs = [] := by
  cases r with
  | nil => simp
  | cons _ _ => simp
theorem op_catT : OpR X (binaryOp .Add) (rCatT X.K) := by
  intro pins s σ H x y v u Q I rx ry h
  obtain ⟨a, b, xs, ys, rfl, rfl, ha, hb, hx, hz, q1, q2⟩ := h
  cases rx
  cases ry
  obtain ⟨its, r1, p1, _⟩ := I.tuple ha
  obtain ⟨its2, r2, p2, _⟩ := I.tuple hb
  refine HT.cat_tup p1 p2 (fun z => hx (r1.nil_iff.mp z)) (fun z => ⟨.ref a, H, I, rfl, q1 (r2.nil_iff.mp z)⟩) (fun z => ?_) (by rw [← r1.length, ← r2.length]; exact hz)
  refine ⟨.ref s.heap.objs.size, _, I.laid (t' := s.toks) (o := .tup (xs ++ ys)) (fun b ob q => Heap.get?_push_of_some _ q) (Nat.le_refl _) ?_, rfl, q2 (fun w => z (r2.nil_iff.mpr w)) _ (I.hok.fresh (Nat.le_refl _))⟩
  exact ⟨by rw [List.length_append]; exact hz, _, r1.append r2, IsTup.new _ _⟩
end
end Internal

namespace Internal
open PySem PySem.Spec PyProof.Rows

noncomputable def ixN (n : Nat) (i : Int) : Option Nat := if 0 ≤ i then (if i < n then some i.toNat else none) else if -(n : Int) ≤ i then some (i + n).toNat else none
noncomputable def atI {α : Type} (xs : List α) (i : Int) : Option α := (ixN xs.length i).bind fun j => xs[j]?
theorem ixN_seq {n : Nat} {i : Int} {j : Nat} (h : ixN n i = some j) : seqIndex? i n = some j ∧ j < n ∧ -(n : Int) ≤ i ∧ i < n := by
  unfold ixN at h
  by_cases h0 : 0 ≤ i
  · rw [if_pos h0] at h
    by_cases h1 : i < n
    · rw [if_pos h1] at h
      have e : i.toNat = j := Option.some.inj h
      exact ⟨by rw [seqIndex_of h0 h1, e], by omega, by omega, h1⟩
    · rw [if_neg h1] at h; cases h
  · rw [if_neg h0] at h
    by_cases h1 : -(n : Int) ≤ i
    · rw [if_pos h1] at h
      have e : (i + n).toNat = j := Option.some.inj h
      exact ⟨by rw [seqIndex_neg (by omega) h1, e], by omega, h1, by omega⟩
    · rw [if_neg h1] at h; cases h
theorem atI_get {α : Type} {xs : List α} {i : Int} {v : α} (h : atI xs i = some v) : ∃ j, seqIndex? i xs.length = some j ∧ xs[j]? = some v ∧ j < xs.length ∧ -(xs.length : Int) ≤ i ∧ i < xs.length := by
  unfold atI at h
  cases e : ixN xs.length i with
  | none => rw [e] at h; cases h
  | some j =>
    rw [e] at h
    obtain ⟨h1, h2, h3, h4⟩ := ixN_seq e
    exact ⟨j, h1, h, h2, h3, h4⟩
theorem atI_nat {α : Type} {xs : List α} {j : Nat} {v : α} (h : xs[j]? = some v) : atI xs (j : Int) = some v := by
  have hj : j < xs.length := (List.getElem?_eq_some_iff.mp h).1
  have e : ixN xs.length (j : Int) = some j := by
    unfold ixN
    rw [if_pos (by omega), if_pos (by omega)]; simp
  unfold atI; rw [e]; exact h
theorem atI_last {α : Type} (xs : List α) (v : α) : atI (xs ++ [v]) (-1) = some v := by
  have hl : (xs ++ [v]).length = xs.length + 1 := by simp
  have e : ixN (xs ++ [v]).length (-1) = some xs.length := by
    unfold ixN
    rw [hl, if_neg (by decide), if_pos (by omega)]
    congr 1
    omega
  unfold atI
  rw [e]
  show (xs ++ [v])[xs.length]? = some v
  simp

noncomputable def PlainIx (b : Expr) : Prop := ∀ o i, subscripted b false o i = operate [o, i] (getItem o i)
noncomputable def IxR (X : Cx) (r : R2) : Prop :=
  ∀ (value slice : Expr) (pins : List (Addr × Obj)) (s : Shared) (σ : St) (H : Hp) (x y : V) (v u : Value) (Q : VK), Inv X pins σ H s → RelV x v → RelV y u → r x y H Q →
    subscripted slice false v u = operate [v, u] (getItem v u) → wpAny (model X.prog X.w) X.A (subscriptTail value slice v u) (EP X pins σ Q) X.xe s
noncomputable def MtR (X : Cx) (id : String) (r : V → List V → Hp → VK → Prop) : Prop :=
  ∀ (pins : List (Addr × Obj)) (s : Shared) (σ : St) (H : Hp) (x : V) (xs : List V) (v : Value) (us : List Value) (Q : VK), Inv X pins σ H s → RelV x v → Vals xs us → r x xs H Q →
    wpAny (model X.prog X.w) X.A (call (.builtin id) (v :: us)) (EP X pins σ Q) X.xe s
section
variable {X : Cx} {a b : Expr} {ta tb : TE} {pos : Pos}
theorem IxR.or {r r' : R2} (h : IxR X r) (h' : IxR X r') : IxR X (fun x y H Q => r x y H Q ∨ r' x y H Q) := by
  intro value slice pins s σ H x y v u Q I rx ry q hs
  rcases q with q | q
  · exact h value slice pins s σ H x y v u Q I rx ry q hs
  · exact h' value slice pins s σ H x y v u Q I rx ry q hs
theorem pe_ix {r : R2} (hr : IxR X r) (ha : PE X a ta) (hb : PE X b tb) (hs : PlainIx b) : PE X (.Subscript a b pos) (tOp r ta tb) := by
  intro pins s σ H Q I h
  exact Subscript_ (binT ha hb I h fun v u s2 x y H2 I2 rx ry q => hr a b pins s2 σ H2 x y v u Q I2 rx ry q (hs _ _))

noncomputable def rIxL (K : PySem.W.Frag) : R2 := fun x y H Q => ∃ p xs i v, x = .ref p ∧ y = .int i ∧ SqL K H p xs ∧ atI xs i = some v ∧ Q v H
noncomputable def rIxT (K : PySem.W.Frag) : R2 := fun x y H Q => ∃ p xs i v, x = .ref p ∧ y = .int i ∧ SqT K H p xs ∧ atI xs i = some v ∧ Q v H
noncomputable def rIxS : R2 := fun x y H Q => ∃ z i c, x = .str z ∧ y = .int i ∧ z.length ≤ sizeLine ∧ atI z.cps.toList i = some c ∧ Q (.str ⟨#[c]⟩) H
theorem ix_list : IxR X (rIxL X.K) := by
  intro value slice pins s σ H x y v u Q I rx ry h hs
  obtain ⟨p, xs, i, z, rfl, rfl, hq, he, q⟩ := h
  cases rx
  obtain ⟨t, rfl⟩ := ry
  obtain ⟨its, r, pl, hz⟩ := I.list hq
  obtain ⟨j, h1, h2, h3, h4, h5⟩ := atI_get he
  obtain ⟨w, ew, rw'⟩ := r.get h2
  have hl := r.length
  have hn := line63
  have fin : EP X pins σ Q w s := ⟨z, H, I, rw', q⟩
  by_cases h0 : 0 ≤ i
  · have hj : i.toNat = j := by
      rw [seqIndex_of h0 h5] at h1
      exact Option.some.inj h1
    exact item_listR pl.isList h0 (by omega) (by rw [hj]; simpa using ew) fin hs
  · have hj : (i + (its.toArray.size : Int)).toNat = j := by
      rw [seqIndex_neg (by omega) h4] at h1
      rw [List.size_toArray, ← hl]
      exact Option.some.inj h1
    exact subscriptTail_builtinR (x := w) pl.isList.typeIs slot_list_getitem.lookup
      (wpAny_getItem_list_neg (Q := fun r s' => r = w ∧ EP X pins σ Q r s') pl.isList (by omega) (by rw [List.size_toArray] <;> omega) (by omega) (by rw [hj]; simpa using ew) ⟨rfl, fin⟩) hs
theorem ix_tup : IxR X (rIxT X.K) := by
  intro value slice pins s σ H x y v u Q I rx ry h hs
  obtain ⟨p, xs, i, z, rfl, rfl, hq, he, q⟩ := h
  cases rx
  obtain ⟨t, rfl⟩ := ry
  obtain ⟨its, r, pl, hz⟩ := I.tuple hq
  obtain ⟨j, h1, h2, h3, h4, h5⟩ := atI_get he
  obtain ⟨w, ew, rw'⟩ := r.get h2
  have hl := r.length
  have hn := line63
  have fin : EP X pins σ Q w s := ⟨z, H, I, rw', q⟩
  exact subscriptTail_builtinR (x := w) pl.typeIs slot_tuple_getitem.lookup
    (getItem_tuple (j := j) (Q := fun r s' => r = w ∧ EP X pins σ Q r s') pl (by omega) (by omega) (by rw [List.size_toArray, ← hl]; exact h1) (by simpa using ew) ⟨rfl, fin⟩) hs
theorem ix_str : IxR X rIxS := by
  intro value slice pins s σ H x y v u Q I rx ry h hs
  obtain ⟨z, i, c, rfl, rfl, hz, he, q⟩ := h
  obtain ⟨t, rfl⟩ := rx
  obtain ⟨t', rfl⟩ := ry
  obtain ⟨j, h1, h2, h3, h4, h5⟩ := atI_get he
  have hl : z.cps.toList.length = z.length := by simp [Str.length]
  rw [hl] at h1 h4 h5
  have hn := line63
  exact tail_any (typeIs_str s z t) slot_str_getitem.lookup (getItem_str (c := c) (by
    have e1 : decide (i < -(2 ^ 63 : Int)) = false := decide_eq_false (by omega)
    have e2 : decide (i ≥ 2 ^ 63) = false := decide_eq_false (by omega)
    rw [e1, e2, Bool.or_false]) (by rw [h1]; simpa using h2) ⟨.str ⟨#[c]⟩, H, I.tok _, ⟨_, rfl⟩, q⟩) hs
noncomputable def rIx (K : PySem.W.Frag) : R2 := fun x y H Q => rIxL K x y H Q ∨ rIxT K x y H Q ∨ rIxS x y H Q
theorem ix_seq : IxR X (rIx X.K) := ix_list.or (ix_tup.or ix_str)

theorem mapSeq_set (its : List Value) (n j : Nat) (u : Value) : Obj.mapSeq (·.setIfInBounds j u) { cls := .type "list", data := .seq its.toArray n } = { cls := .type "list", data := .seq (its.set j u).toArray n } := by
  simp [Obj.mapSeq]
theorem Inv.lst {pins : List (Addr × Obj)} {σ : St} {H : Hp} {s : Shared} {p : Addr} {xs : List V} (I : Inv X pins σ H s) (h : H p = some (.lst xs)) :
    ∃ (its : List Value) (n : Nat), Vals xs its ∧ s.heap.get? p = some { cls := .type "list", data := .seq its.toArray n } ∧ xs.length ≤ sizeLine := by
  obtain ⟨z, its, n, r, e⟩ := I.hok p _ h
  exact ⟨its, n, r, e, z⟩
theorem Inv.lstUpd {pins : List (Addr × Obj)} {σ : St} {H : Hp} {s : Shared} {p : Addr} {xs ys : List V} {its its' : List Value} {n n' : Nat} {f : Obj → Obj} (I : Inv X pins σ H s) (h : H p = some (.lst xs))
    (ho : s.heap.get? p = some { cls := .type "list", data := .seq its.toArray n }) (hf : f { cls := .type "list", data := .seq its.toArray n } = { cls := .type "list", data := .seq its'.toArray n' }) (r : Vals ys its') (hz : ys.length ≤ sizeLine) (t : Nat) :
    Inv X pins σ (upd H p (.lst ys)) { s with heap := s.heap.update p f, toks := t } := by
  have e : (s.heap.update p f).get? p = some { cls := .type "list", data := .seq its'.toArray n' } := by
    rw [Heap.get?_update_self f ho (by rw [hf] <;> rfl), hf]
  refine I.write (x := p) (e := p) (by rw [h]; trivial) (.inl rfl) (fun b u hb q => (Heap.get?_update_other _ _ (Ne.symm hb)).trans q) ⟨_, e⟩ ?_
  exact ⟨hz, its', n', r, e⟩
noncomputable def rSetL : V → V → V → Hp → (Hp → Prop) → Prop := fun o i v H Q => ∃ p xs k j, o = .ref p ∧ i = .int k ∧ H p = some (.lst xs) ∧ ixN xs.length k = some j ∧ Q (upd H p (.lst (xs.set j v)))
theorem set_list : PSet X rSetL := by
  intro pins s σ H o i v ov iv u Q I ro ri rv h
  obtain ⟨p, xs, k, j, rfl, rfl, hp, hj, q⟩ := h
  cases ro
  obtain ⟨t, rfl⟩ := ri
  obtain ⟨its, n, r, ho, hz⟩ := I.lst hp
  obtain ⟨h1, h2, h3, h4⟩ := ixN_seq hj
  have hl := r.length
  have hn := line63
  have I' : Inv X pins σ (upd H p (.lst (xs.set j v))) { s with heap := s.heap.update p (Obj.mapSeq (·.setIfInBounds j u)) } :=
    I.lstUpd hp ho (mapSeq_set its n j u) (r.set rv j) (by rw [List.length_set]; exact hz) s.toks
  by_cases h0 : 0 ≤ k
  · have hk : k.toNat = j := by
      rw [seqIndex_of h0 h4] at h1
      exact Option.some.inj h1
    exact PySem.W.ki_setAt ho h0 (by omega) (by rw [List.size_toArray, ← hl]; exact h4) (by rw [hk]; exact ⟨_, I', q⟩)
  · have hk : (k + (its.toArray.size : Int)).toNat = j := by
      rw [seqIndex_neg (by omega) h3] at h1
      rw [List.size_toArray, ← hl]
      exact Option.some.inj h1
    exact PySem.W.ki_setBack ho (by omega) (by rw [List.size_toArray, ← hl]; exact h3) (by omega) (by rw [hk]; exact ⟨_, I', q⟩)

theorem slice_bounds (lo hi : Option Int) (n : Nat) : (sliceBounds lo hi none n).1 = ((HT.sIx n 0 lo : Nat) : Int) ∧ (sliceBounds lo hi none n).2.1 = ((HT.sIx n n hi : Nat) : Int) ∧ (sliceBounds lo hi none n).2.2 = 1 := by
  refine ⟨?_, ?_, rfl⟩
  · cases lo with
    | none => simp [sliceBounds, HT.sIx]
    | some i =>
      simp only [sliceBounds, HT.sIx, Option.getD_none, show (1 : Int) > 0 by decide, if_true]
      by_cases h : i < 0
      · simp only [h, if_true] <;> omega
      · simp only [h, if_false] <;> omega
  · cases hi with
    | none => simp [sliceBounds, HT.sIx]
    | some i =>
      simp only [sliceBounds, HT.sIx, Option.getD_none, show (1 : Int) > 0 by decide, if_true]
      by_cases h : i < 0
      · simp only [h, if_true] <;> omega
      · simp only [h, if_false] <;> omega
theorem slicePick_cut (its : List Value) (lo hi : Option Int) : slicePick its.toArray lo hi none = ((its.drop (HT.sIx its.length 0 lo)).take (HT.sIx its.length its.length hi - HT.sIx its.length 0 lo)).toArray := by
  obtain ⟨h1, h2, h3⟩ := slice_bounds lo hi its.toArray.size
  unfold slicePick
  rw [h1, h2, h3]
  simp only [sliceRange_one, pick_run, List.size_toArray] <;> rfl
noncomputable def rSlL (K : PySem.W.Frag) : V → Option Int → Option Int → Hp → VK → Prop := fun x lo hi H Q => ∃ a xs, x = .ref a ∧ SqL K H a xs ∧ ∀ p, H p = none → Q (.ref p) (upd H p (.lst (cutV xs lo hi)))
theorem sl_list : SlR X (rSlL X.K) := by
  intro pins s σ H x v vl vu lo hi sl Q I rx hs pl pu h
  obtain ⟨a, xs, rfl, hx, q⟩ := h
  cases rx
  obtain ⟨its, r, ht, hz⟩ := I.list hx
  have hlen := r.length
  refine ⟨"list", _, slot_list_getitem.lookup, ht.isList.typeIs, ?_⟩
  refine wpAny_getItem_list_slice ht.isList hs pl pu .none (by simp) ?_ (by rw [List.size_toArray] <;> omega)
  rw [slicePick_cut, ← hlen]
  refine ⟨.ref s.heap.objs.size, _, I.laid (t' := s.toks) (o := .lst (cutV xs lo hi)) (fun b ob q => Heap.get?_push_of_some _ q) (Nat.le_refl _) ?_, rfl, q _ (I.hok.fresh (Nat.le_refl _))⟩
  exact ⟨Nat.le_trans (cutV_length xs lo hi) hz, _, 0, (r.drop (HT.sIx xs.length 0 lo)).take (HT.sIx xs.length xs.length hi - HT.sIx xs.length 0 lo), Heap.get?_push_size _ rfl⟩

noncomputable def flatV : V → Bool
  | .non => true
  | .bl _ => true
  | .int _ => true
  | .str _ => true
  | _ => false
noncomputable def eqV : V → V → Bool
  | .non, .non => true
  | .bl a, .bl b => a == b
  | .bl a, .int b => (if a then 1 else 0) == b
  | .int a, .bl b => a == (if b then 1 else 0)
  | .int a, .int b => a == b
  | .str a, .str b => a == b
  | _, _ => false
theorem eqAt_V {A : Around} {s : Shared} {y x : V} {u v : Value} (ry : RelV y u) (rx : RelV x v) (fy : flatV y = true) (fx : flatV x = true) : SeqAt.EqAt A s u v (eqV y x) := by
  cases y with
  | non =>
    cases ry
    cases x with
    | non => cases rx; exact SeqAt.EqAt.same _
    | bl b => cases rx; exact SeqAt.EqAt.none_bool b
    | int b => obtain ⟨t, rfl⟩ := rx; exact SeqAt.EqAt.none_int b t
    | str b => obtain ⟨t, rfl⟩ := rx; exact SeqAt.EqAt.none_str b t
    | _ => exact absurd (show false = true from fx) Bool.false_ne_true
  | bl a =>
    cases ry
    cases x with
    | non => cases rx; exact SeqAt.EqAt.bool_none a
    | bl b => cases rx; exact SeqAt.EqAt.bool_bool a b
    | int b => obtain ⟨t, rfl⟩ := rx; exact SeqAt.EqAt.bool_int a b t
    | str b => obtain ⟨t, rfl⟩ := rx; exact SeqAt.EqAt.bool_str a b t
    | _ => exact absurd (show false = true from fx) Bool.false_ne_true
  | int a =>
    obtain ⟨t', rfl⟩ := ry
    cases x with
    | non => cases rx; exact SeqAt.EqAt.int_none a t'
    | bl b => cases rx; exact SeqAt.EqAt.int_bool a t' b
    | int b => obtain ⟨t, rfl⟩ := rx; exact SeqAt.EqAt.int_int a t' b t
    | str b => obtain ⟨t, rfl⟩ := rx; exact SeqAt.EqAt.int_str a t' b t
    | _ => exact absurd (show false = true from fx) Bool.false_ne_true
  | str a =>
    obtain ⟨t', rfl⟩ := ry
    cases x with
    | non => cases rx; exact SeqAt.EqAt.str_none a t'
    | bl b => cases rx; exact SeqAt.EqAt.str_bool a t' b
    | int b => obtain ⟨t, rfl⟩ := rx; exact SeqAt.EqAt.str_int a t' b t
    | str b => obtain ⟨t, rfl⟩ := rx; exact SeqAt.EqAt.str_str a t' b t
    | _ => exact absurd (show false = true from fx) Bool.false_ne_true
  | _ => exact absurd (show false = true from fy) Bool.false_ne_true
noncomputable def eqU (x : V) (u : Value) : Bool := match u with
  | .none => eqV .non x
  | .bool b => eqV (.bl b) x
  | .int i _ => eqV (.int i) x
  | .str z _ => eqV (.str z) x
  | _ => false
theorem eqU_of {x y : V} {u : Value} (r : RelV y u) (f : flatV y = true) : eqU x u = eqV y x := by
  cases y with
  | non => cases r; rfl
  | bl b => cases r; rfl
  | int i => obtain ⟨t, rfl⟩ := r; rfl
  | str z => obtain ⟨t, rfl⟩ := r; rfl
  | _ => exact absurd (show false = true from f) Bool.false_ne_true
theorem any_eqU {x : V} : ∀ {xs : List V} {us : List Value}, Vals xs us → xs.all flatV = true → us.any (eqU x) = xs.any fun y => eqV y x
  | _, _, .nil, _ => rfl
  | y :: xs, u :: us, .cons r t, f => by
    rw [List.all_cons, Bool.and_eq_true] at f
    rw [List.any_cons, List.any_cons, eqU_of r f.1, any_eqU t f.2]
theorem mem_eqAt {A : Around} {s : Shared} {x : V} {v : Value} (rx : RelV x v) (fx : flatV x = true) : ∀ {xs : List V} {us : List Value}, Vals xs us → xs.all flatV = true → ∀ u ∈ us, SeqAt.EqAt A s u v (eqU x u)
  | _, _, .nil, _ => fun u hu => by cases hu
  | y :: xs, u :: us, .cons r t, f => fun u' hu => by
    rw [List.all_cons, Bool.and_eq_true] at f
    rcases List.mem_cons.mp hu with rfl | hu
    · rw [eqU_of r f.1]; exact eqAt_V r rx f.1 fx
    · exact mem_eqAt rx fx t f.2 u' hu
noncomputable def inV (x : V) (xs : List V) : Bool := xs.any fun y => eqV y x
noncomputable def rIn (K : PySem.W.Frag) (neg : Bool) : R2 := fun x y H Q => ∃ p xs, y = .ref p ∧ (SqL K H p xs ∨ SqT K H p xs) ∧ flatV x = true ∧ xs.all flatV = true ∧ Q (.bl (if neg then !inV x xs else inV x xs)) H
theorem op_in_seq : OpR X (compareOp .In) (rIn X.K false) := by
  intro pins s σ H x y v u Q I rx ry h
  obtain ⟨p, xs, rfl, hq, fx, fs, q⟩ := h
  cases ry
  rcases hq with hq | hq
  · obtain ⟨its, r, pl, hz⟩ := I.list hq
    refine SeqAt.in_listAt (eqU x) pl.isList (fun w hw => mem_eqAt rx fx r fs w (by simpa using hw)) ⟨.bl _, H, I, rfl, ?_⟩
    rw [show its.toArray.any (eqU x) = its.any (eqU x) by simp, any_eqU r fs]
    exact q
  · obtain ⟨its, r, pl, hz⟩ := I.tuple hq
    refine SeqAt.in_tupleAt (eqU x) pl (fun w hw => mem_eqAt rx fx r fs w (by simpa using hw)) ⟨.bl _, H, I, rfl, ?_⟩
    rw [show its.toArray.any (eqU x) = its.any (eqU x) by simp, any_eqU r fs]
    exact q
theorem op_notIn_seq : OpR X (compareOp .NotIn) (rIn X.K true) := by
  intro pins s σ H x y v u Q I rx ry h
  obtain ⟨p, xs, rfl, hq, fx, fs, q⟩ := h
  cases ry
  rcases hq with hq | hq
  · obtain ⟨its, r, pl, hz⟩ := I.list hq
    refine SeqAt.notIn_listAt (eqU x) pl.isList (fun w hw => mem_eqAt rx fx r fs w (by simpa using hw)) ⟨.bl _, H, I, rfl, ?_⟩
    rw [show its.toArray.any (eqU x) = its.any (eqU x) by simp, any_eqU r fs]
    exact q
  · obtain ⟨its, r, pl, hz⟩ := I.tuple hq
    refine SeqAt.notIn_tupleAt (eqU x) pl (fun w hw => mem_eqAt rx fx r fs w (by simpa using hw)) ⟨.bl _, H, I, rfl, ?_⟩
    rw [show its.toArray.any (eqU x) = its.any (eqU x) by simp, any_eqU r fs]
    exact q
theorem call_len_seq : CallR X (.builtin "len") (fun xs H Q => ∃ p ys, xs = [.ref p] ∧ (SqL X.K H p ys ∨ SqT X.K H p ys) ∧ Q (.int ys.length) H) := by
  intro pins s σ H xs us Q I r h
  obtain ⟨p, ys, rfl, hq, q⟩ := h
  obtain ⟨u, rfl, rx⟩ := vals1 r
  cases rx
  have hn := line63
  rcases hq with hq | hq
  · obtain ⟨its, r', pl, hz⟩ := I.list hq
    have hlen := r'.length
    exact Calls.call_len_list pl.isList (by simp only [List.size_toArray] <;> omega) ⟨.int ys.length, H, I.tok _, ⟨s.toks + 1, by rw [List.size_toArray, hlen]⟩, q⟩
  · obtain ⟨its, r', pl, hz⟩ := I.tuple hq
    have hlen := r'.length
    exact len_tuple pl (by simp only [List.size_toArray] <;> omega) ⟨.int ys.length, H, I.tok _, ⟨s.toks + 1, by rw [List.size_toArray, hlen]⟩, q⟩
theorem CallR.or {f : Value} {r r' : List V → Hp → VK → Prop} (h : CallR X f r) (h' : CallR X f r') : CallR X f (fun xs H Q => r xs H Q ∨ r' xs H Q) := by
  intro pins s σ H xs us Q I rs q
  rcases q with q | q
  · exact h pins s σ H xs us Q I rs q
  · exact h' pins s σ H xs us Q I rs q
theorem call_list_of : CallR X (.type "list") (fun xs H Q => ∃ p ys, xs = [.ref p] ∧ (SqL X.K H p ys ∨ SqT X.K H p ys) ∧ ∀ l, H l = none → Q (.ref l) (upd H l (.lst ys))) := by
  intro pins s σ H xs us Q I r h
  obtain ⟨p, ys, rfl, hq, q⟩ := h
  obtain ⟨u, rfl, rx⟩ := vals1 r
  cases rx
  have fin : ∀ (its : List Value), Vals ys its → ys.length ≤ sizeLine → ∀ (h' : Heap) (c' : Nat), (∀ b o', s.heap.get? b = some o' → h'.get? b = some o') →
      h'.get? s.heap.objs.size = some { cls := .type "list", dict := none, data := .seq its.toArray c', slots := #[] } → EP X pins σ Q (.ref s.heap.objs.size) { s with heap := h' } := fun its r' hz h' c' kp e =>
    ⟨.ref s.heap.objs.size, _, I.laid (t' := s.toks) kp (Nat.le_refl _) (show ObjOk X.prog X.w _ h' _ (.lst ys) from ⟨hz, its, c', r', e⟩), rfl, q _ (I.hok.fresh (Nat.le_refl _))⟩
  rcases hq with hq | hq
  · obtain ⟨its, r', pl, hz⟩ := I.list hq
    have hlen := r'.length
    obtain ⟨o, ho, hc, n, hd⟩ := pl.isList
    exact call_list_seq p (.inl rfl) ho hc hd (fun h' c' kp e => fin its r' hz h' c' kp e) (by simp only [List.size_toArray] <;> omega)
  · obtain ⟨its, r', pl, hz⟩ := I.tuple hq
    have hlen := r'.length
    obtain ⟨o, ho, hc, n, hd⟩ := pl
    exact call_list_seq p (.inr rfl) ho hc hd (fun h' c' kp e => fin its r' hz h' c' kp e) (by simp only [List.size_toArray] <;> omega)
theorem call_tuple_of : CallR X (.type "tuple") (fun xs H Q => ∃ p ys, xs = [.ref p] ∧ ((SqL X.K H p ys ∧ ∀ l, H l = none → Q (.ref l) (upd H l (.tup ys))) ∨ (SqT X.K H p ys ∧ Q (.ref p) H))) := by
  intro pins s σ H xs us Q I r h
  obtain ⟨p, ys, rfl, h⟩ := h
  obtain ⟨u, rfl, rx⟩ := vals1 r
  cases rx
  rcases h with ⟨hq, q⟩ | ⟨hq, q⟩
  · obtain ⟨its, r', pl, hz⟩ := I.list hq
    have hlen := r'.length
    refine call_tuple_list pl.isList (fun h' kp => ?_) (by simp only [List.size_toArray] <;> omega)
    have I1 : Inv X pins σ H { s with heap := h' } := I.kept (t' := s.toks) kp
    have I2 : Inv X pins σ (upd H h'.objs.size (.tup ys)) { s with heap := h'.push { cls := .type "tuple", data := .seq its.toArray } } :=
      I1.laid (t' := s.toks) (fun b o e => Heap.get?_push_of_some _ e) (Nat.le_refl _) (show ObjOk X.prog X.w _ _ _ (.tup ys) from ⟨hz, its, r', IsTup.new _ _⟩)
    exact ⟨.ref h'.objs.size, _, I2, rfl, q _ (I1.hok.fresh (Nat.le_refl _))⟩
  · obtain ⟨its, r', pl, hz⟩ := I.tuple hq
    exact call_tuple_same pl ⟨.ref p, H, I, rfl, q⟩

noncomputable def tyV (K : PySem.W.Frag) (T : String) (x : V) (H : Hp) : Prop := match x with
  | .str _ => T = "str"
  | .int _ => T = "int"
  | .ref p => (T = "list" ∧ ∃ xs, SqL K H p xs) ∨ (T = "tuple" ∧ ∃ o, K.lookup p = some o ∧ o.cls = .type "tuple" ∧ o.dict = none) ∨
      (T = "dict" ∧ ((∃ kvs, H p = some (.dK kvs)) ∨ ∃ kvs, H p = some (.dT kvs))) ∨ (T = "set" ∧ ∃ S n, H p = some (.set S n))
  | _ => False
theorem tyV_is {pins : List (Addr × Obj)} {σ : St} {H : Hp} {s : Shared} {T : String} {x : V} {v : Value} (I : Inv X pins σ H s) (r : RelV x v) (ty : tyV X.K T x H) :
    s.TypeIs v T ∧ ∀ a, v = .ref a → ∃ ob, s.heap.get? a = some ob ∧ ob.dict = none := by
  cases x with
  | str z =>
    obtain ⟨t, rfl⟩ := r
    cases (show T = "str" from ty)
    exact ⟨typeIs_str s z t, fun _ e => nomatch e⟩
  | int i =>
    obtain ⟨t, rfl⟩ := r
    cases (show T = "int" from ty)
    exact ⟨typeIs_int s i t, fun _ e => nomatch e⟩
  | ref p =>
    cases r
    rcases ty with ⟨rfl, xs, hq⟩ | ⟨rfl, o, hk, hc, hd⟩ | ⟨rfl, hk⟩ | ⟨rfl, S, n, hk⟩
    · obtain ⟨its, _, pl, _⟩ := I.list hq
      refine ⟨pl.isList.typeIs, fun a e => ?_⟩
      cases e
      obtain ⟨o, n, e, c, hd, _⟩ := pl
      exact ⟨o, e, hd⟩
    · refine ⟨⟨o, I.kIn p o hk, hc⟩, fun a e => ?_⟩
      cases e
      exact ⟨o, I.kIn _ o hk, hd⟩
    · have z : ∃ o, s.heap.get? p = some o ∧ o.ExactDict := by
        rcases hk with ⟨kvs, hk⟩ | ⟨kvs, hk⟩
        · obtain ⟨_, _, _, _, o, _, _, e, ex, _⟩ := I.hok p _ hk
          exact ⟨o, e, ex⟩
        · obtain ⟨_, _, _, _, o, _, _, e, ex, _⟩ := I.hok p _ hk
          exact ⟨o, e, ex⟩
      obtain ⟨o, e, ex⟩ := z
      refine ⟨⟨o, e, ex.1⟩, fun a e2 => ?_⟩
      cases e2
      exact ⟨o, e, ex.2.1⟩
    · obtain ⟨o, _, _, _, e, ex, _⟩ := I.hok p _ hk
      refine ⟨⟨o, e, ex.1⟩, fun a e2 => ?_⟩
      cases e2
      exact ⟨o, e, ex.2.1⟩
  | _ => exact False.elim ty
noncomputable def tBM (K : PySem.W.Frag) (T : String) (r : V → List V → Hp → VK → Prop) (to : TE) (t : TA) : TE := fun σ H Q => to σ H fun x H1 => tyV K T x H1 ∧ t σ H1 fun xs H2 => r x xs H2 Q
variable {o e : Expr} {es : List Expr} {to : TE} {t : TA} {name : Str} {apos cpos : Pos} {T id : String} {r : V → List V → Hp → VK → Prop}
theorem pe_bm (pa : PlainAttrs T) (slot : Slot T name id) (hty : typeOf (.builtin id) = pure (.type "method_descriptor")) (hm : MtR X id r) (ho : PE X o to) (ha : PA X (e :: es) t)
    (hbase : autoParam (attributeBase o name X.env (eval o X.env) = eval o X.env) Internal.aut2._auto_1)
    (hfew : autoParam (((backTo cpos (starEach (e :: es) X.env)).all (fun x => !x.1) && (backToKw cpos (keywordEach [] X.env)).all (fun x => x.1.isSome)
      && decide ((e :: es).length + ([] : List Keyword).length + (if ([] : List Keyword).isEmpty then 0 else 1) < 30)) = true) Internal.aut2._auto_1)
    (hline : autoParam ((apos.endLine == cpos.line) = true) Internal.aut2._auto_1) (hs : autoParam (starEach (e :: es) X.env = (false, eval e X.env) :: starEach es X.env) Internal.aut2._auto_1) (hplain : autoParam ((backTo cpos (starEach es X.env)).any (·.1) = false) Internal.aut2._auto_1) :
    PE X (.Call (.Attribute o name apos) (e :: es) [] cpos) (tBM X.K T r to t) := by
  intro pins s σ H Q I h
  refine wpAny_Call_method_late hbase hfew hline rfl (thn (ho pins s σ H _ I h) fun v s1 zz => ?_)
  obtain ⟨x, H1, I1, r1, ty, q1⟩ := zz
  obtain ⟨h1, h2⟩ := tyV_is I1 r1 ty
  refine ⟨T, id, pa, slot, hty, h1, h2, ?_⟩
  have hA := ha cpos pins s1 σ H1 _ I1 q1
  rw [hs] at hA ⊢
  refine Calls.callWith_builtin (by show (false || (backTo cpos (starEach es X.env)).any (·.1)) = false; rw [hplain] <;> rfl) (Calls.evalArgs_plain ?_)
  exact thn hA fun us s2 ⟨vs, H2, I2, r2, q2⟩ => hm pins s2 σ H2 x vs v us Q I2 r1 r2 q2
/- xs.append(e), list.index on a module's tuple .. are MtR facts of 06m -/
end
end Internal

namespace Internal
open PySem PySem.Spec PyProof.Rows

noncomputable def MtM (X : Cx) (id : String) (r : V → List V → Hp → VK → Prop) : Prop :=
  ∀ (pins : List (Addr × Obj)) (s : Shared) (σ : St) (H : Hp) (x : V) (xs : List V) (v : Value) (us : List Value) (Q : VK), Inv X pins σ H s → RelV x v → Vals xs us → r x xs H Q →
    wpAny (model X.prog X.w) X.A (call (.builtin id) (v :: us)) (EP X pins σ Q) X.xe s

theorem Vals.one : ∀ {x : V} {us : List Value}, Vals [x] us → ∃ u, us = [u] ∧ RelV x u
  | _, _, h => by
    cases h with
    | cons r t => cases t; exact ⟨_, rfl, r⟩
theorem Vals.rep {xs : List V} {us : List Value} (h : Vals xs us) : ∀ k : Nat, Vals (List.replicate k xs).flatten (List.replicate k us).flatten
  | 0 => .nil
  | k + 1 => by
    rw [List.replicate_succ, List.replicate_succ, List.flatten_cons, List.flatten_cons]
    exact Vals.append h (Vals.rep h k)
theorem foldl_rep (its : List Value) : ∀ (k : Nat) (acc : List Value),
    List.foldl (fun x1 x2 => x1 ++ x2) acc.toArray (List.replicate k its.toArray) = (acc ++ (List.replicate k its).flatten).toArray
  | 0, acc => by simp
  | k + 1, acc => by
    have e : acc.toArray ++ its.toArray = (acc ++ its).toArray := by simp
    have e2 : (acc ++ its) ++ (List.replicate k its).flatten = acc ++ (List.replicate (k + 1) its).flatten := by
      rw [List.replicate_succ, List.flatten_cons, List.append_assoc]
    rw [← e2, ← foldl_rep its k (acc ++ its), ← e, List.replicate_succ, List.foldl_cons]

section
variable {X : Cx} {pins : List (Addr × Obj)} {σ : St} {H : Hp} {s : Shared} {l b : Addr} {xs ys zs : List V}

theorem Inv.lset {its its' : List Value} {n : Nat} {f : Array Value → Array Value} {t' : Nat} (I : Inv X pins σ H s) (hH : H l = some (.lst xs))
    (e : s.heap.get? l = some { cls := .type "list", data := .seq its.toArray n }) (hf : f its.toArray = its'.toArray) (hv : Vals ys its') (hz : ys.length ≤ sizeLine) :
    Inv X pins σ (upd H l (.lst ys)) { s with heap := s.heap.update l (Obj.mapSeq f), toks := t' } := by
  have q := PySem.IsL.update e f
  rw [hf] at q
  refine I.write (x := l) (e := l) (by rw [hH]; exact trivial) (.inl rfl) (fun b' u hb hu => (Heap.get?_update_other s.heap (Obj.mapSeq f) (Ne.symm hb)).trans hu) ⟨_, q⟩ ?_
  exact ⟨hz, its', _, hv, q⟩
theorem Inv.lnew {its : List Value} {t' : Nat} (I : Inv X pins σ H s) (hv : Vals ys its) (hz : ys.length ≤ sizeLine) :
    Inv X pins σ (upd H s.heap.objs.size (.lst ys)) { s with heap := s.heap.push { cls := .type "list", data := .seq its.toArray }, toks := t' } :=
  I.laid (fun _ _ q => Heap.get?_push_of_some _ q) (Nat.le_refl _) ⟨hz, its, 0, hv, Heap.get?_push_size _ rfl⟩
theorem Inv.fresh (I : Inv X pins σ H s) : H s.heap.objs.size = none := I.hok.fresh (Nat.le_refl _)
theorem Inv.lstM (I : Inv X pins σ H s) (hH : H l = some (.lst xs)) : xs.length ≤ sizeLine ∧ ∃ (its : List Value) (n : Nat), Vals xs its ∧ xs.length = its.length ∧ s.heap.get? l = some { cls := .type "list", data := .seq its.toArray n } := by
  obtain ⟨z, its, n, r, e⟩ := I.hok l _ hH
  exact ⟨z, its, n, r, r.length, e⟩

theorem notLongL {n : Nat} (h : n ≤ sizeLine) : Builtin.List.listTooLong n = false := by
  unfold Builtin.List.listTooLong
  exact decide_eq_false (by omega)
end

section
variable {X : Cx}

noncomputable def rAppend : V → List V → Hp → VK → Prop := fun x vs H Q => ∃ l xs y, x = .ref l ∧ vs = [y] ∧ H l = some (.lst xs) ∧ xs.length < sizeLine ∧ Q .non (upd H l (.lst (xs ++ [y])))
theorem mt_append : MtM X "list.append" rAppend := by
  intro pins s σ H x vs v us Q I rx rv h
  obtain ⟨l, xs, y, rfl, rfl, hH, hz, q⟩ := h
  cases rx
  obtain ⟨u, rfl, ru⟩ := rv.one
  obtain ⟨z, its, n, r, hl, e⟩ := I.lstM hH
  refine call_meets F.slot_list_append ⟨_, e, rfl⟩ F.entry_list_append (F.args_list_append_2 _ _) (PySem.list_append l its.toArray n u (by rw [List.size_toArray]; omega)) ⟨e, ?_⟩
  refine ⟨.non, _, I.lset (its' := its ++ [u]) hH e (by simp) (r.append (.cons ru .nil)) ?_, rfl, q⟩
  rw [List.length_append, List.length_singleton]
  omega

noncomputable def rCat : R2 := fun x y H Q => ∃ l b xs zs, x = .ref l ∧ y = .ref b ∧ H l = some (.lst xs) ∧ H b = some (.lst zs) ∧ xs.length + zs.length ≤ sizeLine ∧ ∀ p, H p = none → Q (.ref p) (upd H p (.lst (xs ++ zs)))
theorem op_cat : OpR X (binaryOp .Add) rCat := by
  intro pins s σ H x y v u Q I rx ry h
  obtain ⟨l, b, xs, zs, rfl, rfl, hH, hB, hz, q⟩ := h
  cases rx
  cases ry
  obtain ⟨z, its, n, r, hl, e⟩ := I.lstM hH
  obtain ⟨z2, its2, n2, r2, hl2, e2⟩ := I.lstM hB
  refine PySem.P.add_list e e2 ?_ (by rw [List.size_toArray, List.size_toArray]; omega)
  have ea : its.toArray ++ its2.toArray = (its ++ its2).toArray := by simp
  rw [ea]
  exact ⟨.ref _, _, I.lnew (t' := s.toks) (r.append r2) (by rw [List.length_append]; omega), rfl, q _ I.fresh⟩
noncomputable def rRep : R2 := fun x y H Q => ∃ l k xs, x = .ref l ∧ y = .int k ∧ H l = some (.lst xs) ∧ -(2 ^ 63) ≤ k ∧ k < 2 ^ 63 ∧ xs.length * k.toNat ≤ sizeLine ∧
  ∀ p, H p = none → Q (.ref p) (upd H p (.lst (List.replicate k.toNat xs).flatten))
theorem len_rep {α : Type} (xs : List α) (k : Nat) : (List.replicate k xs).flatten.length = k * xs.length := by
  induction k with
  | zero => simp
  | succ k ih => rw [List.replicate_succ, List.flatten_cons, List.length_append, ih, Nat.succ_mul, Nat.add_comm]
theorem op_rep : OpR X (binaryOp .Mult) rRep := by
  intro pins s σ H x y v u Q I rx ry h
  obtain ⟨l, k, xs, rfl, rfl, hH, h1, h2, hz, q⟩ := h
  cases rx
  obtain ⟨t, rfl⟩ := ry
  obtain ⟨z, its, n, r, hl, e⟩ := I.lstM hH
  have hlen : its.toArray.size * k.toNat ≤ sizeLine := by rw [List.size_toArray, ← hl]; exact hz
  have hcap : ¬ its.toArray.size * k.toNat > (2 ^ 63 - 1) / 8 := by
    have : (sizeLine : Nat) ≤ (2 ^ 63 - 1) / 8 := by decide
    omega
  have hfit : ¬ (!Builtin.List.listFitsIndex k) = true := by
    rw [fitsIndex_both h1 h2]
    exact Bool.false_ne_true
  have hlong : ¬ Builtin.List.listTooLong (its.toArray.size * k.toNat) = true := by
    rw [notLongL hlen]
    exact Bool.false_ne_true
  have hnew : List.foldl (fun x1 x2 => x1 ++ x2) #[] (List.replicate (if its.toArray.isEmpty = true then 0 else k.toNat) its.toArray) = (List.replicate k.toNat its).flatten.toArray := by
    have f0 : ∀ m : Nat, List.foldl (fun x1 x2 => x1 ++ x2) #[] (List.replicate m its.toArray) = (List.replicate m its).flatten.toArray := fun m => by
      have := foldl_rep its m []
      rw [List.nil_append] at this
      exact this
    rw [f0]
    cases its with
    | nil => simp
    | cons a r' => rw [if_neg (by simp)]
  refine wpAny_binaryOp_repeat_ref (T := "list") (U := "int") (by decide) ⟨_, e, rfl⟩ (fun s' => typeIs_int s' k t) noFill_list_mul F.fills_int_mul F.slot_int_rmul repeat_list F.slot_int_index.lookup
    (call_meets F.slot_int_rmul (typeIs_int s k t) F.entry_int_rmul (F.args_int_rmul_2 _ _) (int___rmul___int_list k t l its.toArray n)
      ⟨e, rfl, ⟨_, e, rfl⟩, call_meets F.slot_list_mul ⟨_, e, rfl⟩ F.entry_list_mul (F.args_list_mul_2 _ _) (AutoListH.list___mul___list_int_3 l its.toArray n k t hfit hcap hlong) ⟨e, ?_⟩⟩)
  rw [hnew]
  exact ⟨.ref _, _, I.lnew (t' := s.toks) (r.rep k.toNat) (by rw [len_rep, Nat.mul_comm]; exact hz), rfl, q _ I.fresh⟩

end

section
variable {prog : Program} {w : World} {A : Around} {E : Value → Shared → Prop} {s : Shared}
end

section
variable {X : Cx}
end
end Internal

namespace Att
open PySem PySem.W PySem.Calls PyProof.Rows

theorem ints_of_wellAll {P : Params} {h : Heap} : ∀ (ns : List Int) (vs : List Value), WellAll P h vs (ns.map WData.int) → IntsAre vs ns := by
  intro ns
  induction ns with
  | nil =>
    intro vs w
    rw [List.map_nil] at w
    cases w
    exact .nil
  | cons n ns ih =>
    intro vs w
    rw [List.map_cons] at w
    cases w with
    | cons a b =>
      cases a
      exact .cons _ _ (ih _ b)

theorem script_of {l : OpenLaw} {n : Nat} (hn : l.most = some n) {P : Params} {h : Heap} {args : List WData} {vals : List Value}
    (hpre : l.row.toRowW.claim.pre args = true) (hwl : WellAll P h vals args) :
    ∃ a vs ns, vals = [Value.ref a] ∧ args = [WData.list (ns.map WData.int)] ∧ h.get? a = some { cls := .type "list", data := .seq vs.toArray } ∧ IntsAre vs ns ∧ ns.length ≤ n := by
  have hsh : WShape.hasAll [] args [.list .int] = true := (pre_splitW hpre).1
  have hc : l.pre.holds [] { args := args } = true := (pre_splitW hpre).2
  obtain ⟨d, r, rfl, h1, h2⟩ := hasAllW_cons hsh
  obtain rfl := hasAllW_nil h2
  obtain ⟨xs, rfl, h3⟩ := hasW_list h1
  obtain ⟨ns, rfl⟩ := items_int h3
  have hlen : ns.length ≤ n := by
    unfold OpenLaw.pre at hc
    have h4 : (WTm.not (.lt (.lit (.int (n : Int))) (.len (.arg 0)))).holds [] { args := [.list (ns.map .int)] } = true := by
      have h4 := (holds_andW hc).1
      rw [hn] at h4
      exact h4
    have h5 := condW_of h4 (w_not (w_lt w_lit (w_len_list (w_arg rfl))))
    rw [List.length_map] at h5
    refine Nat.le_of_not_lt fun q => ?_
    have q' : (n : Int) < ((ns.length : Nat) : Int) := by omega
    first
      | (rw [decide_eq_true q'] at h5; exact absurd h5 (by decide))
      | (simp at h5; omega)
  cases hwl with
  | cons w1 w2 =>
    cases w2
    cases w1 with
    | list ho hall => exact ⟨_, _, ns, rfl, rfl, ho, ints_of_wellAll ns _ hall, hlen⟩

theorem post_true (l : OpenLaw) (args : List WData) : l.row.toRowW.claim.post args (.bool true) args = true :=
  postW_of (r := l.row.toRowW) (X := (true == true))
    (show WShape.has [] (.bool true) .bool = true by first | rfl | decide | simp [WShape.has, WShape.arms, WShape.armsAll])
    (show (WTm.eq .res (.lit (.bool true))).value [] { args := args, res := some (.bool true), after := args } = some (.bool (true == true)) from w_eq_bool (w_res rfl) w_lit) rfl

section
variable {prog : Program} {w : World} {A : Around} {E : Value → Shared → Prop} {s : Shared} {K : Frag}

noncomputable def ledger (h : Heap) (L d : Addr) : List (Addr × Obj) := (List.range h.objs.size).filterMap fun a => if a = L ∨ a = d then none else (h.get? a).map fun o => (a, o)
end
end Att

namespace Internal
open PySem PySem.Spec PyProof.Rows

theorem vals_ints : ∀ {vs : List Value} {ns : List Int}, IntsAre vs ns → Vals (ns.map V.int) vs
  | _, _, .nil => .nil
  | _, _, .cons n t h => .cons ⟨t, rfl⟩ (vals_ints h)

noncomputable def Only (H : Hp) : Prop := ∀ b, H b = none ∨ ∃ o xs, H b = some (.frz o (.lst xs))

end Internal

namespace Internal
open PySem PySem.Spec PyProof.Rows

noncomputable abbrev KOf {K : PySem.W.Frag} {h : Heap} (_ : K.In h) : PySem.W.Frag := K

end Internal



namespace Internal
open PySem PySem.Spec PyProof.Rows

noncomputable def inClass (s : Stmt) (j : Nat) : Stmt := match s with
  | .ClassDef _ _ _ body _ _ _ _ _ _ _ => body.getD j (.Pass ⟨0, 0, 0, 0⟩)
  | _ => .Pass ⟨0, 0, 0, 0⟩
noncomputable def defArgs (s : Stmt) : Arguments := match s with
  | .FunctionDef _ a _ _ _ _ _ _ _ _ => a
  | _ => { posonlyargs := [], args := [], vararg := none, kwonlyargs := [], kw_defaults := [], kwarg := none, defaults := [] }
noncomputable def defBody (s : Stmt) : List Stmt := match s with
  | .FunctionDef _ _ b _ _ _ _ _ _ _ => b
  | _ => []
noncomputable def defScope (s : Stmt) : Scope := match s with
  | .FunctionDef _ _ _ _ _ _ sc _ _ _ => sc
  | _ => { kind := .function, names := [], isGenerator := false, isCoroutine := false }

noncomputable abbrev CX0 : CXT := fun _ _ _ _ _ _ => False
noncomputable abbrev E0 : XK := fun _ _ _ => False
set_option genInjectivity false in
set_option genSizeOf false in
structure Fun (K : PySem.W.Frag) (x qual : Str) (st : Stmt) (f : Addr) (fd : FuncData) : Prop where
  ex : ∃ (oc : Value) (od : Option Addr) (kV doc pm : Value) (an : Option Addr) (cdv ct : Value) (osl : Array (Option Value)),
    fd = PySem.W.fnOf x qual (defArgs st) (defBody st) (defScope st) .none kV doc pm an cdv ct ∧ K.lookup f = some ⟨oc, od, .func fd, osl⟩ ∧ PySem.W.codeIn K cdv qual = true
  kp : PySem.W.keepIn K (.ref f) = true
section
variable {P : Program} {w : World} {K : PySem.W.Frag} {mg : Str → Option Value} {base : Heap}
theorem Fun.binds {x qual : Str} {st : Stmt} {f : Addr} {fd : FuncData} {ps : List Str} (F : Fun K x qual st f fd)
    (h : ∀ (kV doc pm : Value) (an : Option Addr) (cdv ct : Value) (us : List Value), us.length = ps.length → bindArgs (PySem.W.fnOf x qual (defArgs st) (defBody st) (defScope st) .none kV doc pm an cdv ct) ⟨us, []⟩ = pure (ps.zip us)) : Binds K fd ps [] := by
  obtain ⟨oc, od, kV, doc, pm, an, cdv, ct, osl, rfl, lk, hcd⟩ := F.ex
  exact .all (h kV doc pm an cdv ct)
theorem fun_mk {x qual : Str} {st : Stmt} {f : Addr} {oc : Value} {od an : Option Addr} {osl : Array (Option Value)} {kV doc pm cdv ct : Value} (l : K.lookup f = some ⟨oc, od, .func (PySem.W.fnOf x qual (defArgs st) (defBody st) (defScope st) .none kV doc pm an cdv ct), osl⟩)
    (c : PySem.W.codeIn K cdv qual = true) (k : PySem.W.keepIn K (.ref f) = true) : Fun K x qual st f (PySem.W.fnOf x qual (defArgs st) (defBody st) (defScope st) .none kV doc pm an cdv ct) := ⟨⟨oc, od, kV, doc, pm, an, cdv, ct, osl, rfl, l, c⟩, k⟩
end
section
variable {X : Cx}
theorem pv (i : Nat) {x : Str} {pos : Pos} (hN : autoParam (X.N[i]? = some x) Internal.aut2._auto_1) (hv : Vis X.env.scope x := by first | exact Or.inl rfl | exact Or.inr (Or.inl rfl) | exact Or.inr (Or.inr rfl)) (hd : autoParam ((x == ("__debug__" : Str)) = false) Internal.aut1._auto_1)
    (hcd : autoParam ((x == ("__classdict__" : Str)) = false) Internal.aut1._auto_1) : PE X (.Name x pos) (tVar i) := pe_var hN hv hd hcd
end

noncomputable def Same (H H' : Hp) : Prop := ∀ b o, H b = some o → H' b = some o
theorem Same.refl (H : Hp) : Same H H := fun _ _ h => h
theorem Same.trans {H H1 H2 : Hp} (a : Same H H1) (b : Same H1 H2) : Same H H2 := fun c o h => b c o (a c o h)
theorem Same.seq {K : PySem.W.Frag} {H H' : Hp} {a : Addr} {xs : List V} (e : Same H H') (h : SqL K H a xs) : SqL K H' a xs := by
  rcases h with (h | ⟨o, h⟩) | h
  · exact .inl (.inl (e _ _ h))
  · exact .inl (.inr ⟨o, e _ _ h⟩)
  · exact .inr h

end Internal

set_option Elab.async false
set_option linter.all false
set_option maxRecDepth 100000
namespace Internal
open PySem PySem.Spec PyProof.Rows

namespace BT
theorem abs : bootBuiltins "abs" = some (.builtin "abs") := by decide +kernel
theorem len : bootBuiltins "len" = some (.builtin "len") := by decide +kernel
theorem max : bootBuiltins "max" = some (.builtin "max") := by decide +kernel
theorem min : bootBuiltins "min" = some (.builtin "min") := by decide +kernel
theorem sum : bootBuiltins "sum" = some (.builtin "sum") := by decide +kernel
theorem sorted : bootBuiltins "sorted" = some (.builtin "sorted") := by decide +kernel
theorem isinstance : bootBuiltins "isinstance" = some (.builtin "isinstance") := by decide +kernel
theorem int : bootBuiltins "int" = some (.type "int") := by decide +kernel
theorem bool : bootBuiltins "bool" = some (.type "bool") := by decide +kernel
theorem list : bootBuiltins "list" = some (.type "list") := by decide +kernel
theorem tuple : bootBuiltins "tuple" = some (.type "tuple") := by decide +kernel
theorem ValueError : bootBuiltins "ValueError" = some (.type "ValueError") := by decide +kernel
end BT

noncomputable def sz (i : Int) : Nat := Builtin.Int.intBits i
theorem sz_le {i : Int} {n : Nat} : sz i ≤ n ↔ i.natAbs < 2 ^ n := by
  unfold sz Builtin.Int.intBits
  by_cases h : i = 0
  · subst h; simp; exact Nat.two_pow_pos n
  · have h' : (i == 0) = false := by simp [h]
    rw [h', if_neg (by decide)]
    have hn : i.natAbs ≠ 0 := by omega
    rw [← Nat.log2_lt hn]; omega
theorem sz_lt (i : Int) : i.natAbs < 2 ^ sz i := sz_le.mp (Nat.le_refl _)
theorem sz_mono {i j : Int} (h : i.natAbs ≤ j.natAbs) : sz i ≤ sz j := sz_le.mpr (Nat.lt_of_le_of_lt h (sz_lt j))
theorem sz_neg (i : Int) : sz (-i) ≤ sz i := sz_mono (by omega)
theorem natAbs_ediv_le (i j : Int) : (i / j).natAbs ≤ i.natAbs := Int.natAbs_ediv_le_natAbs i j
theorem sz_div (i j : Int) : sz (i / j) ≤ sz i := sz_mono (natAbs_ediv_le i j)

theorem sz_of {i : Int} {n : Nat} (h : i.natAbs < 2 ^ n) : sz i ≤ n := sz_le.mpr h
theorem sz200 {i : Int} (h1 : -1606938044258990275541962092341162602522202993782792835301376 < i) (h2 : i < 1606938044258990275541962092341162602522202993782792835301376) : sz i ≤ 200 := sz_of (by
  have : (2 : Nat) ^ 200 = 1606938044258990275541962092341162602522202993782792835301376 := by decide
  omega)
section
variable {X : Cx}
noncomputable def CMulS (i j : Int) : Prop := sz i + sz j ≤ 134217728
theorem CMulS.ok {i j : Int} (h : CMulS i j) : IntMulOk i j := by
  unfold IntMulOk
  have e : Builtin.Int.intTooBig (((Builtin.Int.intBits i : Nat) : Int) + ((Builtin.Int.intBits j : Nat) : Int)) = false := by
    unfold Builtin.Int.intTooBig
    have hb : bitsLine = 134217728 := by decide
    rw [decide_eq_false]
    rw [hb]
    unfold CMulS sz at h
    omega
  rw [e]; simp
theorem CMulS.of {i j : Int} {n m : Nat} (h1 : sz i ≤ n) (h2 : sz j ≤ m) (h : n + m ≤ 134217728) : CMulS i j := by unfold CMulS; omega
theorem op_mulS : OpR X (binaryOp .Mult) (rI CMulS fun i j => .int (i * j)) := opI fun _ _ _ _ _ _ _ hc q => mul_int q hc.ok
noncomputable def rMulU : R2 := fun x y H Q => rI CMulS (fun i j => .int (i * j)) x y H Q ∨ rRep x y H Q
theorem op_mulU : OpR X (binaryOp .Mult) rMulU := op_mulS.or op_rep
noncomputable def rAddU (K : PySem.W.Frag) : R2 := fun x y H Q => rI0 (fun i j => .int (i + j)) x y H Q ∨ rCat x y H Q ∨ rCatT K x y H Q
theorem op_addU : OpR X (binaryOp .Add) (rAddU X.K) := op_add.or (op_cat.or op_catT)
noncomputable def CDivU (i j : Int) : Prop := j ≠ 0 ∧ (sz j ≤ 9000 ∨ sz i ≤ sz j + 4500)
noncomputable def rDivU : R2 := rI CDivU fun i j => .int (i.fdiv j)
theorem sz_log {j : Int} (h : j ≠ 0) : sz j = j.natAbs.log2 + 1 := by
  have h0 : j.natAbs ≠ 0 := by omega
  have h1 : sz j ≤ j.natAbs.log2 + 1 := sz_le.mpr (Nat.lt_log2_self)
  have h2 : ¬ sz j ≤ j.natAbs.log2 := fun z => by
    have := sz_le.mp z
    have := Nat.log2_self_le h0
    omega
  omega
theorem noPylong_near {i j : Int} (hj : j ≠ 0) (h : sz i ≤ sz j + 4500) : Builtin.divisionGoesByPylong i j = false := by
  have hy : (j == 0) = false := by simpa using hj
  have key : (if i == 0 then 0 else i.natAbs.log2 / 30 + 1) ≤ (if j == 0 then 0 else j.natAbs.log2 / 30 + 1) + 150 := by
    rw [hy]
    by_cases hi : i = 0
    · have : (i == 0) = true := by simpa using hi
      rw [this]
      exact Nat.zero_le _
    · have hx : (i == 0) = false := by simpa using hi
      rw [hx]
      rw [sz_log hi, sz_log hj] at h
      show i.natAbs.log2 / 30 + 1 ≤ j.natAbs.log2 / 30 + 1 + 150
      omega
  show (decide (_ > 300) && decide ((if i == 0 then 0 else i.natAbs.log2 / 30 + 1) > (if j == 0 then 0 else j.natAbs.log2 / 30 + 1) + 150)) = false
  rw [decide_eq_false (Nat.not_lt.mpr key), Bool.and_false]
theorem op_divU : OpR X (binaryOp .FloorDiv) rDivU := opI fun i j _ _ _ _ _ hc q => floordiv_int hc.1 q (.inl (hc.2.elim (fun h => PyProof.noPylong_of_log2 (by
  have h1 := sz_le.mp h
  by_cases h0 : j.natAbs = 0
  · rw [h0]; decide
  · exact (Nat.log2_lt h0).mpr h1)) (noPylong_near hc.1)))
noncomputable def rModU : R2 := rI (fun _ j => j ≠ 0) fun i j => .int (i.fmod j)
theorem op_modU : OpR X (binaryOp .Mod) rModU := op_modN

mutual
inductive RepD (K : PySem.W.Frag) (H : Hp) : V → PyData → Prop
  | non : RepD K H .non .none
  | bl (b : Bool) : RepD K H (.bl b) (.bool b)
  | int (i : Int) : RepD K H (.int i) (.int i)
  | str (x : Str) (ok : PyData.canLay0 (.str x) = true) : RepD K H (.str x) (.str x)
  | lst {a : Addr} {vs : List V} {ds : List PyData} : SqL K H a vs → RepAll K H vs ds → RepD K H (.ref a) (.list ds)
  | tup {a : Addr} {vs : List V} {ds : List PyData} : SqT K H a vs → RepAll K H vs ds → RepD K H (.ref a) (.tuple ds)
inductive RepAll (K : PySem.W.Frag) (H : Hp) : List V → List PyData → Prop
  | nil : RepAll K H [] []
  | cons {v : V} {d : PyData} {vs : List V} {ds : List PyData} : RepD K H v d → RepAll K H vs ds → RepAll K H (v :: vs) (d :: ds)
end
mutual
theorem RepD.reads {pins : List (Addr × Obj)} {σ : St} {H : Hp} {s : Shared} (I : Inv X pins σ H s) : ∀ {v : V} {d : PyData} {u : Value}, RepD X.K H v d → RelV v u → ∃ as, Reads s.heap u d as
  | _, _, _, .non, r => by cases (show _ = Value.none from r); exact ⟨_, .none⟩
  | _, _, _, .bl b, r => by cases (show _ = Value.bool b from r); exact ⟨_, .bool b⟩
  | _, _, _, .int i, r => by obtain ⟨t, rfl⟩ := (show ∃ t, _ = Value.int i t from r); exact ⟨_, .int i t⟩
  | _, _, _, .str x _, r => by obtain ⟨t, rfl⟩ := (show ∃ t, _ = Value.str x t from r); exact ⟨_, .str x t⟩
  | _, _, _, .lst h k, r => by
    cases (show _ = Value.ref _ from r)
    obtain ⟨its, rv, ⟨o, n, h1, h2, _, h3⟩, _⟩ := I.list h
    obtain ⟨as, q⟩ := RepAll.reads I k rv
    exact ⟨_, .list h1 h2 h3 (by simpa using q)⟩
  | _, _, _, .tup h k, r => by
    cases (show _ = Value.ref _ from r)
    obtain ⟨its, rv, ⟨o, h1, h2, n, h3⟩, _⟩ := I.tuple h
    obtain ⟨as, q⟩ := RepAll.reads I k rv
    exact ⟨_, .tuple h1 h2 h3 (by simpa using q)⟩
theorem RepAll.reads {pins : List (Addr × Obj)} {σ : St} {H : Hp} {s : Shared} (I : Inv X pins σ H s) : ∀ {vs : List V} {ds : List PyData} {us : List Value}, RepAll X.K H vs ds → Vals vs us → ∃ as, ReadsAll s.heap us ds as
  | _, _, _, .nil, .nil => ⟨_, .nil⟩
  | _, _, _, .cons h k, .cons r t => by
    obtain ⟨as, q⟩ := RepD.reads I h r
    obtain ⟨bs, p⟩ := RepAll.reads I k t
    exact ⟨_, .cons q p⟩
end
mutual
theorem RepD.lay {K : PySem.W.Frag} {H : Hp} : ∀ {v : V} {d : PyData}, RepD K H v d → d.canLay0 = true
  | _, _, .non => rfl
  | _, _, .bl _ => rfl
  | _, _, .int _ => rfl
  | _, _, .str _ ok => ok
  | _, _, .lst _ k => by rw [PyData.canLay0]; exact RepAll.lay k
  | _, _, .tup _ k => by rw [PyData.canLay0]; exact RepAll.lay k
theorem RepAll.lay {K : PySem.W.Frag} {H : Hp} : ∀ {vs : List V} {ds : List PyData}, RepAll K H vs ds → PyData.canLayAll0 ds = true
  | _, _, .nil => rfl
  | _, _, .cons h k => by rw [PyData.canLayAll0, RepD.lay h, RepAll.lay k]; rfl
end
theorem Same.seqT {K : PySem.W.Frag} {H H' : Hp} {a : Addr} {xs : List V} (e : Same H H') (h : SqT K H a xs) : SqT K H' a xs := by
  rcases h with (h | ⟨o, h⟩) | h
  · exact .inl (.inl (e _ _ h))
  · exact .inl (.inr ⟨o, e _ _ h⟩)
  · exact .inr h
mutual
theorem Same.rep {K : PySem.W.Frag} {H H' : Hp} (e : Same H H') : ∀ {v : V} {d : PyData}, RepD K H v d → RepD K H' v d
  | _, _, .non => .non
  | _, _, .bl b => .bl b
  | _, _, .int i => .int i
  | _, _, .str x ok => .str x ok
  | _, _, .lst h k => .lst (e.seq h) (e.repAll k)
  | _, _, .tup h k => .tup (e.seqT h) (e.repAll k)
theorem Same.repAll {K : PySem.W.Frag} {H H' : Hp} (e : Same H H') : ∀ {vs : List V} {ds : List PyData}, RepAll K H vs ds → RepAll K H' vs ds
  | _, _, .nil => .nil
  | _, _, .cons h k => .cons (e.rep h) (e.repAll k)
end
noncomputable def rEqU (K : PySem.W.Frag) : R2 := fun x y H Q => (∃ d e, RepD K H x d ∧ RepD K H y e ∧ min d.depth e.depth ≤ 60 ∧ Q (.bl (PyData.eqv d e)) H) ∨ rEq x y H Q
noncomputable def rNeU (K : PySem.W.Frag) : R2 := fun x y H Q => (∃ d e, RepD K H x d ∧ RepD K H y e ∧ min d.depth e.depth ≤ 60 ∧ Q (.bl (!PyData.eqv d e)) H) ∨ rNe x y H Q
theorem op_eqU (hu : X.A.units + 64 < cLine) : OpR X (compareOp .Eq) (rEqU X.K) := by
  refine OpR.or ?_ op_eq
  intro pins s σ H x y v u Q I rx ry h
  obtain ⟨d, e, h1, h2, hd, q⟩ := h
  obtain ⟨as, r1⟩ := h1.reads I rx
  obtain ⟨bs, r2⟩ := h2.reads I ry
  exact PySem.SeqAt.compareEq_reads r1 r2 h1.lay h2.lay (by omega) ⟨.bl _, H, I, rfl, q⟩
theorem op_neU (hu : X.A.units + 64 < cLine) : OpR X (compareOp .NotEq) (rNeU X.K) := by
  refine OpR.or ?_ op_ne
  intro pins s σ H x y v u Q I rx ry h
  obtain ⟨d, e, h1, h2, hd, q⟩ := h
  obtain ⟨as, r1⟩ := h1.reads I rx
  obtain ⟨bs, r2⟩ := h2.reads I ry
  exact PySem.SeqAt.compareNe_reads r1 r2 h1.lay h2.lay (by omega) ⟨.bl _, H, I, rfl, q⟩

noncomputable def rIsi (K : PySem.W.Frag) : List V → Hp → VK → Prop := fun xs H Q => ∃ x c t b cv, xs = [x, c] ∧ RelV c cv ∧ TyOf K H x t ∧ PySem.W.kitOne K t cv = some b ∧ Q (.bl b) H
theorem call_isinst : CallR X (.builtin "isinstance") (rIsi X.K) := by
  intro pins s σ H xs us Q I r h
  obtain ⟨x, c, t, b, cv, rfl, rc, ty, e, q⟩ := h
  obtain ⟨u, w', rfl, r1, r2⟩ := vals2 r
  have ec : w' = cv := by
    cases c with
    | ty n => exact (show w' = _ from r2).trans (show cv = _ from rc).symm
    | ref a => exact (show w' = _ from r2).trans (show cv = _ from rc).symm
    | non => exact (show w' = _ from r2).trans (show cv = _ from rc).symm
    | bl b => exact (show w' = _ from r2).trans (show cv = _ from rc).symm
    | _ => obtain ⟨_, rfl⟩ := rc; simp [PySem.W.kitOne, PySem.W.kitCls] at e; cases ty <;> simp at e
  subst ec
  exact isinst_ok I r1 ty e fun tk => ⟨.bl b, H, I.tok tk, rfl, q⟩
end

noncomputable def rAbs : List V → Hp → VK → Prop := fun xs H Q => ∃ i, xs = [.int i] ∧ Q (.int (if i < 0 then -i else i)) H
noncomputable def rLen (K : PySem.W.Frag) : List V → Hp → VK → Prop := fun xs H Q => ∃ p ys, xs = [.ref p] ∧ (SqL K H p ys ∨ SqT K H p ys) ∧ Q (.int ys.length) H
noncomputable def rMax2 : List V → Hp → VK → Prop := fun xs H Q => ∃ i j, xs = [.int i, .int j] ∧ Q (.int (if j > i then j else i)) H
noncomputable def rMin2 : List V → Hp → VK → Prop := fun xs H Q => ∃ i j, xs = [.int i, .int j] ∧ Q (.int (if j < i then j else i)) H
noncomputable def rListOf (K : PySem.W.Frag) : List V → Hp → VK → Prop := fun xs H Q => ∃ p ys, xs = [.ref p] ∧ (SqL K H p ys ∨ SqT K H p ys) ∧ ∀ l, H l = none → Q (.ref l) (upd H l (.lst ys))
noncomputable def rTupleOf (K : PySem.W.Frag) : List V → Hp → VK → Prop := fun xs H Q => ∃ p ys, xs = [.ref p] ∧ ((SqL K H p ys ∧ ∀ l, H l = none → Q (.ref l) (upd H l (.tup ys))) ∨ (SqT K H p ys ∧ Q (.ref p) H))
section
variable {X : Cx}
theorem call_absU : CallR X (.builtin "abs") rAbs := call_abs
theorem call_lenU : CallR X (.builtin "len") (rLen X.K) := call_len_seq
theorem call_maxU (hc : X.calm = true) : CallR X (.builtin "max") rMax2 := call_max2 hc
theorem call_minU (hc : X.calm = true) : CallR X (.builtin "min") rMin2 := call_min2 hc
theorem call_listU : CallR X (.type "list") (rListOf X.K) := call_list_of
theorem call_tupleU : CallR X (.type "tuple") (rTupleOf X.K) := call_tuple_of
noncomputable abbrev tTru (K : PySem.W.Frag) (ta : TE) : TT := fun σ H Q => ta σ H fun x H' => ∃ k, TruV K x H' k ∧ Q k H'
theorem pt_truthU {a : Expr} {ta : TE} (ha : PE X a ta) (he : ∀ whole, isTrue a X.env whole = (do let v ← whole; standAt a.pos; holding [v] (truthy v))) : PT X a (tTru X.K ta) := pt_truth ha he
end
noncomputable def tMid (t u : TS) : TS := fun D σ H => ∃ M : St → Hp → Prop, t { D with nx := M } σ H ∧ ∀ σ' H', M σ' H' → u D σ' H'
theorem pss_mid {X : Cx} {st : Stmt} {rest : List Stmt} {t u : TS} (h1 : PS X st t) (h2 : PSs X rest u) : PSs X (st :: rest) (tMid t u) := by
  intro pins s σ H D I h
  obtain ⟨M, ht, hM⟩ := h
  refine wpAny_execs_cons (thn (h1 pins s σ H _ I ht) fun f s1 q => ?_)
  cases f with
  | next =>
    obtain ⟨σ', H', I', q'⟩ := q
    exact h2 pins s1 σ' H' D I' (hM σ' H' q')
  | brk => exact q
  | cont => exact q
  | ret u => exact q
noncomputable def NoX (CX : CXT) : Prop := ∀ (outer : List Env) (H : Hp) (s : Shared) (e : Value) (s' : Shared), CX outer H s E0 e s' → False
theorem passN {CX : CXT} {X : Cx} (h : NoX CX) : Passes CX X E0 := fun _ _ H s e s' _ q => (h _ H s e s' q).elim
theorem Fun.okN {P : Program} {w : World} {K : PySem.W.Frag} {mg : Str → Option Value} {base : Heap} {CX : CXT} {x qual : Str} {st : Stmt} {f : Addr} {fd : FuncData} {N ps : List Str} {k : Nat} {sp : Sp} (F : Fun K x qual st f fd) (S : FnScope N ps (defScope st)) (len : ∀ vs H Q E, sp vs H Q E → vs.length = ps.length)
    (hbody : ∀ (cdv : Value) (A : Around) (outer : List Env) (s : Shared) (H : Hp) (vs : List V) (Q : VK) (E : XK), Room k (A.deeper (envOfC qual (defScope st) s.heap.objs.size f cdv)) → sp vs H Q E →
      ∃ t, PSs (cxOf CX P w K mg base N qual (defScope st) f cdv A outer s H E).nox (defBody st) t ∧ t { nx := fun _ H' => Q .non H', rt := Q } (start N vs) H) : FnOk P w K mg base CX (k + 1) f fd ps sp := by
  obtain ⟨oc, od, kV, doc, pm, an, cdv, ct, osl, rfl, lk, hcd⟩ := F.ex
  refine fn_of lk hcd S len fun A outer s H vs Q E hr hsp => ?_
  obtain ⟨t, h, q⟩ := hbody cdv A outer s H vs Q E hr hsp
  exact ⟨t, h.nox, q⟩
section
variable {σ : St} {H : Hp} {Q : VK} {D : Ends} {ta tb tc te : TE} {t u : TS} {K : PySem.W.Frag}
theorem x_var {i : Nat} {v : V} (e : σ[i]? = some (some v)) (q : Q v H) : tVar i σ H Q := ⟨v, e, q⟩
theorem x_i0 {g : Int → Int → V} {i j : Int} (q : Q (g i j) H) : rI0 g (.int i) (.int j) H Q := ⟨i, j, rfl, rfl, q⟩
theorem x_add {i j : Int} (q : Q (.int (i + j)) H) : rAddU K (.int i) (.int j) H Q := .inl ⟨i, j, rfl, rfl, q⟩
theorem x_mul {i j : Int} (c : CMulS i j) (q : Q (.int (i * j)) H) : rMulU (.int i) (.int j) H Q := .inl ⟨i, j, rfl, rfl, c, q⟩
theorem x_div {i j : Int} (h0 : 0 < j) (hs : sz j ≤ 9000) (q : Q (.int (i / j)) H) : rDivU (.int i) (.int j) H Q :=
  ⟨i, j, rfl, rfl, ⟨by omega, .inl hs⟩, by show Q (.int (i.fdiv j)) H; rw [Int.fdiv_eq_ediv_of_nonneg _ (Int.le_of_lt h0)]; exact q⟩
theorem x_divN {i j : Int} (h0 : j ≠ 0) (hs : sz j ≤ 9000) (q : Q (.int (i.fdiv j)) H) : rDivU (.int i) (.int j) H Q := ⟨i, j, rfl, rfl, ⟨h0, .inl hs⟩, q⟩
theorem x_mod {i j : Int} (h0 : 0 < j) (q : Q (.int (i % j)) H) : rModU (.int i) (.int j) H Q :=
  ⟨i, j, rfl, rfl, by omega, by show Q (.int (i.fmod j)) H; rw [Int.fmod_eq_emod_of_nonneg _ (Int.le_of_lt h0)]; exact q⟩
theorem x_pow {i j k : Int} (c : CPow i j) (e : i ^ j.toNat = k) (q : Q (.int k) H) : rI CPow (fun i j => .int (i ^ j.toNat)) (.int i) (.int j) H Q := ⟨i, j, rfl, rfl, c, by show Q (.int (i ^ j.toNat)) H; rw [e]; exact q⟩
theorem x_neg {i : Int} (q : Q (.int (-i)) H) : rU (fun i => .int (-i)) (.int i) H Q := ⟨i, rfl, q⟩
theorem dI {i j : Int} : decide (V.int i = V.int j) = decide (i = j) := by simp
theorem x_eqI {i j : Int} (q : Q (.bl (decide (i = j))) H) : rEqU K (.int i) (.int j) H Q := .inr ⟨rfl, by rw [dI]; exact q⟩
theorem x_neI {i j : Int} (q : Q (.bl (!decide (i = j))) H) : rNeU K (.int i) (.int j) H Q := .inr ⟨rfl, by rw [dI]; exact q⟩
theorem x_eqD {x y : V} {d e : PyData} (h1 : RepD K H x d) (h2 : RepD K H y e) (hd : min d.depth e.depth ≤ 60) (q : Q (.bl (PyData.eqv d e)) H) : rEqU K x y H Q := .inl ⟨d, e, h1, h2, hd, q⟩
theorem x_neD {x y : V} {d e : PyData} (h1 : RepD K H x d) (h2 : RepD K H y e) (hd : min d.depth e.depth ≤ 60) (q : Q (.bl (!PyData.eqv d e)) H) : rNeU K x y H Q := .inl ⟨d, e, h1, h2, hd, q⟩
theorem x_ixL {a : Addr} {xs : List V} {i : Int} {v : V} (h : SqL K H a xs) (e : atI xs i = some v) (q : Q v H) : rIx K (.ref a) (.int i) H Q := .inl ⟨a, xs, i, v, rfl, rfl, h, e, q⟩
theorem x_ixT {a : Addr} {xs : List V} {i : Int} {v : V} (h : SqT K H a xs) (e : atI xs i = some v) (q : Q v H) : rIx K (.ref a) (.int i) H Q := .inr (.inl ⟨a, xs, i, v, rfl, rfl, h, e, q⟩)
theorem x_bl {T : Bool → Prop} {b : Bool} (q : T b) : ∃ k, V.bl b = .bl k ∧ T k := ⟨b, rfl, q⟩
theorem x_truB {T : Bool → Prop} {b : Bool} (q : T b) : ∃ k, TruV K (.bl b) H k ∧ T k := ⟨b, rfl, q⟩
theorem x_andV (q : ta σ H fun x H1 => ∃ c, x = .bl c ∧ if c = true then tb σ H1 Q else Q (.bl false) H1) : tAndV ta tb σ H Q := q
theorem x_chain {r r' : R2} (q : ta σ H fun x H1 => tb σ H1 fun y H2 => r x y H2 fun z H3 => ∃ k, z = .bl k ∧ (if k = true then tc σ H3 fun w' H4 => r' y w' H4 Q else Q (.bl false) H3)) : tChain r r' ta tb tc σ H Q := q
theorem x_ite {p : Prop} [Decidable p] {A B : Prop} (h1 : p → A) (h2 : ¬ p → B) : if decide p = true then A else B := by
  by_cases h : p
  · rw [if_pos (decide_eq_true h)]; exact h1 h
  · rw [if_neg (by rw [decide_eq_false h]; exact Bool.false_ne_true)]; exact h2 h
theorem x_iteN {p : Prop} [Decidable p] {A B : Prop} (h1 : ¬ p → A) (h2 : p → B) : if (!decide p) = true then A else B := by
  by_cases h : p
  · rw [if_neg (by rw [decide_eq_true h]; exact Bool.false_ne_true)]; exact h2 h
  · rw [if_pos (by rw [decide_eq_false h]; rfl)]; exact h1 h
theorem x_iteT {A B : Prop} (h : A) : if true = true then A else B := by rw [if_pos rfl]; exact h
theorem x_iteF {A B : Prop} (h : B) : if false = true then A else B := by rw [if_neg Bool.false_ne_true]; exact h
theorem x_iteNT {A B : Prop} (h : B) : if (!true) = true then A else B := x_iteF h
theorem x_iteNF {A B : Prop} (h : A) : if (!false) = true then A else B := x_iteT h
theorem x_mid (M : St → Hp → Prop) (q : t { D with nx := M } σ H) (r : ∀ σ' H', M σ' H' → u D σ' H') : tMid t u D σ H := ⟨M, q, r⟩
theorem x_ret (q : te σ H D.rt) : tRet te D σ H := q
theorem x_nil {R : List V → Hp → Prop} (q : R [] H) : tNil σ H R := q
theorem x_call {sp : Sp} {E : XK} {tr : TA} (q : tr σ H fun vs H1 => sp vs H1 Q E) : tCall sp [] E tr σ H Q := by unfold tCall; simp only [List.append_nil]; exact q
noncomputable def rTup (Q : VK) (xs : List V) (H : Hp) : Prop := xs.length ≤ sizeLine ∧ ∀ p, H p = none → Q (.ref p) (upd H p (.tup xs))
noncomputable def rLst (Q : VK) (xs : List V) (H : Hp) : Prop := xs.length ≤ sizeLine ∧ ∀ p, H p = none → Q (.ref p) (upd H p (.lst xs))
theorem x_tup {tr : TA} (q : tr σ H (rTup Q)) : tTup tr σ H Q := q
theorem x_lst {tr : TA} (q : tr σ H (rLst Q)) : tLst tr σ H Q := q
theorem x_abs {i : Int} (q : Q (.int (if i < 0 then -i else i)) H) : rAbs [.int i] H Q := ⟨i, rfl, q⟩
theorem x_lenL {a : Addr} {xs : List V} (h : SqL K H a xs) (q : Q (.int xs.length) H) : rLen K [.ref a] H Q := ⟨a, xs, rfl, .inl h, q⟩
theorem x_max {i j : Int} (q : Q (.int (if j > i then j else i)) H) : rMax2 [.int i, .int j] H Q := ⟨i, j, rfl, q⟩
theorem x_min {i j : Int} (q : Q (.int (if j < i then j else i)) H) : rMin2 [.int i, .int j] H Q := ⟨i, j, rfl, q⟩
theorem x_start {N : List Str} {vs : List V} {σ0 : St} (e : start N vs = σ0) (q : t D σ0 H) : t D (start N vs) H := by rw [e]; exact q
theorem x_isi {x c : V} {t' cv : Value} {b : Bool} (rc : RelV c cv) (ty : TyOf K H x t') (e : PySem.W.kitOne K t' cv = some b) (q : Q (.bl b) H) : rIsi K [x, c] H Q := ⟨x, c, t', b, cv, rfl, rc, ty, e, q⟩
end
theorem Same.new {H : Hp} {p : Addr} (h : H p = none) (o : HO) : Same H (upd H p o) := fun b u q => by rw [upd_ne (ne_of_none q h)]; exact q
end Internal

set_option Elab.async false
set_option linter.all false
set_option maxRecDepth 100000
namespace Internal
open PySem PySem.Spec PyProof.Rows

theorem closureFor_all {env : Env} {scope : Scope} (h : ∀ y ∈ scope.names, y.2 = .free → ∃ c, env.cells.lookup y.1 = some c) :
    ∃ cl, closureFor scope env = pure cl ∧ (∀ x c, cl.lookup x = some c → env.cells.lookup x = some c) ∧ ∀ y ∈ scope.names, y.2 = .free → cl.lookup y.1 = env.cells.lookup y.1 := by
  unfold closureFor
  have key : ∀ (names : List (Str × NameKind)) (acc : List (Str × Addr)), (∀ y ∈ names, y.2 = .free → ∃ c, env.cells.lookup y.1 = some c) → (∀ x c, acc.lookup x = some c → env.cells.lookup x = some c) →
      ∃ cl, (forIn (m := Sem) names acc fun (x : Str × NameKind) r => if (x.2 == .free) = true then (do let a ← cellOf env x.1; pure (ForInStep.yield ((x.1, a) :: r))) else pure (ForInStep.yield r)) = pure cl ∧
        (∀ x c, cl.lookup x = some c → env.cells.lookup x = some c) ∧ (∀ y ∈ names, y.2 = .free → cl.lookup y.1 = env.cells.lookup y.1) ∧ (∀ x, (∃ c, acc.lookup x = some c) → cl.lookup x = env.cells.lookup x) := by
    intro names
    induction names with
    | nil => intro acc _ ha; exact ⟨acc, rfl, ha, fun _ hy => (nomatch hy), fun x ⟨c, e⟩ => by rw [e, ha x c e]⟩
    | cons y r ih =>
      intro acc hn ha
      obtain ⟨n, k⟩ := y
      have hr : ∀ y ∈ r, y.2 = .free → ∃ c, env.cells.lookup y.1 = some c := fun y hy => hn y (List.mem_cons_of_mem _ hy)
      by_cases hk : k = .free
      · subst hk
        obtain ⟨c, hc⟩ := hn (n, .free) List.mem_cons_self rfl
        have ha' : ∀ x c', List.lookup x ((n, c) :: acc) = some c' → env.cells.lookup x = some c' := fun x c' e => by
          rw [List.lookup_cons] at e
          cases hb : x == n with
          | true => rw [hb] at e; cases e; rw [beq_iff_eq.mp hb]; exact hc
          | false => rw [hb] at e; exact ha x c' e
        obtain ⟨cl, e, h1, h2, h3⟩ := ih ((n, c) :: acc) hr ha'
        refine ⟨cl, ?_, h1, fun y hy hf => ?_, fun x hx => ?_⟩
        · rw [List.forIn_cons]
          simp only [cellOf, hc, beq_self_eq_true, if_true]
          exact e
        · rcases List.mem_cons.mp hy with rfl | hy
          · exact h3 n ⟨c, by rw [List.lookup_cons]; simp⟩
          · exact h2 y hy hf
        · refine h3 x ?_
          obtain ⟨c', e'⟩ := hx
          rw [List.lookup_cons]
          cases hb : x == n with
          | true => exact ⟨c, rfl⟩
          | false => exact ⟨c', e'⟩
      · obtain ⟨cl, e, h1, h2, h3⟩ := ih acc hr ha
        refine ⟨cl, ?_, h1, fun y hy hf => ?_, h3⟩
        · rw [List.forIn_cons]
          have hb : (k == NameKind.free) = false := by simpa using hk
          simp only [hb, Bool.false_eq_true, if_false]
          exact e
        · rcases List.mem_cons.mp hy with rfl | hy
          · exact absurd hf hk
          · exact h2 y hy hf
  obtain ⟨cl, e, h1, h2, _⟩ := key scope.names [] h (fun _ _ z => by simp at z)
  refine ⟨cl, ?_, h1, h2⟩
  show (forIn scope.names [] _ >>= fun r => pure r) = pure cl
  have e' : (forIn (m := Sem) scope.names [] fun (x : Str × NameKind) (r : List (Str × Addr)) => match x with | (name, kind) => if (kind == .free) = true then (do let a ← cellOf env name; pure (ForInStep.yield ((name, a) :: r))) else pure (ForInStep.yield r)) = pure cl := e
  first
    | (rw [e']; rfl)
    | (simp only [e']; rfl)
theorem cellsFrom_app : ∀ (names : List (Str × NameKind)) (n : Nat) (acc : List (Str × Addr)), cellsFrom n names acc = cellsFrom n names [] ++ acc
  | [], _, _ => rfl
  | (name, kind) :: r, n, acc => by
    unfold cellsFrom
    split
    · rw [cellsFrom_app r (n + 1) ((name, n) :: acc), cellsFrom_app r (n + 1) [(name, n)], List.append_assoc]; rfl
    · exact cellsFrom_app r n acc
theorem lookup_app {α : Type} {x : Str} : ∀ {l r : List (Str × α)}, (l ++ r).lookup x = match l.lookup x with | some c => some c | none => r.lookup x
  | [], _ => rfl
  | (k, v) :: l, r => by
    rw [List.cons_append, List.lookup_cons, List.lookup_cons]
    cases x == k with
    | true => rfl
    | false => exact lookup_app (l := l)
noncomputable def compEnv (scope : Scope) (cs : List (Str × Addr)) (C : Addr) (env : Env) : Env :=
  { scope := relabel scope env, locals := C, globals := env.globals, cells := cs, qual := env.qual, func := none, code := env.code, frame := env.frame, builtins := env.builtins }
theorem wpAny_compEnv {M : Model} {A : Around} {E : Value → Shared → Prop} {s : Shared} {scope : Scope} {globals : Addr} {cl : List (Str × Addr)} {qual : Str} {env : Env} {Q : Env → Shared → Prop}
    (hQ : ∀ (own : List (Str × Addr)) (s' : Shared), own = cellsFrom (s.heap.objs.size + 1) scope.names [] → s' = { s with heap := s'.heap } → (∀ b o, s.heap.get? b = some o → s'.heap.get? b = some o) →
      s'.heap.Ns s.heap.objs.size (fun _ => none) → (∀ n c, (n, c) ∈ own → s'.heap.IsCell c none ∧ s.heap.objs.size + 1 ≤ c) → (own.Pairwise fun x y => x.2 ≠ y.2) →
      Q { scope := scope, locals := s.heap.objs.size, globals := globals, cells := own ++ cl, qual := qual, func := none, code := env.code, frame := env.frame, builtins := env.builtins } s') :
    wpAny M A (newFunctionEnv scope globals cl [] qual none .none (some env)) Q E s := by
  simp only [newFunctionEnv, Option.isSome_some, if_true]
  refine wpAny_bind (wpAny_alloc ?_)
  refine wpAny_bind (wpAny_layCells _ (fun name kind cells => by cases hkc : kind == NameKind.cell <;> simp [hkc]) _ _ _ _ ?_)
  have ok := cellsFrom_ok scope.names (s.heap.push { cls := .type "dict", data := .dict #[] }) (s.heap.objs.size + 1) [] ⟨fun _ _ hm => (nomatch hm), List.Pairwise.nil⟩ (by rw [Heap.size_push]; exact Nat.le_refl _)
  rw [Heap.size_push] at ok
  rw [show ({ s with heap := s.heap.push { cls := .type "dict", data := .dict #[] } } : Shared).heap.objs.size = s.heap.objs.size + 1 from Heap.size_push ..]
  rw [cellsFrom_app]
  have fin := hQ _ { s with heap := pushCells (s.heap.push { cls := .type "dict", data := .dict #[] }) scope.names } rfl rfl (fun b o e => pushCells_keeps _ _ b o (Heap.get?_push_of_some _ e))
    ((Heap.Ns.new s.heap (.type "dict")).keeps (pushCells_keeps _ _)) ok.empty ok.apart
  exact wpAny_bind (wpAny_pure (wpAny_pure fin))

theorem lookup_relabel_free {env : Env} : ∀ {names : List (Str × NameKind)} {x : Str}, names.lookup x = some .free →
    (names.map fun (n, k) => if (k == NameKind.free && env.scope.kind == .function && env.kindOf n == some .cell) then (n, NameKind.cell) else (n, k)).lookup x = some .cell ∨
    (names.map fun (n, k) => if (k == NameKind.free && env.scope.kind == .function && env.kindOf n == some .cell) then (n, NameKind.cell) else (n, k)).lookup x = some .free
  | [], _, h => by simp at h
  | (n, k) :: r, x, h => by
    have ih := @lookup_relabel_free env r x
    show List.lookup x ((if (k == NameKind.free && env.scope.kind == .function && env.kindOf n == some .cell) = true then (n, NameKind.cell) else (n, k)) :: _) = _ ∨ List.lookup x ((if (k == NameKind.free && env.scope.kind == .function && env.kindOf n == some .cell) = true then (n, NameKind.cell) else (n, k)) :: _) = _
    by_cases hc : (k == NameKind.free && env.scope.kind == .function && env.kindOf n == some .cell) = true
    · rw [if_pos hc]
      cases hx : x == n with
      | true => left; simp [List.lookup_cons, hx]
      | false => simp only [List.lookup_cons, hx] at h ⊢; exact ih h
    · rw [if_neg hc]
      cases hx : x == n with
      | true => simp only [List.lookup_cons, hx] at h ⊢; exact .inr h
      | false => simp only [List.lookup_cons, hx] at h ⊢; exact ih h
theorem lookup_relabel_cell {env : Env} : ∀ {names : List (Str × NameKind)} {x : Str}, (names.map fun (n, k) => if (k == NameKind.free && env.scope.kind == .function && env.kindOf n == some .cell) then (n, NameKind.cell) else (n, k)).lookup x = some .cell ∨
    (names.map fun (n, k) => if (k == NameKind.free && env.scope.kind == .function && env.kindOf n == some .cell) then (n, NameKind.cell) else (n, k)).lookup x = some .free → names.lookup x = some .cell ∨ names.lookup x = some .free
  | [], _, h => by simp at h
  | (n, k) :: r, x, h => by
    have ih := @lookup_relabel_cell env r x
    have h' : List.lookup x ((if (k == NameKind.free && env.scope.kind == .function && env.kindOf n == some .cell) = true then (n, NameKind.cell) else (n, k)) :: (r.map fun (n, k) => if (k == NameKind.free && env.scope.kind == .function && env.kindOf n == some .cell) then (n, NameKind.cell) else (n, k))) = some .cell ∨
      List.lookup x ((if (k == NameKind.free && env.scope.kind == .function && env.kindOf n == some .cell) = true then (n, NameKind.cell) else (n, k)) :: (r.map fun (n, k) => if (k == NameKind.free && env.scope.kind == .function && env.kindOf n == some .cell) then (n, NameKind.cell) else (n, k))) = some .free := h
    clear h
    by_cases hc : (k == NameKind.free && env.scope.kind == .function && env.kindOf n == some .cell) = true
    · have hk : k = .free := by
        rw [Bool.and_eq_true, Bool.and_eq_true] at hc
        exact beq_iff_eq.mp hc.1.1
      subst hk
      rw [if_pos hc] at h'
      cases hx : x == n with
      | true => right; simp [List.lookup_cons, hx]
      | false => simp only [List.lookup_cons, hx] at h' ⊢; exact ih h'
    · rw [if_neg hc] at h'
      cases hx : x == n with
      | true => simp only [List.lookup_cons, hx] at h' ⊢; exact h'
      | false => simp only [List.lookup_cons, hx] at h' ⊢; exact ih h'
theorem lookup_relabel_own {env : Env} : ∀ {names : List (Str × NameKind)} {x : Str}, names.lookup x = some .cell →
    (names.map fun (n, k) => if (k == NameKind.free && env.scope.kind == .function && env.kindOf n == some .cell) then (n, NameKind.cell) else (n, k)).lookup x = some .cell
  | [], _, h => by simp at h
  | (n, k) :: r, x, h => by
    have ih := @lookup_relabel_own env r x
    show List.lookup x ((if (k == NameKind.free && env.scope.kind == .function && env.kindOf n == some .cell) = true then (n, NameKind.cell) else (n, k)) :: _) = _
    by_cases hc : (k == NameKind.free && env.scope.kind == .function && env.kindOf n == some .cell) = true
    · rw [if_pos hc]
      cases hx : x == n with
      | true => simp [List.lookup_cons, hx]
      | false => simp only [List.lookup_cons, hx] at h ⊢; exact ih h
    · rw [if_neg hc]
      cases hx : x == n with
      | true => simp only [List.lookup_cons, hx] at h ⊢; exact h
      | false => simp only [List.lookup_cons, hx] at h ⊢; exact ih h
theorem own_mem {names : List (Str × NameKind)} : ∀ {n : Nat} {acc : List (Str × Addr)} {x : Str} {c : Addr}, (x, c) ∈ cellsFrom n names acc → (x, .cell) ∈ names ∨ (x, c) ∈ acc := by
  induction names with
  | nil => intro n acc x c h; exact .inr h
  | cons y r ih =>
    intro n acc x c h
    obtain ⟨nm, k⟩ := y
    unfold cellsFrom at h
    split at h
    · rename_i hk
      rcases ih h with h | h
      · exact .inl (List.mem_cons_of_mem _ h)
      · rcases List.mem_cons.mp h with e | h
        · cases e
          rw [beq_iff_eq.mp hk]; exact .inl List.mem_cons_self
        · exact .inr h
    · rcases ih h with h | h
      · exact .inl (List.mem_cons_of_mem _ h)
      · exact .inr h
theorem nodup_lookup {names : List (Str × NameKind)} (nd : (names.map (·.1)).Nodup) {x : Str} {k : NameKind} (h : (x, k) ∈ names) : names.lookup x = some k := by
  induction names with
  | nil => cases h
  | cons y r ih =>
    obtain ⟨n, k'⟩ := y
    rw [List.map_cons, List.nodup_cons] at nd
    rw [List.lookup_cons]
    rcases List.mem_cons.mp h with e | hm
    · cases e; simp
    · have hne : x ≠ n := fun e => nd.1 (List.mem_map.mpr ⟨(x, k), hm, e⟩)
      have hb : (x == n) = false := by simpa using hne
      rw [hb]; exact ih nd.2 hm

noncomputable def compCx (X : Cx) (scope : Scope) (Ni : List Str) (cs : List (Str × Addr)) (s₃ : Shared) (H₃ : Hp) (fp : List Addr) (pins : List (Addr × Obj)) : Cx :=
  { X with N := Ni, s₀ := s₃, H₀ := H₃, env := compEnv scope cs s₃.heap.objs.size X.env, outer := X.stack, stack := X.stack, ex := fp, fn := fun y => decide (scope.names.lookup y = some .cell), pn := X.pn ++ pins, xe := fun _ _ => False }
set_option genInjectivity false in
set_option genSizeOf false in
structure CompScope (X : Cx) (scope : Scope) (Ni : List Str) (caps : List (Option Nat)) : Prop where
  kind : scope.kind = .function
  ndn : (scope.names.map (·.1)).Nodup
  free : ∀ y ∈ scope.names, y.2 = .free → X.env.kindOf y.1 = some .cell ∨ X.env.kindOf y.1 = some .free
  nd : Ni.Nodup
  len : caps.length = Ni.length
  cap : ∀ (i : Nat) (y : Str) (j : Nat), Ni[i]? = some y → caps[i]? = some (some j) → X.N[j]? = some y ∧ scope.names.lookup y = some .free
noncomputable def compChk (so : Scope) (No : List Str) (scope : Scope) (Ni : List Str) (caps : List (Option Nat)) : Bool :=
  (scope.kind == .function) && decide ((scope.names.map (·.1)).Nodup) && (scope.names.all fun y => y.2 != .free || so.names.lookup y.1 == some .cell || so.names.lookup y.1 == some .free) &&
  decide Ni.Nodup && (caps.length == Ni.length) && ((Ni.zip caps).all fun p => match p.2 with | none => true | some j => No[j]? == some p.1 && scope.names.lookup p.1 == some .free)
theorem compScope_of {X : Cx} {scope : Scope} {Ni : List Str} {caps : List (Option Nat)} (h : compChk X.env.scope X.N scope Ni caps = true) : CompScope X scope Ni caps := by
  unfold compChk at h
  simp only [Bool.and_eq_true] at h
  obtain ⟨⟨⟨⟨⟨h1, h2⟩, h3⟩, h4⟩, h5⟩, h6⟩ := h
  refine ⟨beq_iff_eq.mp h1, of_decide_eq_true h2, fun y hy hf => ?_, of_decide_eq_true h4, beq_iff_eq.mp h5, fun i y j e1 e2 => ?_⟩
  · have q := List.all_eq_true.mp h3 y hy
    rw [Bool.or_eq_true, Bool.or_eq_true] at q
    rcases q with (q | q) | q
    · rw [hf] at q; simp at q
    · exact .inl (beq_iff_eq.mp q)
    · exact .inr (beq_iff_eq.mp q)
  · have hm : (y, some j) ∈ Ni.zip caps := by
      refine List.mem_of_getElem? (i := i) ?_
      rw [List.getElem?_zip_eq_some]; exact ⟨e1, e2⟩
    have q := List.all_eq_true.mp h6 _ hm
    simp only [Bool.and_eq_true] at q
    exact ⟨beq_iff_eq.mp q.1, beq_iff_eq.mp q.2⟩
noncomputable def capSt (caps : List (Option Nat)) (σ : St) : St := caps.map fun o => match o with | some j => (σ[j]?).getD none | none => none
section
variable {X : Cx}
set_option genInjectivity false in
set_option genSizeOf false in
structure CompAt (X : Cx) (scope : Scope) (own cl : List (Str × Addr)) (s₃ : Shared) : Prop where
  oeq : own = cellsFrom (s₃.heap.objs.size + 1) scope.names []
  apart : own.Pairwise fun x y => x.2 ≠ y.2
  above : ∀ n c, (n, c) ∈ own → s₃.heap.objs.size + 1 ≤ c
  sub : ∀ x c, cl.lookup x = some c → X.env.cells.lookup x = some c
  all : ∀ y ∈ scope.names, y.2 = .free → cl.lookup y.1 = X.env.cells.lookup y.1
theorem CompAt.look {scope : Scope} {own cl : List (Str × Addr)} {s₃ : Shared} (T : CompAt X scope own cl s₃) {x : Str} {c : Addr} (h : (own ++ cl).lookup x = some c) : (x, c) ∈ own ∨ X.env.cells.lookup x = some c := by
  rw [lookup_app] at h
  cases e : own.lookup x with
  | some c' => rw [e] at h; cases h; exact .inl (mem_of_lookup e)
  | none => rw [e] at h; exact .inr (T.sub x c h)
theorem cells_lt {pins : List (Addr × Obj)} {σ : St} {H : Hp} {s : Shared} (I : Inv X pins σ H s) {x : Str} {c : Addr} (h : X.env.cells.lookup x = some c) : c < s.heap.objs.size := by
  obtain ⟨v, o, ho, _⟩ := I.cell x c h
  exact Heap.lt_size ho
theorem comp_ok {scope : Scope} {Ni : List Str} {caps : List (Option Nat)} {own cl : List (Str × Addr)} {pins : List (Addr × Obj)} {σ : St} {H₃ : Hp} {s₃ : Shared} {fp : List Addr}
    (S : CompScope X scope Ni caps) (T : CompAt X scope own cl s₃) (I : Inv X pins σ H₃ s₃) (f : ∀ b ∈ fp, FpOk X pins H₃ b) (hf : ∀ b ∈ fp, b < s₃.heap.objs.size) : (compCx X scope Ni (own ++ cl) s₃ H₃ fp pins).Ok where
  mod := I.ok.mod
  kind := S.kind
  glob := I.ok.glob
  blt := I.ok.blt
  above := Nat.le_refl _
  inj := fun x y c h1 h2 => by
    rcases T.look h1 with a | a
    · rcases T.look h2 with b | b
      · exact name_of_addr T.apart a b
      · exact absurd (Nat.lt_of_lt_of_le (cells_lt I b) (Nat.le_of_succ_le (T.above x c a))) (Nat.lt_irrefl _)
    · rcases T.look h2 with b | b
      · exact absurd (Nat.lt_of_lt_of_le (cells_lt I a) (Nat.le_of_succ_le (T.above y c b))) (Nat.lt_irrefl _)
      · exact I.ok.inj x y c a b
  has := fun x h => by
    have h' := lookup_relabel_cell (env := X.env) (names := scope.names) (x := x) h
    show ∃ c, (own ++ cl).lookup x = some c
    rw [lookup_app]
    cases e : own.lookup x with
    | some c => exact ⟨c, rfl⟩
    | none =>
      rcases h' with h' | h'
      · obtain ⟨c, ec⟩ := cell_has (n := s₃.heap.objs.size + 1) h'
        rw [← T.oeq, e] at ec; cases ec
      · have hm := mem_of_lookup h'
        obtain ⟨c, ec⟩ := I.ok.has x (S.free _ hm rfl)
        exact ⟨c, (T.all _ hm rfl).trans ec⟩
  cab := fun x c h1 h2 => by
    have hk : scope.names.lookup x = some .cell := of_decide_eq_true h1
    obtain ⟨c', ec⟩ := cell_has (n := s₃.heap.objs.size + 1) hk
    rw [← T.oeq] at ec
    have h2' : (own ++ cl).lookup x = some c := h2
    rw [lookup_app, ec] at h2'
    cases h2'
    have := T.above x _ (mem_of_lookup ec)
    show s₃.heap.objs.size ≤ _
    omega
  hd := I.ok.hd
  frames := I.ok.frames
  stk := .inl rfl
  exf := fun b hb => ⟨Nat.ne_of_lt (hf b hb), fun x c h => by
    rcases T.look h with a | a
    · exact fun e => absurd (Nat.lt_of_lt_of_le (hf b hb) (Nat.le_of_succ_le (e ▸ T.above x c a))) (Nat.lt_irrefl _)
    · exact (f b hb).2.2.2.2.1 x c a⟩
  bs := I.bs
  bsz := Nat.le_trans I.ok.bsz I.sz
  noex := fun b o e hb => by
    rcases (f b hb).2.2.2.1 with z | z
    · exact I.ok.noex b o e z
    · have h1 : b < X.base.objs.size := Heap.lt_size e
      have h2 := I.ok.bsz
      exact absurd (Nat.lt_of_lt_of_le h1 (Nat.le_trans h2 z)) (Nat.lt_irrefl _)
  exfs := fun b hb hm => by
    rcases List.mem_cons.mp (I.stkSub b hm) with z | z
    · exact (f b hb).2.1 z
    · exact (f b hb).2.2.1 z
  funs := I.stack
  frf := I.stkFree
theorem comp_start {scope : Scope} {Ni : List Str} {caps : List (Option Nat)} {own cl : List (Str × Addr)} {pins : List (Addr × Obj)} {σ : St} {H₃ : Hp} {s₃ s₄ : Shared} {fp : List Addr}
    (S : CompScope X scope Ni caps) (T : CompAt X scope own cl s₃) (I : Inv X pins σ H₃ s₃) (f : ∀ b ∈ fp, FpOk X pins H₃ b) (hf : ∀ b ∈ fp, b < s₃.heap.objs.size)
    (e4 : s₄ = { s₃ with heap := s₄.heap }) (k : ∀ b o, s₃.heap.get? b = some o → s₄.heap.get? b = some o) (ns : s₄.heap.Ns s₃.heap.objs.size fun _ => none) (oc : ∀ n c, (n, c) ∈ own → s₄.heap.IsCell c none) :
    Inv (compCx X scope Ni (own ++ cl) s₃ H₃ fp pins) [] (capSt caps σ) H₃ s₄ where
  ok := comp_ok S T I f hf
  os := by rw [e4]; rfl
  bare := by rw [e4]; exact I.bare
  base := Un.kept k
  loc := by
    refine ⟨_, ns, fun i x v h1 h2 h3 => ?_⟩
    have h2' : (capSt caps σ)[i]? = some (some v) := h2
    unfold capSt at h2'
    rw [List.getElem?_map] at h2'
    cases ec : caps[i]? with
    | none => rw [ec] at h2'; cases h2'
    | some o =>
      cases o with
      | none => rw [ec] at h2'; cases h2'
      | some j =>
        rw [ec] at h2'
        have h2'' : (σ[j]?).getD none = some v := Option.some.inj h2'
        have hj : σ[j]? = some (some v) := by
          cases e : σ[j]? with
          | none => rw [e] at h2''; cases h2''
          | some z => rw [e] at h2''; exact congrArg some h2''
        obtain ⟨hN, hfr⟩ := S.cap i x j h1 ec
        have hm := mem_of_lookup hfr
        have hk := S.free _ hm rfl
        obtain ⟨m, _, hl⟩ := I.loc
        obtain ⟨u, r, l⟩ := hl j x v hN hj (by rcases hk with z | z; exact .inr (.inl z); exact .inr (.inr z))
        refine ⟨u, r, .inr ⟨lookup_relabel_free hfr, ?_⟩⟩
        rcases l with ⟨z, _⟩ | ⟨_, c, hc, q⟩
        · have z' : X.env.kindOf x = some .local := z
          rcases hk with y | y <;> (have y' : X.env.kindOf x = _ := y; rw [z'] at y'; cases y')
        · refine ⟨c, ?_, q.keeps k⟩
          show (own ++ cl).lookup x = some c
          rw [lookup_app]
          cases eo : own.lookup x with
          | some c' =>
            rw [T.oeq] at eo
            rcases own_mem (mem_of_lookup eo) with y | y
            · have := nodup_lookup S.ndn y
              rw [hfr] at this; cases this
            · cases y
          | none => exact (T.all _ hm rfl).trans hc
  cell := fun x c h => by
    rcases T.look h with a | a
    · exact ⟨_, oc x c a⟩
    · obtain ⟨v, q⟩ := I.cell x c a
      exact ⟨v, q.keeps k⟩
  free := I.hok.fresh (Nat.le_refl _)
  freeC := fun x c h => by
    rcases T.look h with a | a
    · exact I.hok.fresh (by have := T.above x c a; omega)
    · exact I.freeC x c a
  pin := fun p hp => by
    have hp' : p ∈ X.pn ++ pins := by
      have : p ∈ (X.pn ++ pins) ++ [] := hp
      simpa using this
    obtain ⟨h1, h2, h3, h4, h5⟩ := I.pin p hp'
    refine ⟨k _ _ h1, h2, Nat.ne_of_lt (Heap.lt_size h1), fun z => ?_, h5⟩
    rcases List.mem_cons.mp (I.stkSub _ z) with y | y
    · exact h3 y
    · exact h4 y
  hok := I.hok.kept k
  len := by
    show (capSt caps σ).length = Ni.length
    unfold capSt; rw [List.length_map]; exact S.len
theorem comp_end {scope : Scope} {Ni : List Str} {cs : List (Str × Addr)} {pins : List (Addr × Obj)} {σ σ' : St} {H₃ H' : Hp} {s₃ s' : Shared} {fp : List Addr} (I : Inv X pins σ H₃ s₃) (f : ∀ b ∈ fp, FpOk X pins H₃ b)
    (J : Inv (compCx X scope Ni cs s₃ H₃ fp pins) [] σ' H' s') : Inv X pins σ H' s' := by
  have u : Un (frs X.stack) fp H₃ H' s₃.heap s'.heap := J.base
  have q := I.call (g' := s'.gens) (t' := s'.toks) (d' := s'.drawn) (ch := fp) u J.hok J.bare fun b hb => ⟨(f b hb).2.2.2.1, (f b hb).2.1, (f b hb).2.2.2.2.1, (f b hb).2.2.2.2.2⟩
  have e : ({ s₃ with heap := s'.heap, gens := s'.gens, drawn := s'.drawn, toks := s'.toks } : Shared) = s' := by
    have h1 : s'.os = s₃.os := J.os
    cases s'; cases s₃
    simp only at h1
    subst h1; rfl
  rw [e] at q
  exact q
noncomputable def PF (Y : Cx) (ifs : List Expr) (t : TT) : Prop := ∀ (pins : List (Addr × Obj)) (s : Shared) (σ : St) (H : Hp) (Q : Bool → Hp → Prop), Inv Y pins σ H s → t σ H Q →
  wpAny (model Y.prog Y.w) Y.A (forIn ifs true fun c r => if r = true then do let ok ← isTrue c Y.env (eval c Y.env); pure (ForInStep.yield ok) else pure (ForInStep.yield r)) (TP Y pins σ Q) Y.xe s
noncomputable abbrev tYes : TT := fun _ H T => T true H
theorem pf_nil {Y : Cx} : PF Y [] tYes := fun pins s σ H Q I h => wpAny_tests_nil ⟨H, I, h⟩
noncomputable def tComp (wi : TI) (caps : List (Option Nat)) (g : TG) (tf : TT) (te : TE) : TE := fun σ H Q => wi σ H fun J H1 => ∀ D, H1 D = none →
  ∃ W : Nat → Nat → St → Hp → Prop, (∃ m, W 0 m (capSt caps σ) (upd H1 D (.lst []))) ∧ ∀ i m σ' H', W i m σ' H' →
    (J.stop i H' ∧ Q (.ref D) H') ∨ (J.go i H' ∧ ∃ N : St → Hp → Prop, (∀ σ2 H2, N σ2 H2 → ∃ m', m' < m ∧ W (i + 1) m' σ2 H2) ∧
      ∀ x H2, J.yld i H' x H2 → g x σ' H2 fun σ1 H3 => tf σ1 H3 fun b H4 => if b = true then te σ1 H4 fun v H5 => rAppend (.ref D) [v] H5 fun _ H6 => N σ1 H6 else N σ1 H4)

theorem compLoop_own {P : Program} {w : World} {A : Around} {R : Result → Shared → Prop} {s0 : Shared} {elt tg iter : Expr} {tests : List Expr} {sc : Scope} {ps : Pos} {itv acc : Value} {en : Env} (J : Nat → Shared → Prop)
    (turn : ∀ n s, J n s → wpAny (model P w) A (pyNext itv) (fun r s1 => match r with | none => R (.ok .next) s1 | some v => wpAny (model P w) A (letOwnedTupleGo tg itv v) (fun _ s1' => wpAny (model P w) A (assign tg en v) (fun _ s2 =>
      wpAny (model P w) A (forIn tests true fun c r => if r = true then do let ok ← isTrue c en (eval c en); pure (ForInStep.yield ok) else pure (ForInStep.yield r)) (fun ok s3 => if ok = true then wpAny (model P w) A (eval elt en) (fun x s4 =>
        wpAny (model P w) A (call (.builtin "list.append") [acc, x]) (fun _ s5 => ∃ m, m < n ∧ J m s5) (notedBy (model P w) A en fun e s' => R (.error e) s') s4) (notedBy (model P w) A en fun e s' => R (.error e) s') s3
          else ∃ m, m < n ∧ J m s3) (notedBy (model P w) A en fun e s' => R (.error e) s') s2) (notedBy (model P w) A en fun e s' => R (.error e) s') s1') (notedBy (model P w) A en fun e s' => R (.error e) s') s1) (notedBy (model P w) A en fun e s' => R (.error e) s') s)
    (n0 : Nat) (j0 : J n0 s0) : codeAny (model P w) A (.compLoop (.ListComp elt [⟨tg, iter, tests, 0⟩] sc ps) 0 itv acc en) R s0 := by
  refine codeAny_loop rfl J (fun n s hJ => ?_) n0 j0
  show wpAny _ A ((compTurn (.ListComp elt [⟨tg, iter, tests, 0⟩] sc ps) 0 itv acc en).onRaise (fun x => do noteFrame x en; theTreesLotGoes x)) _ _ s
  refine wpAny_noted ?_
  rw [compTurn_list]
  refine wpAny_bind (wpAny_standAt (wpAny_bind (wpAny_mono (turn n s hJ) (fun r s1 h1 => ?_) fun _ _ z => z)))
  cases r with
  | none => exact wpAny_pure h1
  | some v =>
    refine wpAny_bind (wpAny_mono h1 (fun _ s1' h1' => wpAny_bind (wpAny_mono h1' (fun _ s2 h2 => wpAny_bind (wpAny_mono h2 (fun ok s3 h3 => ?_) fun _ _ z => z)) fun _ _ z => z)) fun _ _ z => z)
    cases ok with
    | false => exact wpAny_pure ⟨rfl, h3⟩
    | true =>
      exact wpAny_bind (wpAny_bind (wpAny_mono h3 (fun x s4 h4 => wpAny_bind (wpAny_mono h4 (fun _ s5 h5 => wpAny_pure (wpAny_pure ⟨rfl, h5⟩)) fun _ _ z => z)) fun _ _ z => z))
theorem comp_loop {Y : Cx} {elt iter : Expr} {tg : Expr} {ifs : List Expr} {scope : Scope} {pos : Pos} {it D : Addr} {fp : List Addr} {tn : Nat → Heap → Prop} {J : It} {g : TG} {tf : TT} {te : TE} {Q : VK} {R : Result → Shared → Prop}
    (T : Turn Y.prog Y.w Y.K tg J fp it tn) (hc : Y.calm = true) (gY : PG Y tg g) (hF : PF Y ifs tf) (hE : PE Y elt te) (fpY : ∀ {H' : Hp}, (∀ b ∈ fp, H' b = none) → ∀ b ∈ fp, FpOk Y [] H' b) (hx : ∀ e s, ¬ Y.xe e s)
    {W : Nat → Nat → St → Hp → Prop} (turn : ∀ i m σ' H', W i m σ' H' →
      (J.stop i H' ∧ Q (.ref D) H') ∨ (J.go i H' ∧ ∃ N : St → Hp → Prop, (∀ σ2 H2, N σ2 H2 → ∃ m', m' < m ∧ W (i + 1) m' σ2 H2) ∧
        ∀ x H2, J.yld i H' x H2 → g x σ' H2 fun σ1 H3 => tf σ1 H3 fun b H4 => if b = true then te σ1 H4 fun v H5 => rAppend (.ref D) [v] H5 fun _ H6 => N σ1 H6 else N σ1 H4))
    (fin : ∀ σ' H' s', Inv Y [] σ' H' s' → Q (.ref D) H' → R (.ok .next) s') {m0 : Nat} {σ0 : St} {H0 : Hp} {s0 : Shared} (I0 : Inv Y [] σ0 H0 s0) (st0 : tn 0 s0.heap) (fr0 : ∀ b ∈ fp, H0 b = none) (w0 : W 0 m0 σ0 H0) :
    codeAny (model Y.prog Y.w) Y.A (.compLoop (.ListComp elt [⟨tg, iter, ifs, 0⟩] scope pos) 0 (.ref it) (.ref D) Y.env) R s0 := by
  refine compLoop_own (fun n s' => ∃ i σ' H', Inv Y [] σ' H' s' ∧ tn i s'.heap ∧ (∀ b ∈ fp, H' b = none) ∧ W i n σ' H') ?_ m0 ⟨0, _, _, I0, st0, fr0, w0⟩
  rintro n s5 ⟨i, σ5, H5, I5, st5, fr5, w5⟩
  have noE : ∀ {α : Type} {t : Sem α} {Q1 : α → Shared → Prop} {E2 : Value → Shared → Prop} {s1 : Shared}, wpAny (model Y.prog Y.w) Y.A t Q1 Y.xe s1 → wpAny (model Y.prog Y.w) Y.A t Q1 E2 s1 :=
    fun h => wpAny_mono h (fun _ _ q => q) fun e s z => (hx e s z).elim
  rcases turn i n σ5 H5 w5 with ⟨stop, qn⟩ | ⟨go, N, hN, step⟩
  · refine thn (T.done Y rfl rfl rfl hc i [] s5 σ5 H5 _ I5 (fpY fr5) st5 stop) fun r s6 ⟨hr, I6⟩ => ?_
    subst hr
    exact fin σ5 H5 s6 I6 qn
  · refine thn (T.item Y rfl rfl rfl hc i [] s5 σ5 H5 _ I5 (fpY fr5) st5 go) fun r s6 ⟨u, hr, h6⟩ => ?_
    subst hr
    refine thn h6 fun _ s7 zz => ?_
    obtain ⟨x7, H7, I7, r7, y7, st7, fr7⟩ := zz
    have I7' := I7.pinned (fpY fr7) (T.obj _ _ st7)
    have again : ∀ {σ9 : St} {H9 : Hp} {s9 : Shared}, Inv Y ([] ++ pinsAt fp s7.heap) σ9 H9 s9 → N σ9 H9 → ∃ m, m < n ∧ ∃ i σ' H', Inv Y [] σ' H' s9 ∧ tn i s9.heap ∧ (∀ b ∈ fp, H' b = none) ∧ W i m σ' H' := fun {σ9 H9 s9} I9 n9 => by
      obtain ⟨m', hm, w9⟩ := hN σ9 H9 n9
      refine ⟨m', hm, i + 1, σ9, H9, I9.unpinned, T.keep _ _ _ st7 fun b hb o e => (I9.pin (b, o) (List.mem_append_right _ (List.mem_append_right _ (mem_pinsAt hb e)))).1, fun b hb => ?_, w9⟩
      obtain ⟨o, e, d⟩ := T.obj _ _ st7 b hb
      exact (I9.pin (b, o) (List.mem_append_right _ (List.mem_append_right _ (mem_pinsAt hb e)))).2.1
    refine noE (thn (gY _ s7 σ5 H7 x7 u _ I7' r7 (step x7 _ y7)) fun _ s8 zz => ?_)
    obtain ⟨σ8, H8, I8, q8⟩ := zz
    refine noE (thn (hF _ s8 _ _ _ I8 q8) fun b s9 ⟨H9, I9, q9⟩ => ?_)
    cases b with
    | false => exact again I9 q9
    | true =>
      refine noE (thn (hE _ s9 _ _ _ I9 q9) fun y s10 zz => ?_)
      obtain ⟨v10, H10, I10, r10, q10⟩ := zz
      refine noE (thn (mt_append (X := Y) _ s10 _ _ (.ref D) [v10] (.ref D) [y] _ I10 rfl (.cons r10 .nil) q10) fun _ s11 zz => ?_)
      obtain ⟨v11, H11, I11, _, q11⟩ := zz
      exact again I11 q11
theorem pg_nameC {scope : Scope} {Ni : List Str} {caps : List (Option Nat)} {x : Str} {px : Pos} {gi : Nat} {cs : List (Str × Addr)} {s₃ : Shared} {H₃ : Hp} {fp : List Addr} {pins : List (Addr × Obj)}
    (S : CompScope X scope Ni caps) (hx : scope.names.lookup x = some .local ∨ scope.names.lookup x = some .cell) (hgi : Ni[gi]? = some x) : PG (compCx X scope Ni cs s₃ H₃ fp pins) (.Name x px) (gName gi) := by
  rcases hx with hx | hx
  · exact pg_name S.nd hgi (.inl (lookup_relabel_local hx)) (.inr (lookup_relabel_local hx))
  · refine pg_name S.nd hgi ?_ (.inl (decide_eq_true hx))
    have : (relabel scope X.env).names.lookup x = some .cell := lookup_relabel_own hx
    exact .inr this
theorem comp_core {elt iter : Expr} {tg : Expr} {ifs : List Expr} {scope : Scope} {pos pos' : Pos} {wi : TI} {Ni : List Str} {caps : List (Option Nat)} {g : TG} {tf : TT} {te : TE}
    (hc : X.calm = true) (hi : PI X tg iter wi) (S : CompScope X scope Ni caps) (hG : CompScope X scope Ni caps → ∀ cs s₃ H₃ fp pins, PG (compCx X scope Ni cs s₃ H₃ fp pins) tg g)
    (hF : ∀ cs s₃ H₃ fp pins, PF (compCx X scope Ni cs s₃ H₃ fp pins) ifs tf) (hE : ∀ cs s₃ H₃ fp pins, PE (compCx X scope Ni cs s₃ H₃ fp pins) elt te)
    (hs : ∀ x, foldedSetIterable iter X.env x = pure x)
    {pins : List (Addr × Obj)} {s : Shared} {σ : St} {H : Hp} {Q : VK} (I : Inv X pins σ H s) (h : tComp wi caps g tf te σ H Q) {use : Option (Value → Sem Unit)} {R : Value → Shared → Prop}
    (fin : ∀ (D C : Addr) (H' : Hp) (s' : Shared) (m : Str → Option Value), Inv X pins σ H' s' → Q (.ref D) H' → s'.heap.Ns C m → H' C = none → X.s₀.heap.objs.size ≤ C → C ≠ X.env.locals → (∀ y c, X.env.cells.lookup y = some c → c ≠ C) → (∀ p ∈ X.pn ++ pins, p.1 ≠ C) →
      compPost (model X.prog X.w) X.A X.xe use R (.ref D) C (.ok .next) s') :
    wpAny (model X.prog X.w) X.A (comprehension (.ListComp elt [⟨tg, iter, ifs, 0⟩] scope pos) scope X.env pos' (newList []) false (eval iter X.env) use) R X.xe s := by
  obtain ⟨cl, hcl, hsub, hall⟩ := closureFor_all (env := X.env) (scope := scope) fun y hy hf => I.ok.has y.1 (S.free y hy hf)
  refine wpAny_comprehension_free rfl hs hcl S.kind (fun y hy hl => by obtain ⟨n, k⟩ := y; cases hl; exact nodup_lookup S.ndn hy) (thn (hi pins s σ H _ I h) fun v s1 h1 => thn h1 fun itv s2 h2 => ?_)
  obtain ⟨it, fp, tn, J, H2, e, I2, T, st2, f2, hW⟩ := h2
  subst e
  have I3 : Inv X pins σ (upd H2 s2.heap.objs.size (.lst [])) { s2 with heap := s2.heap.push { cls := .type "list", dict := none, data := .seq ([] : List Value).toArray }, toks := s2.toks } :=
    I2.laid (fun b u e => Heap.get?_push_of_some _ e) (Nat.le_refl _) ⟨Nat.zero_le _, [], _, .nil, Heap.get?_push_size _ rfl⟩
  have hD : H2 s2.heap.objs.size = none := I2.hok.fresh (Nat.le_refl _)
  obtain ⟨W, ⟨m0, w0⟩, turn⟩ := hW s2.heap.objs.size hD
  have st3 : tn 0 (s2.heap.push { cls := .type "list", dict := none, data := .seq ([] : List Value).toArray }) := T.keep _ _ _ st2 fun b _ o e => Heap.get?_push_of_some _ e
  have f3 : ∀ b ∈ fp, FpOk X pins (upd H2 s2.heap.objs.size (.lst [])) b := fun b hb => by
    obtain ⟨o, e, _⟩ := T.obj _ _ st2 b hb
    exact ⟨by rw [upd_ne (Nat.ne_of_lt (Heap.lt_size e))]; exact (f2 b hb).1, (f2 b hb).2⟩
  refine wpAny_newObj_type ?_
  generalize hs3 : ({ s2 with heap := s2.heap.push { cls := .type "list", dict := none, data := .seq ([] : List Value).toArray }, toks := s2.toks } : Shared) = s3 at I3
  have eh : s2.heap.push { cls := .type "list", dict := none, data := .seq ([] : List Value).toArray } = s3.heap := by rw [← hs3]
  rw [eh] at st3
  have hf3 : ∀ b ∈ fp, b < s3.heap.objs.size := fun b hb => by
    obtain ⟨o, e, _⟩ := T.obj _ _ st3 b hb
    exact Heap.lt_size e
  refine wpAny_compEnv fun own s4 eo e4 k4 ns4 oc4 ap4 => ?_
  have T4 : CompAt X scope own cl s3 := ⟨eo, ap4, fun n c hm => (oc4 n c hm).2, hsub, hall⟩
  have I4 := comp_start (Ni := Ni) (caps := caps) S T4 I3 f3 hf3 e4 k4 ns4 fun n c hm => (oc4 n c hm).1
  have st4 : tn 0 s4.heap := T.keep _ _ _ st3 fun b _ o e => k4 b o e
  have fpY : ∀ {H' : Hp}, (∀ b ∈ fp, H' b = none) → ∀ b ∈ fp, FpOk (compCx X scope Ni (own ++ cl) s3 (upd H2 s2.heap.objs.size (.lst [])) fp pins) [] H' b := fun hn b hb =>
    ⟨hn b hb, Nat.ne_of_lt (hf3 b hb), I4.ok.exfs b hb, .inl hb, (I4.ok.exf b hb).2, fun p hp => by
      have hp' : p ∈ X.pn ++ pins := by
        have : p ∈ (X.pn ++ pins) ++ [] := hp
        simpa using this
      exact (f3 b hb).2.2.2.2.2 p hp'⟩
  have loop := comp_loop (Q := Q) (elt := elt) (iter := iter) (scope := scope) (pos := pos) (R := compPost (model X.prog X.w) X.A X.xe use R (.ref s2.heap.objs.size) s3.heap.objs.size) (Y := compCx X scope Ni (own ++ cl) s3 (upd H2 s2.heap.objs.size (.lst [])) fp pins)
    T hc (hG S _ _ _ _ _) (hF _ _ _ _ _) (hE _ _ _ _ _) fpY (fun _ _ z => z) turn (fun σ' H' s' I6 qn => by
      have I6' := comp_end I3 f3 I6
      obtain ⟨m6, ns6, _⟩ := I6.loc
      exact fin _ _ H' s' m6 I6' qn ns6 I6.free I3.sz (Nat.ne_of_gt I3.lt) (fun y c hc' => Nat.ne_of_lt (cells_lt I3 hc')) fun p hp => Nat.ne_of_lt (Heap.lt_size (I3.pin p hp).1)) I4 st4 (fun b hb => (f3 b hb).1) w0
  exact codeAny_compStart_list loop (T.self _ _ _ _ _ st4 loop)
theorem pe_comp {elt iter : Expr} {tg : Expr} {ifs : List Expr} {scope : Scope} {pos : Pos} {wi : TI} {Ni : List Str} {caps : List (Option Nat)} {g : TG} {tf : TT} {te : TE}
    (hc : X.calm = true) (hi : PI X tg iter wi) (S : CompScope X scope Ni caps) (hG : CompScope X scope Ni caps → ∀ cs s₃ H₃ fp pins, PG (compCx X scope Ni cs s₃ H₃ fp pins) tg g)
    (hF : ∀ cs s₃ H₃ fp pins, PF (compCx X scope Ni cs s₃ H₃ fp pins) ifs tf) (hE : ∀ cs s₃ H₃ fp pins, PE (compCx X scope Ni cs s₃ H₃ fp pins) elt te)
    (hs : autoParam (∀ x, foldedSetIterable iter X.env x = pure x) Internal.aut3._auto_1) : PE X (.ListComp elt [⟨tg, iter, ifs, 0⟩] scope pos) (tComp wi caps g tf te) := by
  intro pins s σ H Q I h
  rw [eval_ListComp]
  refine comp_core hc hi S hG hF hE hs I h fun D C H' s' m I' q ns hn hC h1 h2 h3 => ?_
  refine ⟨m, ns, fun h' sb => ?_⟩
  exact ⟨.ref D, H', I'.turned (t' := s'.toks) (it := C) (fun b o hb e => (sb.2 b hb).trans e) hn h1 (.inr hC) h2 h3, rfl, q⟩
theorem ps_setC {i : Nat} {y : Str} {py : Pos} {elt iter : Expr} {tg : Expr} {ifs : List Expr} {scope : Scope} {pos spos : Pos} {wi : TI} {Ni : List Str} {caps : List (Option Nat)} {g : TG} {tf : TT} {te : TE}
    (hN : X.N.Nodup) (hyi : X.N[i]? = some y) (hy : X.env.scope.names.lookup y = some .local) (hc : X.calm = true) (hi : PI X tg iter wi) (S : CompScope X scope Ni caps) (hG : CompScope X scope Ni caps → ∀ cs s₃ H₃ fp pins, PG (compCx X scope Ni cs s₃ H₃ fp pins) tg g)
    (hF : ∀ cs s₃ H₃ fp pins, PF (compCx X scope Ni cs s₃ H₃ fp pins) ifs tf) (hE : ∀ cs s₃ H₃ fp pins, PE (compCx X scope Ni cs s₃ H₃ fp pins) elt te)
    (hsw : autoParam (swapsWith (.ListComp elt [⟨tg, iter, ifs, 0⟩] scope pos) (some (.Name y py)) spos.line X.env = pure true) Internal.aut2._auto_1)
    (hs : autoParam (∀ x, foldedSetIterable iter X.env x = pure x) Internal.aut3._auto_1) : PS X (.Assign [.Name y py] (.ListComp elt [⟨tg, iter, ifs, 0⟩] scope pos) spos) (tAsg (tComp wi caps g tf te) (gName i)) := by
  intro pins s σ H D I h
  rw [exec_Assign_Name_used _ _ _ _ hsw]
  refine wpAny_bind (wpAny_standAt (wpAny_bind ?_))
  show wpAny _ X.A (do let _ ← comprehension (.ListComp elt [⟨tg, iter, ifs, 0⟩] scope pos) scope X.env _ (newList []) false (eval iter X.env) (some (assign (.Name y py) X.env))) _ _ s
  refine wpAny_bind (wpAny_mono (comp_core (R := fun _ s' => SP X pins D .next s') hc hi S hG hF hE hs I h fun L C H' s' m I' q ns hn hC h1 h2 h3 => ?_) (fun _ s' hq => wpAny_pure (wpAny_pure hq)) fun _ _ e => e)
  show wpAny _ X.A (assign (.Name y py) X.env (.ref L)) _ _ _
  refine wpAny_assign_Name (store_ok2 (v := .ref L) I' hN hyi (.inl hy) rfl (fun s2 I2 sb2 => ?_) (.inr hy))
  obtain ⟨a, sb, ha⟩ := sb2
  have hCa : C ≠ a := by
    rcases ha with z | z
    · rw [z]; exact h1
    · exact fun w' => h2 y a z w'.symm
  refine ⟨m, ns.sameBut sb hCa, fun h' sb' => ?_⟩
  exact ⟨_, H', I2.turned (t' := s2.toks) (it := C) (fun b o hb e => (sb'.2 b hb).trans e) hn h1 (.inr hC) h2 h3, q⟩
end
end Internal

namespace My
noncomputable def gc (a b : Int) : Int := (Int.gcd a b : Int)
theorem gc_nonneg (a b : Int) : 0 ≤ gc a b := Int.natCast_nonneg _
theorem gc_comm (a b : Int) : gc a b = gc b a := by unfold gc; rw [Int.gcd_comm]
theorem gc_dvd_left (a b : Int) : gc a b ∣ a := Int.gcd_dvd_left a b
theorem gc_dvd_right (a b : Int) : gc a b ∣ b := Int.gcd_dvd_right a b
theorem dvd_gc {k a b : Int} (h1 : k ∣ a) (h2 : k ∣ b) : k ∣ gc a b := Int.dvd_coe_gcd h1 h2
theorem gc_pos_right {a b : Int} (h : b ≠ 0) : 0 < gc a b := by
  have := Int.gcd_pos_of_ne_zero_right a h
  unfold gc; omega
theorem gc_zero_right {a : Int} (h : 0 ≤ a) : gc a 0 = a := by unfold gc; rw [Int.gcd_zero_right]; omega
theorem gc_abs (a b : Int) : gc (if a < 0 then -a else a) (if b < 0 then -b else b) = gc a b := by
  unfold gc; split <;> split <;> simp [Int.gcd]
theorem gc_step {a b : Int} : gc b (a % b) = gc a b := by
  rw [gc_comm a b]
  refine Int.dvd_antisymm (gc_nonneg _ _) (gc_nonneg _ _) ?_ ?_
  · refine dvd_gc (gc_dvd_left b (a % b)) ?_
    have e : a = b * (a / b) + a % b := (Int.mul_ediv_add_emod a b).symm
    have := Int.dvd_add (Int.dvd_mul_of_dvd_left (c := a / b) (gc_dvd_left b (a % b))) (gc_dvd_right b (a % b))
    rwa [← e] at this
  · refine dvd_gc (gc_dvd_left b a) ?_
    rw [Int.emod_def]
    exact Int.dvd_sub (gc_dvd_right b a) (Int.dvd_mul_of_dvd_left (gc_dvd_left b a))
theorem gc_one_nat {a b : Int} (h : gc a b = 1) : a.gcd b = 1 := by unfold gc at h; omega
theorem low_unique {x y : Int} {q : Rat} (hy : 0 < y) (hg : gc x y = 1) (e : Rat.divInt x y = q) : x = q.num ∧ y = (q.den : Int) := by
  obtain ⟨d, rfl⟩ := Int.eq_ofNat_of_zero_le (Int.le_of_lt hy)
  have hc : x.natAbs.Coprime d := by
    have := gc_one_nat hg
    rw [Int.gcd_eq_natAbs_gcd_natAbs] at this
    exact this
  have hd : d ≠ 0 := by omega
  have : Rat.mk' x d hd hc = q := by rw [Rat.mk_eq_divInt]; exact e
  subst this
  exact ⟨rfl, rfl⟩
theorem gc_div {a b : Int} (h : b ≠ 0) : gc (a / gc a b) (b / gc a b) = 1 := by
  have hp := gc_pos_right (a := a) h
  unfold gc
  have := Int.gcd_ediv (a := a) (b := b) (c := (a.gcd b : Int)) (gc_dvd_left a b) (gc_dvd_right a b)
  rw [this]
  have hp' : 0 < a.gcd b := by unfold gc at hp; omega
  rw [Int.natAbs_natCast, Nat.div_self hp']; rfl
theorem divInt_reduce {a b c : Int} (hb : b ≠ 0) (ha : c ∣ a) (hc : c ∣ b) : Rat.divInt (a / c) (b / c) = Rat.divInt a b := by
  obtain ⟨x, rfl⟩ := ha
  obtain ⟨y, rfl⟩ := hc
  have hc0 : c ≠ 0 := by rintro rfl; simp at hb
  rw [Int.mul_ediv_cancel_left _ hc0, Int.mul_ediv_cancel_left _ hc0, Rat.divInt_mul_left hc0]
theorem part_pos {t b : Int} (hb : 0 < b) : t / gc t b = (Rat.divInt t b).num ∧ b / gc t b = ((Rat.divInt t b).den : Int) := by
  have hp := gc_pos_right (a := t) (b := b) (by omega)
  refine low_unique ?_ (gc_div (by omega)) (divInt_reduce (by omega) (gc_dvd_left _ _) (gc_dvd_right _ _))
  exact Int.ediv_pos_of_pos_of_dvd hb (by omega) (gc_dvd_right _ _)
theorem part_neg {t b : Int} (hb : b < 0) : t.fdiv (-gc t b) = (Rat.divInt t b).num ∧ b.fdiv (-gc t b) = ((Rat.divInt t b).den : Int) := by
  have d1 : -gc t b ∣ t := Int.neg_dvd.mpr (gc_dvd_left _ _)
  have d2 : -gc t b ∣ b := Int.neg_dvd.mpr (gc_dvd_right _ _)
  rw [Int.fdiv_eq_ediv_of_dvd d1, Int.fdiv_eq_ediv_of_dvd d2]
  have e := part_pos (t := -t) (b := -b) (by omega)
  have g : gc (-t) (-b) = gc t b := by unfold gc; simp [Int.gcd]
  rw [g, Rat.neg_divInt_neg] at e
  rw [Int.ediv_neg, Int.ediv_neg]
  rw [Int.neg_ediv_of_dvd (gc_dvd_left _ _), Int.neg_ediv_of_dvd (gc_dvd_right _ _)] at e
  exact e
end My

set_option Elab.async false
set_option linter.all false
set_option maxRecDepth 100000
namespace Internal
open PySem PySem.Spec PyProof.Rows
section
variable {K : PySem.W.Frag} {H : Hp} {Q : VK}
theorem x_isII {i : Int} (q : Q (.bl true) H) : rIsi K [.int i, .ty "int"] H Q := x_isi (t' := .type "int") (cv := .type "int") (b := true) rfl (.int i) (by with_unfolding_all rfl) q
theorem x_isIB {i : Int} (q : Q (.bl false) H) : rIsi K [.int i, .ty "bool"] H Q := x_isi (t' := .type "int") (cv := .type "bool") (b := false) rfl (.int i) (by with_unfolding_all rfl) q
end
noncomputable def spDiv : Sp := fun vs H Q _ => ∃ a b : Int, vs = [.int a, .int b] ∧ Q (.int (My.gc a b)) H
theorem spDiv_i {a b : Int} {H : Hp} {Q : VK} {E : XK} (q : Q (.int (My.gc a b)) H) : spDiv [.int a, .int b] H Q E := ⟨a, b, rfl, q⟩
theorem abs_nn (a : Int) : 0 ≤ if a < 0 then -a else a := by split <;> omega
theorem sz_gc_right {a b : Int} {n : Nat} (h : b ≠ 0) (hs : sz b ≤ n) : sz (My.gc a b) ≤ n := by
  refine Nat.le_trans (sz_mono ?_) hs
  have h1 := My.gc_pos_right (a := a) h
  obtain ⟨c, hc⟩ := My.gc_dvd_right a b
  have hc0 : c ≠ 0 := by rintro rfl; rw [Int.mul_zero] at hc; exact h hc
  have e : b.natAbs = (My.gc a b).natAbs * c.natAbs := by rw [← Int.natAbs_mul, ← hc]
  rw [e]
  exact Nat.le_mul_of_pos_right _ (by omega)
noncomputable def cell (ns : List Int) (k : Int) : Int := ns.getD k.toNat 0
noncomputable def IsQ (H : Hp) (a : Addr) (q : Rat) : Prop := H a = some (.tup [.int q.num, .int (q.den : Int)])
theorem IsQ.same {H H' : Hp} {a : Addr} {q : Rat} (h : IsQ H a q) (e : Same H H') : IsQ H' a q := e _ _ h
noncomputable def NewQ (H : Hp) (Q : VK) (q : Rat) : Prop := ∀ p H', Same H H' → IsQ H' p q → Q (.ref p) H'
theorem NewQ.mk {H : Hp} {Q : VK} {q : Rat} {x y : Int} (k : NewQ H Q q) (e : x = q.num ∧ y = (q.den : Int)) : rTup Q [.int x, .int y] H := by
  refine ⟨by show 2 ≤ sizeLine; decide, fun p hp => k p _ (Same.new hp _) ?_⟩
  rw [e.1, e.2]; exact upd_same
noncomputable def SzQ (q : Rat) (n m : Nat) : Prop := sz q.num ≤ n ∧ sz (q.den : Int) ≤ m
theorem SzQ.mono {q : Rat} {n m n' m' : Nat} (h : SzQ q n m) (h1 : n ≤ n') (h2 : m ≤ m') : SzQ q n' m' := ⟨Nat.le_trans h.1 h1, Nat.le_trans h.2 h2⟩
theorem szQ_div {t b : Int} {n m : Nat} (hb : 0 < b) (h1 : sz t ≤ n) (h2 : sz b ≤ m) : SzQ (Rat.divInt t b) n m := by
  have e := My.part_pos (t := t) hb
  unfold SzQ
  rw [← e.1, ← e.2]
  exact ⟨Nat.le_trans (sz_div _ _) h1, Nat.le_trans (sz_div _ _) h2⟩
noncomputable def spUnder (n : Nat) : Sp := fun vs H Q _ => ∃ (a b : Addr) (q r : Rat), vs = [.ref a, .ref b] ∧ IsQ H a q ∧ IsQ H b r ∧ SzQ q n n ∧ SzQ r n n ∧ Q (.bl (decide (q < r))) H
theorem spUnder_i {n : Nat} {a b : Addr} {q r : Rat} {H : Hp} {Q : VK} {E : XK} (h1 : IsQ H a q) (h2 : IsQ H b r) (s1 : SzQ q n n) (s2 : SzQ r n n) (k : Q (.bl (decide (q < r))) H) : spUnder n [.ref a, .ref b] H Q E := ⟨a, b, q, r, rfl, h1, h2, s1, s2, k⟩
theorem szL {i : Int} {n : Nat} (hn : 200 ≤ n) (h1 : -1606938044258990275541962092341162602522202993782792835301376 < i) (h2 : i < 1606938044258990275541962092341162602522202993782792835301376) : sz i ≤ n := Nat.le_trans (sz200 h1 h2) hn
end Internal

set_option Elab.async false
set_option linter.all false
set_option maxRecDepth 100000
namespace Internal
open PySem PySem.Spec PyProof.Rows
section
variable {σ : St} {H : Hp} {Q : VK} {D : Ends} {ta tb tc te to : TE} {t u : TS} {K : PySem.W.Frag}
noncomputable def ForK (J : It) (g : TG) (tb : TS) : TS := fun D σ H => ∃ W : Nat → Nat → St → Hp → Prop, (∃ m, W 0 m σ H) ∧ ∀ i m σ H, W i m σ H →
  (J.stop i H ∧ D.nx σ H) ∨ (J.go i H ∧ ∃ N : St → Hp → Prop, (∀ σ' H', N σ' H' → ∃ m', m' < m ∧ W (i + 1) m' σ' H') ∧ ∀ x H', J.yld i H x H' → g x σ H' fun σ2 H2 => tb { D with nx := N, ct := N, bk := D.nx } σ2 H2)
theorem x_for {wi : TI} {g : TG} {tb : TS} (q : wi σ H fun J H1 => ForK J g tb D σ H1) : tFor wi g tb D σ H := q
noncomputable def rRng1 (R : It → Hp → Prop) (vs : List V) (H : Hp) : Prop := ∃ j : Int, vs = [.int j] ∧ -(2 ^ 62) ≤ j ∧ j < 2 ^ 62 ∧ R (Itr 0 j.toNat) H
noncomputable def rItL (K : PySem.W.Frag) (R : It → Hp → Prop) (x : V) (H : Hp) : Prop := ∃ a, x = .ref a ∧ (∃ xs, SqL K H a xs) ∧ R (Itl K a) H
theorem x_rng1 {tr : TA} {R : It → Hp → Prop} (q : tr σ H (rRng1 R)) : iRng1 tr σ H R := q
theorem x_itL {R : It → Hp → Prop} (q : te σ H (rItL K R)) : iList K te σ H R := q
theorem x_rngk1 {R : It → Hp → Prop} {j : Int} (h1 : -4611686018427387904 ≤ j) (h2 : j < 4611686018427387904) (q : R (Itr 0 j.toNat) H) : rRng1 R [.int j] H := ⟨j, rfl, h1, h2, q⟩
theorem x_itk {R : It → Hp → Prop} {a : Addr} {xs : List V} (h : SqL K H a xs) (q : R (Itl K a) H) : rItL K R (.ref a) H := ⟨a, rfl, ⟨xs, h⟩, q⟩
theorem x_forR {lo : Int} {n : Nat} {g : TG} {tb : TS} (Pv : Nat → St → Hp → Prop) (h0 : Pv 0 σ H)
    (hs : ∀ i σ H, i < n → Pv i σ H → g (.int (lo + i)) σ H fun σ2 H2 => tb { D with nx := Pv (i + 1), ct := Pv (i + 1), bk := D.nx } σ2 H2) (hd : ∀ σ H, Pv n σ H → D.nx σ H) : ForK (Itr lo n) g tb D σ H := for_range Pv h0 hs hd
theorem x_forL {a : Addr} {xs : List V} {g : TG} {tb : TS} (Pv : Nat → St → Hp → Prop) (h0 : Pv 0 σ H) (hl : ∀ i σ H, i ≤ xs.length → Pv i σ H → SqL K H a xs)
    (hs : ∀ i x σ H, xs[i]? = some x → Pv i σ H → g x σ H fun σ2 H2 => tb { D with nx := Pv (i + 1), ct := Pv (i + 1), bk := D.nx } σ2 H2) (hd : ∀ σ H, Pv xs.length σ H → D.nx σ H) : ForK (Itl K a) g tb D σ H := for_list Pv h0 hl hs hd
theorem x_bm {T : String} {r : V → List V → Hp → VK → Prop} {tr : TA} (q : to σ H fun x H1 => tyV K T x H1 ∧ tr σ H1 fun xs H2 => r x xs H2 Q) : tBM K T r to tr σ H Q := q
theorem x_tyL {l : Addr} {xs : List V} {A : Prop} (h : H l = some (.lst xs)) (q : A) : tyV K "list" (.ref l) H ∧ A := ⟨.inl ⟨rfl, xs, SqL.of h⟩, q⟩
theorem x_append {l : Addr} {xs : List V} {y : V} (h : H l = some (.lst xs)) (hl : xs.length < sizeLine) (q : Q .non (upd H l (.lst (xs ++ [y])))) : rAppend (.ref l) [y] H Q := ⟨l, xs, y, rfl, rfl, h, hl, q⟩
theorem x_setL {l : Addr} {xs : List V} {k : Int} {j : Nat} {v : V} {R : Hp → Prop} (h : H l = some (.lst xs)) (e : ixN xs.length k = some j) (q : R (upd H l (.lst (xs.set j v)))) : rSetL (.ref l) (.int k) v H R := ⟨l, xs, k, j, rfl, rfl, h, e, q⟩
theorem x_listOf {a : Addr} {xs : List V} (h : SqL K H a xs) (q : ∀ l, H l = none → Q (.ref l) (upd H l (.lst xs))) : rListOf K [.ref a] H Q := ⟨a, xs, rfl, .inl h, q⟩
theorem x_ixLs {a : Addr} {xs : List V} {i : Int} {v : V} (h : H a = some (.lst xs)) (e : atI xs i = some v) (q : Q v H) : rIx K (.ref a) (.int i) H Q := x_ixL (.of h) e q
theorem x_sl {r : V → Option Int → Option Int → Hp → VK → Prop} {tl th : TO} (q : te σ H fun x H1 => tl σ H1 fun l H2 => th σ H2 fun u H3 => r x l u H3 Q) : tSl r te tl th σ H Q := q
noncomputable def rPart (R : Option Int → Hp → Prop) (x : V) (H : Hp) : Prop := ∃ i, x = .int i ∧ R (some i) H
theorem x_part {R : Option Int → Hp → Prop} (q : te σ H (rPart R)) : tPart te σ H R := q
theorem x_partI {R : Option Int → Hp → Prop} {i : Int} (q : R (some i) H) : rPart R (.int i) H := ⟨i, rfl, q⟩
theorem x_cut {a : Addr} {xs : List V} {lo hi : Option Int} (h : SqL K H a xs) (q : ∀ p, H p = none → Q (.ref p) (upd H p (.lst (cutV xs lo hi)))) : rSlL K (.ref a) lo hi H Q := ⟨a, xs, rfl, h, q⟩
end
theorem Same.fresh {H H' : Hp} {l : Addr} (g : Same H H') (h : H' l = none) : H l = none := by
  cases e : H l with
  | none => rfl
  | some o => rw [g l o e] at h; cases h
theorem small_of {n : Nat} (h : n ≤ 100000) : n < sizeLine := Nat.lt_of_le_of_lt h (by decide)
theorem small_le {n : Nat} (h : n ≤ 100000) : n ≤ sizeLine := Nat.le_of_lt (small_of h)
noncomputable def But (l : Addr) (H H' : Hp) : Prop := ∀ b, b ≠ l → H' b = H b
theorem But.upd {H : Hp} {l : Addr} {o : HO} : But l H (Internal.upd H l o) := fun _ h => upd_ne h
theorem But.at {l : Addr} {H H' : Hp} (g : But l H H') {a : Addr} {o : HO} (h : H a = some o) (n : a ≠ l) : H' a = some o := by rw [g a n]; exact h
theorem But.same {l : Addr} {H0 H H' : Hp} (g : But l H H') (e : Same H0 H) (h : H0 l = none) : Same H0 H' := fun b o q => by rw [g b (ne_of_none q h)]; exact e b o q
noncomputable def LBut (l : Addr) (H H' : Hp) : Prop := But l H H' ∧ ∃ xs, H l = some (.lst xs)
theorem LBut.tup {l : Addr} {H H' : Hp} (g : LBut l H H') {a : Addr} {xs : List V} (h : H a = some (.tup xs)) : H' a = some (.tup xs) := by
  obtain ⟨ys, e⟩ := g.2
  exact g.1.at h (ne_of h e (by intro z; cases z))
theorem LBut.lst {l : Addr} {H H' : Hp} (g : LBut l H H') {a : Addr} {o : HO} (h : H a = some o) (n : a ≠ l) : H' a = some o := g.1.at h n
theorem LBut.same {l : Addr} {H0 H H' : Hp} (g : LBut l H H') (e : Same H0 H) (h : H0 l = none) : Same H0 H' := g.1.same e h
theorem Same.at {H H' : Hp} (e : Same H H') {a : Addr} {o : HO} (h : H a = some o) : H' a = some o := e a o h
theorem Same.isQ {H H' : Hp} (e : Same H H') {a : Addr} {q : Rat} (h : IsQ H a q) : IsQ H' a q := h.same e
theorem SqL.keep {K : PySem.W.Frag} {H H' : Hp} {a : Addr} {xs : List V} (h : SqL K H a xs) (e : Same H H') : SqL K H' a xs := e.seq h
theorem Same.after {H H1 H2 : Hp} (b : Same H1 H2) (a : Same H H1) : Same H H2 := a.trans b
theorem Same.none {H H' : Hp} {l : Addr} (h : H' l = none) (g : Same H H') : H l = none := g.fresh h
theorem ne_new' {H : Hp} {a b : Addr} {o : HO} (h' : H b = none) (h : H a = some o) : b ≠ a := (ne_of_none h h').symm
section
variable {σ : St} {H : Hp} {Q : VK} {D : Ends} {t u : TS} {K : PySem.W.Frag}
theorem x_tupN {xs : List V} (hl : xs.length ≤ 100000) (q : ∀ p H', H p = none → Same H H' → H' p = some (.tup xs) → Q (.ref p) H') : rTup Q xs H := ⟨small_le hl, fun p hp => q p _ hp (Same.new hp _) upd_same⟩
theorem x_lstN {xs : List V} (hl : xs.length ≤ 100000) (q : ∀ p H', H p = none → Same H H' → H' p = some (.lst xs) → Q (.ref p) H') : rLst Q xs H := ⟨small_le hl, fun p hp => q p _ hp (Same.new hp _) upd_same⟩
theorem x_tupQ {q : Rat} {x y : Int} (e : x = q.num ∧ y = (q.den : Int)) (k : NewQ H Q q) : rTup Q [.int x, .int y] H := NewQ.mk k e
theorem x_appN {l : Addr} {xs : List V} {y : V} (h : H l = some (.lst xs)) (hl : xs.length ≤ 100000) (q : ∀ H', LBut l H H' → H' l = some (.lst (xs ++ [y])) → Q .non H') : rAppend (.ref l) [y] H Q :=
  x_append h (small_of hl) (q _ ⟨But.upd, xs, h⟩ upd_same)
theorem x_setN {l : Addr} {xs : List V} {k : Int} {j : Nat} {v : V} {R : Hp → Prop} (h : H l = some (.lst xs)) (e : ixN xs.length k = some j) (q : ∀ H', LBut l H H' → H' l = some (.lst (xs.set j v)) → R H') : rSetL (.ref l) (.int k) v H R :=
  x_setL h e (q _ ⟨But.upd, xs, h⟩ upd_same)
theorem x_listOfN {a : Addr} {xs : List V} (h : SqL K H a xs) (q : ∀ p H', H p = none → Same H H' → H' p = some (.lst xs) → Q (.ref p) H') : rListOf K [.ref a] H Q := x_listOf h fun p hp => q p _ hp (Same.new hp _) upd_same
theorem x_cutN {a : Addr} {xs : List V} {lo hi : Option Int} (h : SqL K H a xs) (q : ∀ p H', H p = none → Same H H' → H' p = some (.lst (cutV xs lo hi)) → Q (.ref p) H') : rSlL K (.ref a) lo hi H Q := x_cut h fun p hp => q p _ hp (Same.new hp _) upd_same
theorem x_midS (i : Nat) (P : V → Hp → Prop) (q : t { D with nx := fun σ' H' => ∃ v, σ' = σ.set i (some v) ∧ P v H' } σ H) (r : ∀ v H', P v H' → u D (σ.set i (some v)) H') : tMid t u D σ H :=
  ⟨_, q, fun σ' H' ⟨v, e, p⟩ => by subst e; exact r v H' p⟩
end
theorem ixN_lt {n : Nat} {k : Int} (h0 : 0 ≤ k) (h : k < n) : ixN n k = some k.toNat := by unfold ixN; rw [if_pos h0, if_pos h]
theorem atI_lt {α : Type} {xs : List α} {k : Int} {v : α} (h0 : 0 ≤ k) (h : xs[k.toNat]? = some v) : atI xs k = some v := by
  have e : k = (k.toNat : Int) := by omega
  rw [e]; exact atI_nat h
end Internal

set_option Elab.async false
set_option linter.all false
set_option maxRecDepth 100000
namespace Internal
open PySem PySem.Spec PyProof.Rows

theorem ObjOk.obj {P : Program} {w : World} {H : Hp} {h : Heap} {a : Addr} {o : HO} (x : ObjOk P w H h a o) : ∃ u, h.get? a = some u := by
  cases o with
  | lst xs => exact ⟨_, x.2.choose_spec.choose_spec.2⟩
  | tup xs => obtain ⟨_, _, _, ob, e, _⟩ := x; exact ⟨ob, e⟩
  | dK kvs => obtain ⟨_, _, _, _, ob, _, _, e, _⟩ := x; exact ⟨ob, e⟩
  | dT kvs => obtain ⟨_, _, _, _, ob, _, _, e, _⟩ := x; exact ⟨ob, e⟩
  | set S n => obtain ⟨ob, _, _, _, e, _⟩ := x; exact ⟨ob, e⟩
  | ins C dx fs => exact ⟨_, x.2.2.2.1⟩
  | own y => exact x
  | xd fs => obtain ⟨_, ⟨ob, _, _, e, _⟩, _⟩ := x; exact ⟨ob, e⟩
  | rng lo hi => obtain ⟨_, _, _, e⟩ := x; exact ⟨_, e⟩
  | frz ob u => exact ⟨ob, x.1⟩
  | tbl ps => exact ⟨_, show h.get? a = some _ from x⟩
  | met f y => exact ⟨_, show h.get? a = some _ from x⟩
  | ext φ => exact x.2.1

noncomputable def DK {α : Type} : Sem α → Prop
  | .pure _ => True
  | .raise _ => True
  | .unsupported _ => True
  | .finish _ => True
  | .rule _ k => DK (k ())
  | .at _ k => DK (k ())
  | .load _ _ k => ∀ o, DK (k o)
  | .update _ _ f k => (∀ o, (f o).dict = o.dict) ∧ DK (k ())
  | .alloc _ k => ∀ a, DK (k a)
  | .loadIfAlive _ k => ∀ o, DK (k o)
  | .point _ k => DK (k ())
  | .fresh k => ∀ t, DK (k t)
  | .ask k => ∀ t, DK (k t)
  | .handled _ k => ∀ t, DK (k t)
  | .stack k => ∀ t, DK (k t)
  | .thread k => ∀ t, DK (k t)
  | _ => False
theorem DK.bind {α β : Type} {m : Sem α} {f : α → Sem β} (hm : DK m) (hf : ∀ a, DK (f a)) : DK (m >>= f) := by
  show DK (Sem.bind m f)
  induction m with
  | pure a => exact hf a
  | raise e => trivial
  | unsupported w => trivial
  | finish e => trivial
  | rule t k ih => exact ih () hm
  | «at» p k ih => exact ih () hm
  | load a p k ih => exact fun o => ih o (hm o)
  | update a p g k ih => exact ⟨hm.1, ih () hm.2⟩
  | alloc o k ih => exact fun a => ih a (hm a)
  | loadIfAlive a k ih => exact fun a => ih a (hm a)
  | point l k ih => exact ih () hm
  | fresh k ih => exact fun a => ih a (hm a)
  | ask k ih => exact fun a => ih a (hm a)
  | handled o k ih => exact fun a => ih a (hm a)
  | stack k ih => exact fun a => ih a (hm a)
  | thread k ih => exact fun a => ih a (hm a)
  | _ => exact hm.elim
noncomputable def Bare (er : Addr) (s : Shared) : Prop := ∃ o, s.heap.objs[er]? = some o ∧ o.dict = none
theorem DK.wp {α : Type} {M : Model} {Γ : PySem.Ctx} {er : Addr} {t : Sem α} (h : DK t) : ∀ {Q : α → Pos → Shared → Prop} {E : Value → Pos → Shared → Prop} {p : Pos} {s : Shared}, Bare er s → Sem.wp M Γ t Q E p s →
    Sem.wp M Γ t (fun a p s' => Q a p s' ∧ Bare er s') (fun e p s' => E e p s' ∧ Bare er s') p s := by
  induction t with
  | pure a => intro Q E p s b w; rw [Sem.wp] at *; exact ⟨w, b⟩
  | raise e => intro Q E p s b w; rw [Sem.wp] at *; exact ⟨w, b⟩
  | unsupported _ => intro Q E p s b w; rw [Sem.wp] at *; exact w
  | finish _ => intro Q E p s b w; rw [Sem.wp] at *; exact w
  | rule t k ih => intro Q E p s b w; rw [Sem.wp] at *; exact ih () h b w
  | «at» q k ih => intro Q E p s b w; rw [Sem.wp] at *; exact ih () h b w
  | load a q k ih =>
    intro Q E p s b w; rw [Sem.wp] at *
    obtain ⟨o, e, w⟩ := w
    exact ⟨o, e, ih o (h o) b w⟩
  | update a q g k ih =>
    intro Q E p s b w; rw [Sem.wp] at *
    refine ⟨w.1, ih () h.2 ?_ w.2⟩
    obtain ⟨o, e, d⟩ := b
    by_cases c : a = er
    · subst c
      exact ⟨g o, by simp [Heap.update, Array.getElem?_modify, e], by rw [h.1]; exact d⟩
    · exact ⟨o, by simp [Heap.update, Array.getElem?_modify, c, e], d⟩
  | alloc o k ih =>
    intro Q E p s b w; rw [Sem.wp] at *
    refine ih _ (h _) ?_ w
    obtain ⟨o', e, d⟩ := b
    refine ⟨o', ?_, d⟩
    have hl : er < s.heap.objs.size := (Array.getElem?_eq_some_iff.mp e).1
    show (s.heap.objs.push o)[er]? = some o'
    rw [Array.getElem?_push]
    rw [if_neg (Nat.ne_of_lt hl)]; exact e
  | loadIfAlive a k ih => intro Q E p s b w; rw [Sem.wp] at *; exact ih _ (h _) b w
  | point l k ih => intro Q E p s b w; rw [Sem.wp] at *; exact ih () h b w
  | fresh k ih => intro Q E p s b w; rw [Sem.wp] at *; exact ih _ (h _) b w
  | ask k ih => intro Q E p s b w; rw [Sem.wp] at *; exact ih _ (h _) b w
  | handled o k ih => intro Q E p s b w; rw [Sem.wp] at *; exact ih _ (h _) b w
  | stack k ih => intro Q E p s b w; rw [Sem.wp] at *; exact ih _ (h _) b w
  | thread k ih => intro Q E p s b w; rw [Sem.wp] at *; exact ih _ (h _) b w
  | _ => exact h.elim
theorem DK.any {α : Type} {M : Model} {A : Around} {er : Addr} {t : Sem α} {Q : α → Shared → Prop} {E : Value → Shared → Prop} {s : Shared} (h : DK t) (b : Bare er s) (w : wpAny M A t Q E s) : wpAny M A t (fun a s' => Q a s' ∧ Bare er s') (fun e s' => E e s' ∧ Bare er s') s :=
  fun Γ p hΓ => h.wp b (w Γ p hΓ)
theorem Bare.get {er : Addr} {s : Shared} {o : Obj} (b : Bare er s) (e : s.heap.get? er = some o) : o.dict = none := by
  obtain ⟨o', e', d⟩ := b
  obtain ⟨e1, _⟩ := Heap.get?_some_iff.mp e
  rw [e'] at e1; cases e1; exact d
theorem mapFields_dict (f : Array Value → Array Value) (o : Obj) : (o.mapFields f).dict = o.dict := by
  obtain ⟨c, d, dt, sl⟩ := o; cases dt <;> rfl
theorem dk_load {a : Addr} : DK (load a) := fun _ => trivial
theorem dk_field (v : Value) (i : Nat) : DK (field v i) := by
  unfold field fieldsOf
  refine DK.bind ?_ fun x => ?_
  · cases v <;> try trivial
    refine DK.bind dk_load fun o => ?_
    split <;> trivial
  · split <;> trivial
theorem dk_setField (v : Value) (i : Nat) (x : Value) : DK (setField v i x) := by
  unfold setField updateField
  cases v <;> try trivial
  refine DK.bind dk_load fun o => ?_
  split
  · split
    · exact ⟨fun o => mapFields_dict _ o, trivial⟩
    · trivial
  · trivial
theorem dk_setFlight (e : Value) (f : Option Addr) : DK (setFlight e f) := by
  unfold setFlight
  refine DK.bind (dk_field _ _) fun tb => ?_
  split
  · exact dk_setField _ _ _
  · trivial
theorem dk_kept (env : Env) (i : Bool) (l : List Env) : DK (keptBack env i l) := by
  unfold keptBack
  cases l with
  | nil =>
    simp only
    split
    · trivial
    · refine DK.bind ?_ fun _ => trivial
      unfold underTheClaimsCaller
      exact fun _ => trivial
  | cons c r => trivial
theorem dk_behind (env : Env) (l : List Env) : DK (behindIsImport env l) := by
  unfold behindIsImport
  split
  · trivial
  · split
    · trivial
    · exact DK.bind (dk_field _ _) fun _ => trivial
theorem dk_ready : ∀ l : List Env, DK (readyFrames l)
  | [] => trivial
  | env :: outer => by
    unfold readyFrames
    split
    · refine DK.bind dk_load fun o => ?_
      split
      · trivial
      · refine DK.bind (dk_behind _ _) fun _ => DK.bind (dk_kept _ _ _) fun _ => DK.bind ⟨fun _ => rfl, trivial⟩ fun _ => dk_ready outer
    · trivial
theorem dk_frameObject (l : List Env) : DK (frameObject l) := by
  cases l with
  | nil => trivial
  | cons env outer => exact DK.bind (dk_ready _) fun _ => trivial
theorem dk_frameOf (env : Env) : DK (PySem.frameOf env) := by
  unfold PySem.frameOf frameEnvs
  refine DK.bind (DK.bind (fun _ => trivial) fun _ => trivial) fun _ => DK.bind (dk_frameObject _) fun o => ?_
  split <;> trivial
theorem dk_place (f : Addr) (b : Bool) : DK (entryPlaceOf f b) := by
  unfold entryPlaceOf
  refine DK.bind (fun _ => trivial) fun acts => ?_
  split <;> trivial
theorem dk_asIs (T : String) (d : Data) : DK (newObjAsIs (.type T) d) := by
  unfold newObjAsIs
  exact fun _ => trivial
theorem dk_rec (T : String) (vs : Array Value) : DK (newObj (.type T) (.fields vs)) := by
  unfold newObj
  simp only
  split
  · exact DK.bind (m := unsupported "record:memory") trivial fun _ => dk_asIs _ _
  · exact dk_asIs _ _
theorem dk_entry (a b c d e : Value) (pl : List Value) : DK (EntryCells.newEntry a b c d e pl) := dk_rec _ _
theorem dk_note (e : Value) (env : Env) : DK (noteFrame e env) := by
  unfold noteFrame
  have fin : ∀ (head : Value) (f : Addr), DK (do setField e 1 (← EntryCells.newEntry head (← frameOf env) .none (rawInt f) .none (← entryPlaceOf f (head != .none)))) := fun head f =>
    DK.bind (dk_frameOf _) fun _ => DK.bind (dk_place _ _) fun _ => DK.bind (dk_entry _ _ _ _ _ _) fun _ => dk_setField _ _ _
  split
  · refine DK.bind (dk_field _ _) fun head => ?_
    split
    · refine DK.bind (dk_field _ _) fun x => ?_
      split
      · trivial
      · exact DK.bind (dk_setField _ _ _) fun _ => fin _ _
    · exact fin _ _
  · trivial
theorem dk_leaving (env : Env) (e : Value) : DK (leaving env e) := DK.bind (dk_note _ _) fun _ => dk_setFlight _ _
set_option genInjectivity false in
set_option genSizeOf false in
structure Fly (P : Program) (w : World) (outer : List Env) (H : Hp) (s : Shared) (H' : Hp) (er C t : Addr) (B : Heap) (s' : Shared) : Prop where
  os : s'.os = s.os
  bare : AllBare s'.gens
  un : Un (frs outer) [] H H' s.heap s'.heap
  hok : HOk P w H' s'.heap
  fly : Heap.FlyingW B outer er (.ref C) (.ref t) s'.heap
  old : ∀ b o, s.heap.get? b = some o → H b = none → b ∉ frs outer → B.get? b = some o
  has : ∀ b o, s.heap.get? b = some o → b ∉ frs outer → ∃ u, B.get? b = some u
  trk : ∀ b o u, H' b = some o → s'.heap.get? b = some u → B.get? b = some u
  nod : Bare er s'
noncomputable def CXF (P : Program) (w : World) : CXT := fun outer H s E e s' => ∃ er C t B H', e = .ref er ∧ Fly P w outer H s H' er C t B s' ∧ E (.ref C) none H'
theorem nox_F {P : Program} {w : World} : NoX (CXF P w) := fun _ _ _ _ _ ⟨_, _, _, _, _, _, _, h⟩ => h

section
variable {P : Program} {w : World} {outer : List Env} {H H' : Hp} {s s' : Shared} {er C t : Addr} {B h : Heap}
theorem Fly.noTrk (F : Fly P w outer H s H' er C t B s') : H' er = none := by
  cases e : H' er with
  | none => rfl
  | some o =>
    obtain ⟨ob, q, _⟩ := F.fly.there
    have z := F.trk er o ob e q
    rw [F.fly.2.1] at z; cases z
theorem Fly.unAt (F : Fly P w outer H s H' er C t B s') (fr : s.heap.FunFrames base outer) (st : B.StaysIn h) (up : s'.heap.UpToSlots h) : Un (frs outer) [] H H' s.heap h where
  keep := fun b o q n hb _ => st b o (F.old b o q n hb)
  slot := fun b o q n hb _ => by
    obtain ⟨sl, e1⟩ := F.un.slot b o q n hb (by simp)
    obtain ⟨_, o', e', nf⟩ := fr.mem hb
    rw [q] at e'; cases e'
    obtain ⟨sl', e2⟩ := up b _ e1 nf
    exact ⟨sl', e2⟩
  free := F.un.free
  there := fun b o q _ => by
    by_cases hb : b ∈ frs outer
    · obtain ⟨_, o', e', nf⟩ := fr.mem hb
      rw [q] at e'; cases e'
      cases hn : H b with
      | none =>
        obtain ⟨sl, e1⟩ := F.un.slot b o q hn hb (by simp)
        obtain ⟨sl', e2⟩ := up b _ e1 nf
        exact ⟨_, e2⟩
      | some x =>
        obtain ⟨_, o1, e1, nf1⟩ := F.fly.2.2.1.mem hb
        obtain ⟨sl', e2⟩ := up b _ e1 nf1
        exact ⟨_, e2⟩
    · obtain ⟨u, e⟩ := F.has b o q hb
      exact ⟨u, st b u e⟩
  tups := F.un.tups
  frzs := F.un.frzs
  tbls := F.un.tbls
theorem Fly.hokAt (F : Fly P w outer H s H' er C t B s') (st : B.StaysIn h) : HOk P w H' h := fun a o e =>
  (F.hok a o e).stay (fun b u hb q => st b u (by
    rcases hb with rfl | hb
    · exact F.trk b o u e q
    · exact F.trk b _ u hb q)) (fun _ q => q) fun _ _ q => q
noncomputable def IsExc (er C : Addr) (h : Heap) : Prop := ∃ oe : Obj, PySem.W.InstAt h er oe C none
noncomputable def ExcAt (er C : Addr) : HO := .ext (IsExc er C)
theorem isExc_of {l : List Env} {a0 : Value} {B h : Heap} {s : Shared} {er C : Addr} (f : Heap.FlyingW B l er (.ref C) a0 h) (b : Bare er { s with heap := h }) : IsExc er C h := by
  obtain ⟨oe, vs, e, c, d, _⟩ := f.first
  have nd : oe.dict = none := b.get e
  exact ⟨oe, e, c, by unfold PySem.W.notCls; rw [d], by rw [nd]; trivial⟩
theorem Fly.unEr (F : Fly P w outer H s H' er C t B s') (u : Un (frs outer) [] H H' s.heap h) : Un (frs outer) [] H (upd H' er (ExcAt er C)) s.heap h := by
  have ne : ∀ b o, s.heap.get? b = some o → b ≠ er := fun b o q z => by
    subst z
    by_cases hb : b ∈ frs outer
    · obtain ⟨_, o1, e1, nf1⟩ := F.fly.2.2.1.mem hb
      obtain ⟨oe, vs, e2, _, d, _⟩ := F.fly.first
      rw [e1] at e2; cases e2
      exact nf1 vs d
    · obtain ⟨u, e⟩ := F.has b o q hb
      rw [F.fly.2.1] at e; cases e
  have nt := F.noTrk
  exact ⟨u.keep, u.slot, fun b o q n hx => by rw [upd_ne (ne b o q)]; exact u.free b o q n hx, u.there, fun b xs q => by
      rw [upd_ne (ne_of_none (u.tups b xs q) nt)]; exact u.tups b xs q, fun b o v q => by
      rw [upd_ne (ne_of_none (u.frzs b o v q) nt)]; exact u.frzs b o v q, fun b ps q => by
      obtain ⟨m, e⟩ := u.tbls b ps q
      exact ⟨m, by rw [upd_ne (ne_of_none e nt)]; exact e⟩⟩
theorem hok_er (hk : HOk P w H' h) (nt : H' er = none) (he : IsExc er C h) : HOk P w (upd H' er (ExcAt er C)) h := fun a o e => by
  by_cases ha : a = er
  · subst ha
    rw [upd_same] at e; cases e
    obtain ⟨oe, i⟩ := he
    refine ⟨⟨oe, i⟩, ⟨oe, i.at_⟩, fun h1 h2 ⟨o1, i1⟩ k => ⟨o1, k o1 i1.at_, i1.cls, i1.no, ?_⟩⟩
    have z := i1.dict
    cases hd : o1.dict with
    | none => trivial
    | some dx => rw [hd] at z; exact z.elim
  · rw [upd_ne ha] at e
    exact (hk a o e).stay (fun _ _ _ q => q) (fun b q => by rw [upd_ne (ne_of_none q nt)]; exact q) fun b xs q => by rw [upd_ne (ne_of_none q nt)]; exact q
end

noncomputable def bmV : List Value := [.type "ValueError", .type "Exception", .type "BaseException", .type "object"]
noncomputable def OwnErr (K : PySem.W.Frag) (C : Addr) : Prop := PySem.W.excIn K C bmV "ValueError.__new__" = true
theorem OwnErr.obj {K : PySem.W.Frag} {h : Heap} {C : Addr} (q : OwnErr K C) (X : K.In h) : ∃ bm N nm qn bs hd sn sub ab col dd k0 k1 k2 k3 k5 mN,
    h.get? C = some (excClassObj nm qn C N bs bm hd sn sub ab col dd k0 k1 k2 k3 k5 "ValueError.__new__") ∧ h.Ns N mN ∧ mN "__init__" = none ∧ OwnTail h bmV bm := by
  have q' : PySem.W.excIn K C bmV "ValueError.__new__" = true := q
  unfold PySem.W.excIn at q'
  split at q'
  · rename_i dd cd sl lk
    split at q'
    · rename_i C' bm k0 k1 k2 k3 nid k5 em es
      rw [Bool.and_eq_true, Bool.and_eq_true, Bool.and_eq_true, Bool.and_eq_true, Bool.and_eq_true] at q'
      obtain ⟨⟨⟨⟨⟨a1, a2⟩, a3⟩, a4⟩, a5⟩, a6⟩ := q'
      have b1 : C' = C := eq_of_beq a1
      have b2 : nid = "ValueError.__new__" := eq_of_beq a2
      have b3 : cd.hasDel = false := by simpa using a3
      have b6 := eq_of_beq a6
      have g := X C _ lk
      obtain ⟨nm, bs, mro, ns, qn, hd, sn, sub, ab, col, del⟩ := cd
      simp only at em b3 a5 b6
      subst em b3 b1 b2
      have hsl : sl = #[k0, k1, k2, k3, some (.builtin "ValueError.__new__"), k5] := by
        rw [← Array.toList_inj]; exact es
      subst hsl
      exact ⟨bm, ns, nm, qn, bs, hd, sn, sub, ab, col, dd, k0, k1, k2, k3, k5, _, g, Heap.Ns.of_isNs (PySem.W.isNs_of_in X a5), PySem.W.nsMap_none_of_in X a5 b6, PySem.W.tail_of_in X a4⟩
    · cases q'
  · cases q'
theorem exc_class {prog : Program} {w : World} {A : Around} {E : Value → Shared → Prop} {s : Shared} {K : PySem.W.Frag} {er C : Addr} {oe : Obj} {Q : Option Value → Shared → Prop}
    (ga : PySem.W.findIn K (.ref C) "__getattribute__" = some (some (.builtin "BaseException.__getattribute__"))) (gn : PySem.W.findIn K (.ref C) "__getattr__" = some none)
    (hf : PySem.W.findObj K C none "__class__" = some (.bind (.builtin "getset_descriptor.__get__") (.builtin "object.__class__"))) (mo : PySem.W.mroIn K C (.type "object") = some true) (be : PySem.W.mroIn K C (.type "BaseException") = some true)
    (X : K.In s.heap) (i : PySem.W.InstAt s.heap er oe C none) (q : Q (some (.ref C)) { s with toks := s.toks + 1 }) : wpAny (model prog w) A (getAttr? (.ref er) "__class__") Q E s := by
  obtain ⟨hh, g, d, t, os⟩ := s
  have L0 := i.type (M := model prog w)
  have L1 := PySem.W.looks_findIn (M := model prog w) X ga
  have Internal' := PySem.W.looks_findIn (M := model prog w) X gn
  have L3 := PySem.W.looks_find (M := model prog w) X i hf
  have L4 := PySem.W.looks_mroIn (M := model prog w) X be
  have f3 := PySem.F.attr_ValueError.ga.bind (.ref er)
  unfold getAttr? getAttrBy? getAttrBy
  refine wpAny_bind (wpAny_mkText (wpAny_bind (wpAny_attempt (wpAny_holding (wpAny_bind (L0.at (wpAny_bind (L1.at ?_))))))))
  show wpAny _ _ (getAttrByItsOwn _ _ _ _ _ _) _ _ _
  unfold getAttrByItsOwn hookBefore
  refine wpAny_bind (Internal'.at ?_)
  refine wpAny_bind (wpAny_attempt (wpAny_holding ?_))
  show wpAny _ _ (boundAndCalled _ _ _) _ _ _
  unfold boundAndCalled
  rw [f3]
  refine wpAny_bind (wpAny_pure ?_)
  refine wpAny_call (codeAny_call_builtin PySem.F.attr_ValueError.ga.plain PySem.F.entry_bexc_ga ?_)
  have hk : builtinKind "BaseException.__getattribute__" = some .slot := by decide +kernel
  have hsp : splitId "BaseException.__getattribute__" = some ("BaseException", "__getattribute__") := by decide +kernel
  simp only [checkBuiltinCall, hk, hsp]
  unfold isInstance
  refine wpAny_bind (wpAny_bind (L0.at (L4.at ?_)))
  simp only [Bool.not_true, Bool.false_eq_true, if_false]
  have ha := PySem.F.args_bexc_ga (.ref er) (.str "__class__" t)
  unfold argsOk at ha
  refine wpAny_of_eq (a := ()) ha ?_
  show wpAny _ _ (Builtin.«object.__getattribute__» _) _ _ _
  unfold Builtin.«object.__getattribute__»
  refine wpAny_bind (wpAny_pure ?_)
  refine wpAny_bind (wpAny_pure ?_)
  refine wpAny_bind (L0.at ?_)
  refine wpAny_bind (L3.at ?_)
  show wpAny _ _ (Builtin.ObjectAttr.bindTo _ _ _ _) _ _ _
  unfold Builtin.ObjectAttr.bindTo
  refine wpAny_bind (wpAny_holding (wpAny_call (PySem.W.class_get X i mo ?_)))
  exact wpAny_pure (PySem.W.handed_on rfl (wpAny_pure q))
noncomputable def errOk (K : PySem.W.Frag) (C : Addr) : Bool := PySem.W.excIn K C bmV "ValueError.__new__" && (PySem.W.findIn K (.ref C) "__getattribute__" == some (some (.builtin "BaseException.__getattribute__"))) && (PySem.W.findIn K (.ref C) "__getattr__" == some none) && (PySem.W.mroIn K C (.type "BaseException") == some true) && (PySem.W.clsIn K C).isSome && (PySem.W.findIn K (.ref C) "__class__" == some (some (.builtin "object.__class__"))) &&
  (PySem.W.specialIn K (.builtin "object.__class__") "__get__" == some (some (.builtin "getset_descriptor.__get__"))) && (PySem.W.takesIn K (.builtin "object.__class__") == some true) && (PySem.W.mroIn K C (.type "object") == some true)
theorem errOk.own {K : PySem.W.Frag} {C : Addr} (h : errOk K C = true) : OwnErr K C := by
  unfold errOk at h
  simp only [Bool.and_eq_true] at h
  exact h.1.1.1.1.1.1.1.1
theorem kitx_err {K : PySem.W.Frag} {er C : Addr} (h : errOk K C = true) : PySem.W.KitX K (.ref er) (.ref C) (IsExc er C) := by
  unfold errOk at h
  simp only [Bool.and_eq_true, beq_iff_eq] at h
  obtain ⟨⟨⟨⟨⟨⟨⟨⟨_, ga⟩, gn⟩, be⟩, cl⟩, fa⟩, sn⟩, tk⟩, mo⟩ := h
  obtain ⟨cd, hc⟩ := Option.isSome_iff_exists.mp cl
  have there : ∃ o : Obj, K.lookup C = some o ∧ o.data = .cls cd := by
    unfold PySem.W.clsIn at hc
    split at hc
    · rename_i lk; cases hc; exact ⟨_, lk, rfl⟩
    · cases hc
  obtain ⟨o, lk, dt⟩ := there
  refine ⟨fun M h _ ⟨oe, i⟩ => i.type, fun M h X _ A Q E s k q => ?_, fun h tp dd its n sl X e => ?_, fun {prog w A E Q s} X ⟨oe, i⟩ q => ?_⟩
  · have g := k _ _ (X _ _ lk)
    obtain ⟨oc, od, oda, osl⟩ := o
    simp only at dt
    subst dt
    unfold isType loadHead
    exact wpAny_bind (wpAny_loadPart g (wpAny_pure q))
  · rw [Bool.eq_false_iff]
    intro z
    have ec : C = tp := Value.ref.inj (beq_iff_eq.mp z)
    subst ec
    have g := X _ _ lk
    rw [e] at g; cases g; cases dt
  · have hf : PySem.W.findObj K C none "__class__" = some (.bind (.builtin "getset_descriptor.__get__") (.builtin "object.__class__")) := by
      unfold PySem.W.findObj
      rw [hc, Option.bind_some, fa, Option.bind_some]
      simp [sn, tk]
    exact exc_class ga gn hf mo be X i q
noncomputable def tRaise (C : Addr) (Ex : XK) (ta : TA) : TS := fun _ σ H => ta σ H fun vs H1 => vs.length ≤ sizeLine ∧ Ex (.ref C) none H1
noncomputable def Made (X : Cx) (C : Addr) (Ex : XK) : Prop := ∀ (pins : List (Addr × Obj)) (σ : St) (H : Hp) (s : Shared) (h' : Heap) (er : Addr) (args : List Value), Inv X pins σ H s → Heap.MadeExcOf s.heap h' er (.ref C) args → Ex (.ref C) none H → X.xe (.ref er) { s with heap := h' }
theorem ps_raise {X : Cx} {C : Addr} {x : Str} {np cpos pos : Pos} {e : Expr} {es : List Expr} {ta : TA} {Ex : XK} (hc : X.calm = true) (hg : Gl X x) (hm : X.mg x = some (.ref C)) (hX : OwnErr X.K C) (ha : PA X (e :: es) ta) (hl : Made X C Ex)
    (hdb : autoParam ((x == ("__debug__" : Str)) = false) Internal.aut1._auto_1) (he : autoParam (starEach (e :: es) X.env = (false, eval e X.env) :: starEach es X.env) Internal.aut2._auto_1) (hpl : autoParam ((backTo cpos (starEach es X.env)).any (·.1) = false) Internal.aut2._auto_1) :
    PS X (.Raise (some (.Call (.Name x np) (e :: es) [] cpos)) none pos) (tRaise C Ex ta) := by
  intro pins s σ H D I h
  obtain ⟨bm, N, nm, qn, bs, hd, sn, sub, ab, col, dd, k0, k1, k2, k3, k5, mN, g1, g2, g3, g4⟩ := hX.obj I.ok.mod.kin
  have pl : (backTo cpos (starEach (e :: es) X.env)).any (·.1) = false := by rw [he]; exact hpl
  refine wpAny_Raise_call_subT PySem.F.excBase_ValueError (C := C) (nm := nm) (q := qn) (N := N) (bs := bs) (hdct := hd) (sn := sn) (sub := sub) (ab := ab) (col := col) (dd := dd) (k0 := k0) (k1 := k1) (k2 := k2) (k3 := k3) (k5 := k5) (g4.hasType (by decide)) (I.ok.hd hc) pl g3 (ld_glob I hg hm ⟨rfl, ?_⟩ hdb)
  have run := ha cpos pins s σ H _ I h
  rw [he] at run ⊢
  refine Calls.evalArgs_plain (wpAny_mono run (fun us s1 q => ?_) fun _ _ z => z)
  obtain ⟨vs, H1, I1, r, z, ex⟩ := q
  exact ⟨rfl, by rw [← r.length]; exact z, I1.bk _ _ g1, g2.keeps I1.bk, g4.keeps I1.bk, fun h' er mk => hl pins σ H1 s1 h' er us I1 mk ex⟩
theorem made_F {P : Program} {w : World} {K : PySem.W.Frag} {mg : Str → Option Value} {base : Heap} {N : List Str} {qual : Str} {scope : Scope} {f : Addr} {cd : Value} {A : Around} {outer : List Env} {s : Shared} {H : Hp} {E : XK} {C : Addr} :
    Made (cxOf (CXF P w) P w K mg base N qual scope f cd A outer s H E) C E := by
  intro pins σ H1 s1 h' er args I mk ex
  have fr := I.stack
  have hin : ∀ env ∈ (envOfC qual scope s.heap.objs.size f cd :: outer), ∀ b, env.frame = some b → b ∈ frs (envOfC qual scope s.heap.objs.size f cd :: outer) := fun env he b hb => List.mem_filterMap.mpr ⟨env, he, hb⟩
  have sb : ∀ b o, (PySem.W.hideAll s1.heap (frs (envOfC qual scope s.heap.objs.size f cd :: outer))).get? b = some o → s1.heap.get? b = some o := fun b o q => PySem.W.of_hideAll _ q
  have inB : ∀ b o, s1.heap.get? b = some o → b ∉ frs (envOfC qual scope s.heap.objs.size f cd :: outer) → (PySem.W.hideAll s1.heap (frs (envOfC qual scope s.heap.objs.size f cd :: outer))).get? b = some o := fun b o q n => PySem.W.hideAll_get _ q n
  have nfr : ∀ b o, s.heap.get? b = some o → b ∉ frs outer → b ∉ frs (envOfC qual scope s.heap.objs.size f cd :: outer) := fun b o q n z => by
    rcases List.mem_cons.mp (show b ∈ s.heap.objs.size :: frs outer from z) with z | z
    · exact Nat.ne_of_lt (Heap.lt_size q) z
    · exact n z
  have trkB : ∀ b o u, H1 b = some o → s1.heap.get? b = some u → (PySem.W.hideAll s1.heap (frs (envOfC qual scope s.heap.objs.size f cd :: outer))).get? b = some u := fun b o u q e => inB b u e fun z => by
    have := I.stkFree b z
    rw [q] at this; cases this
  show wpAny (model P w) (A.deeper (envOfC qual scope s.heap.objs.size f cd)) (leaving (envOfC qual scope s.heap.objs.size f cd) (.ref er)) _ _ _
  have b0 : Bare er { s1 with heap := h' } := by
    obtain ⟨t, e, _⟩ := mk.there
    exact ⟨_, (Heap.get?_some_iff.mp e).1, rfl⟩
  refine wpAny_mono (DK.any (E := fun _ _ => False) (Q := fun _ s'' => Bare er s'' → CXF P w outer H s E (.ref er) s'') (dk_leaving _ _) b0 ?_) (fun _ s'' q => q.1 q.2) fun _ _ q => q.1.elim
  refine wpAny_leaves_madeW (L := s.heap.objs.size) (base := PySem.W.hideAll s1.heap (frs (envOfC qual scope s.heap.objs.size f cd :: outer))) (h := s1.heap) I.ok.frames rfl sb (PySem.W.funFrames_hide fr hin) mk fun h'' t fly _ _ up b1 => ?_
  refine ⟨er, C, t, _, H1, rfl, ⟨I.os, I.bare, ⟨fun b o q n hb _ => ?_, fun b o q n hb _ => ?_, fun b o q n _ => I.base.free b o q n (by simp [cxOf]), fun b o q _ => ?_, I.base.tups, I.base.frzs, I.base.tbls⟩, ?_, fly, fun b o q n hb => ?_, fun b o q hb => ?_, ?_, b1⟩, ex⟩
  · exact fly.1 b o (inB b o (I.base.keep b o q n hb (by simp [cxOf])) (nfr b o q hb))
  · obtain ⟨sl, e1⟩ := I.base.slot b o q n hb (by simp [cxOf])
    obtain ⟨_, o1, e2, nf⟩ := I.ok.funs.mem hb
    have e3 : s.heap.get? b = some o1 := e2
    rw [q] at e3; cases e3
    obtain ⟨sl', e4⟩ := up b _ (mk.keeps b _ e1) nf
    exact ⟨sl', e4⟩
  · by_cases hb : b ∈ frs outer
    · obtain ⟨_, o1, e1, _⟩ := fly.2.2.1.mem hb
      exact ⟨o1, e1⟩
    · obtain ⟨o1, e1⟩ := I.base.there b o q (by simp [cxOf])
      exact ⟨o1, fly.1 b o1 (inB b o1 e1 (nfr b o q hb))⟩
  · intro a o e
    exact (I.hok a o e).stay (fun b u hb q => fly.1 b u (by
      rcases hb with rfl | hb
      · exact trkB b o u e q
      · exact trkB b _ u hb q)) (fun _ q => q) fun _ _ q => q
  · exact inB b o (I.base.keep b o q n hb (by simp [cxOf])) (nfr b o q hb)
  · obtain ⟨o1, e1⟩ := I.base.there b o q (by simp [cxOf])
    exact ⟨o1, inB b o1 e1 (nfr b o q hb)⟩
  · intro b o u q e
    obtain ⟨u1, e1⟩ := (I.hok b o q).obj
    have z := fly.1 b u1 (trkB b o u1 q e1)
    have e' : h''.get? b = some u := e
    rw [z] at e'; cases e'
    exact trkB b o _ q e1

noncomputable abbrev Cx.inH (X : Cx) (er : Addr) : Cx := { X with A := X.A.mark (some (.ref er)), calm := false, xe := fun _ _ => False }
theorem Cx.Ok.inH {X : Cx} (ok : X.Ok) (er : Addr) : (X.inH er).Ok :=
  ⟨ok.mod, ok.kind, ok.glob, ok.blt, ok.above, ok.inj, ok.has, ok.cab, fun z => (by cases z), ok.frames, ok.stk, ok.exf, ok.bs, ok.bsz, ok.noex, ok.exfs, ok.funs, ok.frf⟩
section
variable {X : Cx} {pins : List (Addr × Obj)} {σ : St} {H H' : Hp} {s s' : Shared}
theorem Inv.inH (I : Inv X pins σ H s) (er : Addr) : Inv (X.inH er) pins σ H s := ⟨I.ok.inH er, I.os, I.bare, I.base, I.loc, I.cell, I.free, I.freeC, I.pin, I.hok, I.len⟩
theorem Inv.outH {er : Addr} (ok : X.Ok) (I : Inv (X.inH er) pins σ H s) : Inv X pins σ H s := ⟨ok, I.os, I.bare, I.base, I.loc, I.cell, I.free, I.freeC, I.pin, I.hok, I.len⟩
theorem unbind_ok {i : Nat} {n : Str} {pos : Pos} {Q : Unit → Shared → Prop} {E : Value → Shared → Prop} (I : Inv X pins σ H s) (hN : X.N.Nodup) (hi : X.N[i]? = some n) (hl : X.env.kindOf n = some .local) (q : ∀ s2, Inv X pins (σ.set i none) H s2 → Q () s2) :
    wpAny (model X.prog X.w) X.A (do bindName X.env n .none; unbindBehindTheSuite X.env n pos) Q E s := by
  obtain ⟨m, hn, lk⟩ := id I.loc
  obtain ⟨oL, _, _, hoL, _⟩ := id hn
  refine wpAny_nameGoes_keeps hl hn (by rw [I.ok.kind]; rfl) fun h' v hn' hs => q _ ?_
  have nL : ∀ b o, X.s₀.heap.get? b = some o → b ≠ X.env.locals := fun b o e => Nat.ne_of_lt (Nat.lt_of_lt_of_le (Heap.lt_size e) I.ok.above)
  refine ⟨I.ok, I.os, I.bare, ⟨fun b o e n hb hx => (hs.2 b (nL b o e)).trans (I.base.keep b o e n hb hx), fun b o e n hb hx => ?_, I.base.free, fun b o e hx => ?_, I.base.tups, I.base.frzs, I.base.tbls⟩, ⟨_, hn', fun j y v' e1 e2 e3 => ?_⟩, fun y c e => ?_, I.free, I.freeC, fun p hp => ?_, fun b ob e => ?_, by rw [List.length_set]; exact I.len⟩
  · obtain ⟨sl, e1⟩ := I.base.slot b o e n hb hx
    exact ⟨sl, (hs.2 b (nL b o e)).trans e1⟩
  · obtain ⟨o', e1⟩ := I.base.there b o e hx
    exact ⟨o', (hs.2 b (nL b o e)).trans e1⟩
  · by_cases hj : j = i
    · subst hj
      have hlt : j < σ.length := by rw [I.len]; exact (List.getElem?_eq_some_iff.mp hi).1
      rw [List.getElem?_set_self hlt] at e2
      cases e2
    · rw [List.getElem?_set_ne (Ne.symm hj)] at e2
      obtain ⟨u, r, z⟩ := lk j y v' e1 e2 e3
      refine ⟨u, r, ?_⟩
      have ny : y ≠ n := fun z => hj (nodup_ix hN e1 (z ▸ hi))
      rcases z with ⟨k, e⟩ | ⟨k, c, e, z⟩
      · exact .inl ⟨k, by show (if y = n then v else m y) = some u; rw [if_neg ny]; exact e⟩
      · exact .inr ⟨k, c, e, z.sameBut hs (I.cne y c e)⟩
  · obtain ⟨u, z⟩ := I.cell y c e
    exact ⟨u, z.sameBut hs (I.cne y c e)⟩
  · obtain ⟨e, n, ne, nf, d⟩ := I.pin p hp
    exact ⟨(hs.2 p.1 ne).trans e, n, ne, nf, d⟩
  · refine (I.hok b ob e).stay (fun c u hc q => (hs.2 c ?_).trans q) (fun _ q => q) fun _ _ q => q
    rintro rfl
    rcases hc with rfl | hc
    · have := I.free; rw [e] at this; cases this
    · have := I.free; rw [hc] at this; cases this
noncomputable def Ends.gone (D : Ends) (i : Nat) : Ends := ⟨fun σ H => D.nx (σ.set i none) H, D.rt, fun σ H => D.bk (σ.set i none) H, fun σ H => D.ct (σ.set i none) H⟩
theorem SP.gone {i : Nat} {D : Ends} {f : Flow} {er : Addr} (ok : X.Ok) (h : SP (X.inH er) pins (D.gone i) f s) : ∃ σ' H', Inv X pins σ' H' s ∧ ∀ s2, Inv X pins (σ'.set i none) H' s2 → SP X pins D f s2 := by
  cases f with
  | next => obtain ⟨σ', H', I, q⟩ := h; exact ⟨σ', H', I.outH ok, fun s2 J => ⟨_, _, J, q⟩⟩
  | brk => obtain ⟨σ', H', I, q⟩ := h; exact ⟨σ', H', I.outH ok, fun s2 J => ⟨_, _, J, q⟩⟩
  | cont => obtain ⟨σ', H', I, q⟩ := h; exact ⟨σ', H', I.outH ok, fun s2 J => ⟨_, _, J, q⟩⟩
  | ret u => obtain ⟨v, σ', H', I, r, q⟩ := h; exact ⟨σ', H', I.outH ok, fun s2 J => ⟨v, _, _, J, r, q⟩⟩
theorem taken {er C CQ t : Addr} {B : Heap} {qn n : Str} {qp hp : Pos} {b0 : Stmt} {suite : List Stmt} {rest : List ExceptHandler} {i : Nat} {th : TS} {D : Ends} (hst : X.stack = X.env :: X.outer ∧ X.env.frame = some X.env.locals) (I : Inv X pins σ H s)
    (F : Fly X.prog X.w X.stack H s H' er C t B s') (hg : Gl X qn) (hm : X.mg qn = some (.ref CQ)) (hx : PySem.W.exmOne X.K (.ref C) (.ref CQ) = some true) (hN : X.N.Nodup) (hi : X.N[i]? = some n) (hl : X.env.kindOf n = some .local)
    (hth : PSs (X.inH er) (b0 :: suite) th) (q : th (D.gone i) (σ.set i (some (.ref er))) (upd H' er (ExcAt er C))) (hdb : (qn == ("__debug__" : Str)) = false) :
    wpAny (model X.prog X.w) X.A (noteFrame (.ref er) X.env) (fun _ s₂ => wpAny (model X.prog X.w) X.A (setFlight (.ref er) none) (fun _ s₃ =>
      wpAny (model X.prog X.w) X.A (handleBy (.ref er) X.env (.ExceptHandler (some (.Name qn qp)) (some n) (b0 :: suite) hp :: rest)) (SP X pins D) X.xe s₃) X.xe s₂) X.xe s' := by
  have hfr : X.A.frames = some (X.env :: X.outer) := by rw [I.ok.frames, hst.1]
  have fly0 : Heap.FlyingW B (X.env :: X.outer) er (.ref C) (.ref t) s'.heap := hst.1 ▸ F.fly
  have at' : ∀ {h : Heap}, B.StaysIn h → s'.heap.UpToSlots h → ∀ tk, Inv X pins σ H' { s' with heap := h, toks := tk } := fun {h} st up tk =>
    I.call' (s' := { s' with heap := h, toks := tk }) (ch := []) F.os (F.unAt I.stack st up) (F.hokAt st) F.bare fun _ z => nomatch z
  refine wpAny_mono (DK.any (E := fun _ _ => False) (Q := fun _ s2 => Bare er s2 → _) (dk_note _ _) F.nod (wpAny_looks_onW hfr hst.2 fly0 fun h4 held up4 b4 => ?_)) (fun _ s2 q => q.1 q.2) fun _ _ q => q.1.elim
  refine wpAny_mono (DK.any (E := fun _ _ => False) (Q := fun _ s2 => Bare er s2 → _) (dk_setFlight _ _) b4 (wpAny_landsW held fun h5 fly5 up5 b5 => ?_)) (fun _ s2 q => q.1 q.2) fun _ _ q => q.1.elim
  have up : s'.heap.UpToSlots h5 := up4.trans up5
  have J5 := (at' fly5.1 up s'.toks).inH er
  obtain ⟨ob, hob, hoc⟩ := fly5.there
  refine wpAny_handleBy_cons (codeAny_handlers_test (ld_glob (X := X.inH er) J5 hg hm ?_ hdb)) (by intro z; cases z)
  have LT : PySem.W.Looks (model X.prog X.w) h5 (typeOf (.ref er)) (.ref C) := hoc ▸ (PySem.W.Looks.ld hob).andThen .now
  refine (PySem.W.exm_one J5.kIn LT hx) _ _ _ _ (fun _ _ e => e) ?_
  show codeAny _ _ _ _ _
  refine codeAny_handlers_suite_as ?_
  refine wpAny_mono (DK.any (E := fun _ _ => False) (Q := fun _ s2 => Bare er s2 → _) (dk_setFlight _ _) b5 (lands_againW fly5 fun h6 fly6 up6 b6 => ?_)) (fun _ s2 q => q.1 q.2) fun _ _ q => q.1.elim
  have J6 := at' fly6.1 (up.trans up6) s'.toks
  have u6 : Un (frs X.stack) [] H (upd H' er (ExcAt er C)) s.heap h6 := F.unEr (F.unAt I.stack fly6.1 (up.trans up6))
  have K6 : Inv X pins σ (upd H' er (ExcAt er C)) { s' with heap := h6 } :=
    I.call' (s' := { s' with heap := h6 }) (ch := []) F.os u6 (hok_er (F.hokAt fly6.1) F.noTrk (isExc_of fly6 b6)) F.bare fun _ z => nomatch z
  refine store_ok (X := X.inH er) (i := i) (v := .ref er) (K6.inH er) hN hi (.inl hl) rfl (fun s7 J7 => ?_) (.inr hl)
  refine wpAny_mono (hth pins s7 _ _ _ J7 q) (fun fl s8 hs => ?_) fun _ _ z => z.elim
  obtain ⟨σ9, H9, I9, fin⟩ := SP.gone I.ok hs
  exact unbind_ok I9 hN hi hl fun s10 J10 => fin s10 J10
end

theorem Fun.okX {P : Program} {w : World} {K : PySem.W.Frag} {mg : Str → Option Value} {base : Heap} {CX : CXT} {x qual : Str} {st : Stmt} {f : Addr} {fd : FuncData} {N ps : List Str} {k : Nat} {sp : Sp} (F : Fun K x qual st f fd) (S : FnScope N ps (defScope st)) (len : ∀ vs H Q E, sp vs H Q E → vs.length = ps.length)
    (body : ∀ (cdv : Value) (A : Around) (outer : List Env) (s : Shared) (H : Hp) (vs : List V) (Q : VK) (E : XK), Room k (A.deeper (envOfC qual (defScope st) s.heap.objs.size f cdv)) → sp vs H Q E →
      ∃ t, PSs (cxOf CX P w K mg base N qual (defScope st) f cdv A outer s H E) (defBody st) t ∧ t { nx := fun _ H' => Q .non H', rt := Q } (start N vs) H) : FnOk P w K mg base CX (k + 1) f fd ps sp := by
  obtain ⟨oc, od, kV, doc, pm, an, cdv, ct, osl, rfl, lk, hcd⟩ := F.ex
  exact fn_of lk hcd S len fun A outer s H vs Q E hr hsp => body cdv A outer s H vs Q E hr hsp
noncomputable def rIsiU (K : PySem.W.Frag) : List V → Hp → VK → Prop := fun xs H Q => (∃ er C c cv b, xs = [.ref er, c] ∧ RelV c cv ∧ H er = some (ExcAt er C) ∧ errOk K C = true ∧ PySem.W.kitOne K (.ref C) cv = some b ∧ Q (.bl b) H) ∨ rIsi K xs H Q
theorem call_isiU {X : Cx} : CallR X (.builtin "isinstance") (rIsiU X.K) := by
  refine CallR.or ?_ call_isinst
  intro pins s σ H xs us Q I r h
  obtain ⟨er, C, c, cv, b, rfl, rc, he, ok, hk, q⟩ := h
  obtain ⟨u, w', rfl, r1, r2⟩ := vals2 r
  obtain rfl : u = Value.ref er := r1
  have ie : IsExc er C s.heap := (I.hok er _ he).1
  have ec : w' = cv := by
    cases c with
    | ty n => exact (show w' = _ from r2).trans (show cv = _ from rc).symm
    | ref a => exact (show w' = _ from r2).trans (show cv = _ from rc).symm
    | non => exact (show w' = _ from r2).trans (show cv = _ from rc).symm
    | bl b => exact (show w' = _ from r2).trans (show cv = _ from rc).symm
    | _ => obtain ⟨_, rfl⟩ := rc; simp [PySem.W.kitOne, PySem.W.kitCls] at hk
  subst ec
  exact PySem.W.kia_one (kitx_err ok) I.kIn ie hk (by intro z; cases z) fun tk => ⟨.bl b, H, I.tok tk, rfl, q⟩
theorem x_isU {K : PySem.W.Frag} {xs : List V} {H : Hp} {Q : VK} (q : rIsi K xs H Q) : rIsiU K xs H Q := .inr q
theorem x_isE {K : PySem.W.Frag} {H : Hp} {Q : VK} {er C : Addr} {c : V} {cv : Value} {b : Bool} (h : H er = some (ExcAt er C)) (ok : errOk K C = true) (rc : RelV c cv) (e : PySem.W.kitOne K (.ref C) cv = some b) (q : Q (.bl b) H) : rIsiU K [.ref er, c] H Q := .inl ⟨er, C, c, cv, b, rfl, rc, h, ok, e, q⟩
theorem x_raise {C : Addr} {Ex : XK} {ta : TA} {D : Ends} {σ : St} {H : Hp} (q : ta σ H fun vs H1 => vs.length ≤ sizeLine ∧ Ex (.ref C) none H1) : tRaise C Ex ta D σ H := q
theorem x_catch {K : PySem.W.Frag} {C CQ : Addr} {th : TS} {D : Ends} {σ : St} {i : Nat} {H : Hp} (hx : PySem.W.exmOne K (.ref C) (.ref CQ) = some true) (q : ∀ er H', H er = none → Same H H' → H' er = some (ExcAt er C) → th D (σ.set i (some (.ref er))) H') :
    ∃ C', Value.ref C = Value.ref C' ∧ PySem.W.exmOne K (.ref C') (.ref CQ) = some true ∧ ∀ er, H er = none → th D (σ.set i (some (.ref er))) (upd H er (ExcAt er C')) := ⟨C, rfl, hx, fun er hn => q er _ hn (Same.new hn _) upd_same⟩
theorem cls_some {K : PySem.W.Frag} {D : Addr} (h : PySem.W.hasDictIn K D = true) : (PySem.W.clsIn K D).isSome = true := by
  obtain ⟨cd, e, _⟩ := PySem.W.any_some h
  rw [e]; rfl
theorem errOk_mk {K : PySem.W.Frag} {C : Addr} (x : PySem.W.excIn K C [.type "ValueError", .type "Exception", .type "BaseException", .type "object"] "ValueError.__new__" = true) (ga : PySem.W.findIn K (.ref C) "__getattribute__" = some (some (.builtin "BaseException.__getattribute__"))) (gn : PySem.W.findIn K (.ref C) "__getattr__" = some none) (be : PySem.W.mroIn K C (.type "BaseException") = some true) (hd : PySem.W.hasDictIn K C = true)
    (fa : PySem.W.findIn K (.ref C) "__class__" = some (some (.builtin "object.__class__"))) (sn : PySem.W.specialIn K (.builtin "object.__class__") "__get__" = some (some (.builtin "getset_descriptor.__get__"))) (tk : PySem.W.takesIn K (.builtin "object.__class__") = some true)
    (mo : PySem.W.mroIn K C (.type "object") = some true) : errOk K C = true := by
  unfold errOk bmV
  rw [x, ga, gn, be, cls_some hd, fa, sn, tk, mo]; simp
theorem kit_cls_of {K : PySem.W.Frag} {t : Value} {D : Addr} {b : Bool} (hd : PySem.W.hasDictIn K D = true) (ht : PySem.W.typeIn K (.ref D) = some (.type "type")) (hs : PySem.W.subIn K t (.ref D) = some b) : PySem.W.kitCls K t (.ref D) = some b := by
  unfold PySem.W.kitCls
  simp only
  rw [cls_some hd, ht, if_pos (by simp)]; exact hs
theorem kit_ne {K : PySem.W.Frag} {C D : Addr} {b : Bool} (h : C ≠ D) (hd : PySem.W.hasDictIn K D = true) (ht : PySem.W.typeIn K (.ref D) = some (.type "type")) (hs : PySem.W.subIn K (.ref C) (.ref D) = some b) : PySem.W.kitOne K (.ref C) (.ref D) = some b := by
  unfold PySem.W.kitOne
  rw [if_neg (by intro z; exact h (Value.ref.inj (beq_iff_eq.mp z)))]
  exact kit_cls_of hd ht hs
theorem kit_self {K : PySem.W.Frag} {C : Addr} : PySem.W.kitOne K (.ref C) (.ref C) = some true := by
  unfold PySem.W.kitOne
  rw [if_pos (by simp)]
theorem kit_V {K : PySem.W.Frag} {C : Addr} {b : Bool} (hs : PySem.W.subIn K (.ref C) (.type "ValueError") = some b) : PySem.W.kitOne K (.ref C) (.type "ValueError") = some b := by
  unfold PySem.W.kitOne
  rw [if_neg (by intro z; cases beq_iff_eq.mp z)]
  unfold PySem.W.kitCls
  simp only
  rw [if_pos (by decide +kernel)]; exact hs
theorem exm_mk {K : PySem.W.Frag} {C D : Addr} {b : Bool} (hq : PySem.W.subIn K (.ref D) (.type "BaseException") = some true) (hd : PySem.W.hasDictIn K D = true) (ht : PySem.W.typeIn K (.ref D) = some (.type "type")) (hs : PySem.W.subIn K (.ref C) (.ref D) = some b) : PySem.W.exmOne K (.ref C) (.ref D) = some b := by
  unfold PySem.W.exmOne
  rw [hq, if_pos (by simp)]
  exact kit_cls_of hd ht hs
end Internal

set_option Elab.async false
set_option linter.all false
set_option maxRecDepth 100000
namespace Internal
open PySem PySem.Spec PyProof.Rows
theorem pass_F {P : Program} {w : World} {K : PySem.W.Frag} {mg : Str → Option Value} {base : Heap} {N : List Str} {qual : Str} {scope : Scope} {f : Addr} {cd : Value} {A : Around} {outer : List Env} {s : Shared} {H : Hp} {E : XK} :
    Passes (CXF P w) (cxOf (CXF P w) P w K mg base N qual scope f cd A outer s H E) E := by
  intro pins σ H1 s1 e s2 I hx
  obtain ⟨er, C, t, B, H', rfl, F, ex⟩ := hx
  have fr := I.stack
  have nfr : ∀ b o, s.heap.get? b = some o → b ∉ frs outer → b ∉ frs (envOfC qual scope s.heap.objs.size f cd :: outer) := fun b o q n z => by
    rcases List.mem_cons.mp (show b ∈ s.heap.objs.size :: frs outer from z) with z | z
    · exact Nat.ne_of_lt (Heap.lt_size q) z
    · exact n z
  have sub : ∀ b ∈ frs outer, b ∈ frs (envOfC qual scope s.heap.objs.size f cd :: outer) := fun b hb => List.mem_cons_of_mem _ hb
  show wpAny (model P w) (A.deeper (envOfC qual scope s.heap.objs.size f cd)) (leaving (envOfC qual scope s.heap.objs.size f cd) (.ref er)) _ _ _
  refine wpAny_mono (DK.any (E := fun _ _ => False) (Q := fun _ s'' => Bare er s'' → CXF P w outer H s E (.ref er) s'') (dk_leaving _ _) F.nod ?_) (fun _ s'' q => q.1 q.2) fun _ _ q => q.1.elim
  refine wpAny_leaves_onW (L := s.heap.objs.size) I.ok.frames rfl F.fly fun h'' fly up b1 => ?_
  have u2 := F.unAt fr fly.1 up
  refine ⟨er, C, t, B, H', rfl, ⟨F.os.trans I.os, F.bare, ⟨fun b o q n hb _ => ?_, fun b o q n hb _ => ?_, fun b o q n _ => ?_, fun b o q _ => ?_, fun b xs q => u2.tups b xs (I.base.tups b xs q), fun b o xs q => u2.frzs b o xs (I.base.frzs b o xs q), fun b ps q => ?_⟩, F.hokAt fly.1, fly, fun b o q n hb => ?_, fun b o q hb => ?_, fun b o u q e => ?_, b1⟩, ex⟩
  · exact u2.keep b o (I.base.keep b o q n hb (by simp [cxOf])) (I.base.free b o q n (by simp [cxOf])) (nfr b o q hb) (by simp)
  · obtain ⟨sl, e1⟩ := I.base.slot b o q n hb (by simp [cxOf])
    obtain ⟨sl', e2⟩ := u2.slot b _ e1 (I.base.free b o q n (by simp [cxOf])) (sub b hb) (by simp)
    exact ⟨sl', e2⟩
  · obtain ⟨o1, e1⟩ := I.base.there b o q (by simp [cxOf])
    exact u2.free b o1 e1 (I.base.free b o q n (by simp [cxOf])) (by simp)
  · obtain ⟨o1, e1⟩ := I.base.there b o q (by simp [cxOf])
    exact u2.there b o1 e1 (by simp)
  · obtain ⟨m1, e1⟩ := I.base.tbls b ps q
    obtain ⟨m2, e2⟩ := u2.tbls b _ e1
    exact ⟨m1 ++ m2, by rw [e2, Array.append_assoc]⟩
  · exact F.old b o (I.base.keep b o q n hb (by simp [cxOf])) (I.base.free b o q n (by simp [cxOf])) (nfr b o q hb)
  · obtain ⟨o1, e1⟩ := I.base.there b o q (by simp [cxOf])
    exact F.has b o1 e1 (nfr b o q hb)
  · obtain ⟨u1, e1⟩ := (F.hok b o q).obj
    have z := F.trk b o u1 q e1
    have z2 := fly.1 b u1 z
    have e' : h''.get? b = some u := e
    rw [z2] at e'; cases e'
    exact z
noncomputable def Caught (X : Cx) (pins : List (Addr × Obj)) (Eh : Addr → St → Hp → Prop) : Value → Shared → Prop := fun e s' => ∃ σ' H1 s1 er C t B H', Inv X pins σ' H1 s1 ∧ e = .ref er ∧ Fly X.prog X.w X.stack H1 s1 H' er C t B s' ∧ Eh C σ' H'
noncomputable abbrev TEr := St → Hp → VK → (Addr → Hp → Prop) → Prop
noncomputable abbrev TTr := Ends → (Addr → St → Hp → Prop) → St → Hp → Prop
noncomputable def PEr (X : Cx) (e : Expr) (t : TEr) : Prop := ∀ (pins : List (Addr × Obj)) (s : Shared) (σ : St) (H : Hp) (Q : VK) (Eh : Addr → Hp → Prop), Inv X pins σ H s → t σ H Q Eh → wpAny (model X.prog X.w) X.A (eval e X.env) (EP X pins σ Q) (Caught X pins fun C σ' H' => σ' = σ ∧ Eh C H') s
noncomputable def PTr (X : Cx) (st : Stmt) (t : TTr) : Prop := ∀ (pins : List (Addr × Obj)) (s : Shared) (σ : St) (H : Hp) (D : Ends) (Eh : Addr → St → Hp → Prop), Inv X pins σ H s → t D Eh σ H → wpAny (model X.prog X.w) X.A (exec st X.env) (SP X pins D) (Caught X pins Eh) s
noncomputable def PTrs (X : Cx) (ss : List Stmt) (t : TTr) : Prop := ∀ (pins : List (Addr × Obj)) (s : Shared) (σ : St) (H : Hp) (D : Ends) (Eh : Addr → St → Hp → Prop), Inv X pins σ H s → t D Eh σ H → wpAny (model X.prog X.w) X.A (execs ss X.env) (SP X pins D) (Caught X pins Eh) s
section
variable {X : Cx} {pos : Pos}
noncomputable def tCallR (sp : Sp) (ta : TA) : TEr := fun σ H Q Eh => ta σ H fun vs H1 => sp vs H1 Q fun cls _ H2 => ∃ C, cls = .ref C ∧ Eh C H2
theorem per_call {k : Nat} {f : Addr} {fd : FuncData} {ps : List Str} {sp : Sp} {x : Str} {p cp : Pos} {e : Expr} {es : List Expr} {ta : TA} (F : FnOk X.prog X.w X.K X.mg X.base (CXF X.prog X.w) k f fd ps sp) (hr : Room k X.A) (hgf : Gl X x) (hmf : X.mg x = some (.ref f)) (hk : PySem.W.keepIn X.K (.ref f) = true) (hb : Binds X.K fd ps [])
    (ha : PA X.nox (e :: es) ta) (hdf : autoParam ((x == ("__debug__" : Str)) = false) Internal.aut1._auto_1) (he : autoParam (starEach (e :: es) X.env = (false, eval e X.env) :: starEach es X.env) Internal.aut2._auto_1) (hpl : autoParam ((backTo cp (starEach es X.env)).any (·.1) = false) Internal.aut2._auto_1) : PEr X (.Call (.Name x p) (e :: es) [] cp) (tCallR sp ta) := by
  intro pins s σ H Q Eh I h
  refine wpAny_Call_Name_kw (ld_glob I hgf hmf ?_ hdf)
  refine PySem.W.callWith_K (h₀ := X.base) I.ok.mod.kin hk (wpAny_mono (ha cp pins s σ H _ (I.wish _) h) (fun us s1 q => ?_) fun _ _ z => z.elim) he hpl
  obtain ⟨vs, H1, J1, r, q⟩ := q
  have I1 := J1.unwish
  refine ⟨I1.kIn, ?_⟩
  have hlen : us.length = ps.length := by rw [← r.length]; exact F.len _ _ _ _ q
  have hbd := hb s1 us I1.kIn (by rw [List.append_nil]; exact hlen)
  rw [List.append_nil] at hbd
  refine wpAny_call (codeAny_mono (F.run X.A X.stack s1 H1 ⟨us, []⟩ us vs _ _ hr I1.env0 hbd r q) fun res s' hq => ?_)
  cases res with
  | error er0 =>
    obtain ⟨er, C, t, B, H2, rfl, fl, C', ec, hh⟩ := hq
    cases ec
    exact ⟨σ, H1, s1, er, C, t, B, H2, I1, rfl, fl, rfl, hh⟩
  | ok fw =>
    cases fw with
    | ret u => exact I1.after hq
    | next => exact hq.elim
    | brk => exact hq.elim
    | cont => exact hq.elim
noncomputable abbrev tExprR (te : TEr) : TTr := fun D Eh σ H => te σ H (fun _ H2 => D.nx σ H2) fun C H2 => Eh C σ H2
noncomputable abbrev tIfR (c : TT) (t u : TTr) : TTr := fun D Eh σ H => c σ H fun b H1 => if b = true then t D Eh σ H1 else u D Eh σ H1
noncomputable abbrev tNilR : TTr := fun D _ σ H => D.nx σ H
theorem ptrs_one {st : Stmt} {t : TTr} (h : PTr X st t) : PTrs X [st] t := by
  intro pins s σ H D Eh I q
  refine wpAny_execs_cons (wpAny_mono (h pins s σ H D Eh I q) (fun f s1 z => ?_) fun _ _ z => z)
  cases f with
  | next => exact wpAny_execs_nil z
  | _ => exact z
noncomputable def tTryG (K : PySem.W.Frag) (CQ : Addr) (i : Nat) (tb : TTr) (th : TS) : TS := fun D σ H => tb D (fun C σ' H2 => ∃ C', Value.ref C = .ref C' ∧ PySem.W.exmOne K (.ref C') (.ref CQ) = some true ∧ ∀ er, H2 er = none → th (D.gone i) (σ'.set i (some (.ref er))) (upd H2 er (ExcAt er C'))) σ H
theorem ps_tryG {CQ : Addr} {qn n : Str} {qp hp : Pos} {body : List Stmt} {tb : TTr} {b0 : Stmt} {suite : List Stmt} {i : Nat} {th : TS} (hst : X.stack = X.env :: X.outer ∧ X.env.frame = some X.env.locals) (hbd : PTrs X body tb)
    (hg : Gl X qn) (hm : X.mg qn = some (.ref CQ)) (hN : X.N.Nodup) (hi : X.N[i]? = some n) (hl : X.env.kindOf n = some .local) (hth : ∀ er, PSs (X.inH er) (b0 :: suite) th) (hdb : autoParam ((qn == ("__debug__" : Str)) = false) Internal.aut1._auto_1) :
    PS X (.Try body [.ExceptHandler (some (.Name qn qp)) (some n) (b0 :: suite) hp] [] [] pos) (tTryG X.K CQ i tb th) := by
  intro pins s σ H D I h
  refine wpAny_Try_except (wpAny_mono (hbd pins s σ H D _ I h) (fun f s1 z => ?_) fun e s1 z => ?_)
  · cases f with
    | next => exact wpAny_execs_nil z
    | _ => exact z
  · obtain ⟨σ', H1, s2, er, C, t, B, H', I', rfl, fl, C', ec, hx, hh⟩ := z
    cases ec
    exact taken hst I' fl hg hm hx hN hi hl (hth er) (hh er fl.noTrk) hdb
end
section
variable {σ : St} {H : Hp} {Q : VK} {D : Ends} {K : PySem.W.Frag} {Eh : Addr → Hp → Prop} {Eg : Addr → St → Hp → Prop}
theorem x_tryG {CQ : Addr} {i : Nat} {tb : TTr} {th : TS} (q : tb D (fun C σ' H2 => ∃ C', Value.ref C = .ref C' ∧ PySem.W.exmOne K (.ref C') (.ref CQ) = some true ∧ ∀ er, H2 er = none → th (D.gone i) (σ'.set i (some (.ref er))) (upd H2 er (ExcAt er C'))) σ H) : tTryG K CQ i tb th D σ H := q
theorem x_callR {sp : Sp} {ta : TA} (q : ta σ H fun vs H1 => sp vs H1 Q fun cls _ H2 => ∃ C, cls = .ref C ∧ Eh C H2) : tCallR sp ta σ H Q Eh := q
end
end Internal

set_option Elab.async false
set_option linter.all false
set_option maxRecDepth 100000
namespace Internal
open PySem PySem.Spec PyProof.Rows
section
variable {X : Cx} {pins : List (Addr × Obj)} {σ : St} {H : Hp} {s : Shared} {h' : Heap}
theorem Inv.turnedL {t' : Nat} {fp : List Addr} (I : Inv X pins σ H s) (k : ∀ b o, b ∉ fp → s.heap.get? b = some o → h'.get? b = some o) (f : ∀ b ∈ fp, FpOk X pins H b) : Inv X pins σ H { s with heap := h', toks := t' } := by
  have nit : ∀ b u, H b = some u → b ∉ fp := fun b u e z => by rw [(f b z).1] at e; cases e
  refine I.step (g' := s.gens) (d' := s.drawn) (ch := fp) (fun b hb => ⟨(f b hb).2.2.2.1, (f b hb).2.1, (f b hb).2.2.2.2.1, (f b hb).2.2.2.2.2⟩) (fun b o _ _ hc e _ => k b o hc e) (fun b o _ _ hc e _ => ⟨o.slots, k b o hc e⟩) (fun _ _ _ _ n => n)
    (fun b o hc e => ⟨o, k b o hc e⟩) (fun _ _ e => e) (fun _ _ _ e => e) (fun b ps e => ⟨#[], by rw [e]; simp⟩) (fun m hm => ?_) (fun b u e => ?_) I.bare
  · obtain ⟨o, es, ep, ho, r⟩ := hm
    exact ⟨o, es, ep, k _ o (fun z => (f _ z).2.1 rfl) ho, r⟩
  · refine (I.hok b u e).stay (fun c v hc q => k c v ?_ q) (fun _ q => q) fun _ _ q => q
    rcases hc with z | z
    · rw [z]; exact nit b u e
    · exact nit c _ z
theorem Inv.turnedNew {t' : Nat} {fp : List Addr} {p : Addr} {o : HO} (I : Inv X pins σ H s) (k : ∀ b o, b ∉ fp → s.heap.get? b = some o → h'.get? b = some o) (f : ∀ b ∈ fp, FpOk X pins H b) (hp : s.heap.objs.size ≤ p) (new : ObjOk X.prog X.w (upd H p o) h' p o) :
    Inv X pins σ (upd H p o) { s with heap := h', toks := t' } := by
  have nit : ∀ b u, H b = some u → b ∉ fp := fun b u e z => by rw [(f b z).1] at e; cases e
  have hn : H p = none := I.hok.fresh hp
  refine I.step (g' := s.gens) (d' := s.drawn) (ch := fp) (fun b hb => ⟨(f b hb).2.2.2.1, (f b hb).2.1, (f b hb).2.2.2.2.1, (f b hb).2.2.2.2.2⟩) (fun b o _ _ hc e _ => k b o hc e) (fun b o _ _ hc e _ => ⟨o.slots, k b o hc e⟩) (fun b u _ e n => ?_)
    (fun b o hc e => ⟨o, k b o hc e⟩) (fun b xs e => by rw [upd_ne (ne_of_none e hn)]; exact e) (fun b u v e => by rw [upd_ne (ne_of_none e hn)]; exact e) (fun b ps e => ⟨#[], by rw [upd_ne (ne_of_none e hn), e]; simp⟩) (fun m hm => ?_) (fun b u e => ?_) I.bare
  · rw [upd_ne (Nat.ne_of_lt (Nat.lt_of_lt_of_le (Heap.lt_size e) hp))]; exact n
  · obtain ⟨o, es, ep, ho, r⟩ := hm
    exact ⟨o, es, ep, k _ o (fun z => (f _ z).2.1 rfl) ho, r⟩
  · by_cases hb : b = p
    · subst hb; rw [upd_same] at e; cases e; exact new
    · rw [upd_ne hb] at e
      refine (I.hok b u e).stay (fun c v hc q => k c v ?_ q) (fun c q => by rw [upd_ne (ne_of_none q hn)]; exact q) fun c xs q => by rw [upd_ne (ne_of_none q hn)]; exact q
      rcases hc with z | z
      · rw [z]; exact nit b u e
      · exact nit c _ z
end
theorem ne_ty {h : Heap} {a b : Addr} {o o' : Obj} {m n : String} (e : h.get? a = some o) (c : o.cls = .type m) (e' : h.get? b = some o') (c' : o'.cls = .type n) (hc : (m == n) = false) : a ≠ b := by
  rintro rfl
  rw [e] at e'
  cases e'
  rw [c] at c'
  cases c'
  rw [beq_self_eq_true] at hc
  cases hc
theorem tup2 {P : Program} {w : World} {H : Hp} {h : Heap} {p : Addr} {x y : V} {u v : Value} (e : h.get? p = some { cls := .type "tuple", data := .seq #[u, v] }) (r1 : RelV x u) (r2 : RelV y v) : ObjOk P w H h p (.tup [x, y]) :=
  ⟨small_le (by simp), [u, v], .cons r1 (.cons r2 .nil), _, e, rfl, _, rfl⟩
noncomputable def Itn (K : PySem.W.Frag) (a : Addr) : It :=
  ⟨fun i H => ∃ xs x, SqL K H a xs ∧ xs[i]? = some x, fun i H v H' => ∃ p x, H p = none ∧ v = .ref p ∧ (∀ xs, SqL K H a xs → xs[i]? = some x) ∧ H' = upd H p (.tup [.int i, x]), fun i H => ∃ xs, SqL K H a xs ∧ xs.length ≤ i⟩
theorem turn_enum {P : Program} {w : World} {K : PySem.W.Frag} {es : List Expr} {kx : Nat} {tp : Pos} (a e it : Addr) (hne : e ≠ it) : Turn P w K (.Tuple es kx tp) (Itn K a) [e, it] e (fun i h => (∃ old, IsEnum h e it i old) ∧ h.IsListIter it a i) where
  mem := by simp
  obj := fun i h st b hb => by
    obtain ⟨⟨old, h1⟩, o, h2, c, d⟩ := st
    rcases List.mem_cons.mp hb with z | z
    · subst z; exact ⟨_, h1, fun v z => by cases z⟩
    · have e : b = it := by simpa using z
      subst e
      exact ⟨o, h2, fun v z => by rw [d] at z; cases z⟩
  keep := fun i h h' st k => by
    obtain ⟨⟨old, h1⟩, h2⟩ := st
    exact ⟨⟨old, k e (by simp) _ h1⟩, h2.at fun o q => k it (by simp) o q⟩
  item := by
    intro X hP hw hK hc i pins s σ H E I hf st hg
    subst hP hw hK
    obtain ⟨⟨old, he⟩, hit⟩ := st
    obtain ⟨xs, x, hq, hx⟩ := hg
    obtain ⟨its, rv, p, hz⟩ := I.list hq
    obtain ⟨u, hu, ru⟩ := rv.get hx
    refine wpAny_pyNext_enum_item he hit p.isList (x := u) (by simpa using hu) hne fun h1 eo it1 tp1 sz1 k1 => ?_
    refine ⟨_, rfl, wpAny_letOwnedTupleGo_enum eo fun h2 e2 sb2 => ?_⟩
    have hes : e ≠ s.heap.objs.size := Nat.ne_of_lt (Heap.lt_size he)
    have sb2' : Heap.SameBut e h1 h2 := sb2
    have t2 : h2.get? s.heap.objs.size = some { cls := .type "tuple", data := .seq #[.int i s.toks, u] } := (sb2'.2 _ (Ne.symm hes)).trans tp1
    have k2 : ∀ b o, b ∉ [e, it] → s.heap.get? b = some o → h2.get? b = some o := fun b o hb q => by
      have n1 : b ≠ e := fun z => hb (by simp [z])
      have n2 : b ≠ it := fun z => hb (by simp [z])
      exact (sb2'.2 b n1).trans (k1 b o n1 n2 q)
    have I2 : Inv X pins σ (upd H s.heap.objs.size (.tup [.int i, x])) { s with heap := h2, toks := s.toks + 1 } := I.turnedNew k2 hf (Nat.le_refl _) (tup2 t2 ⟨_, rfl⟩ ru)
    have hn : H s.heap.objs.size = none := I.hok.fresh (Nat.le_refl _)
    refine ⟨.ref s.heap.objs.size, _, I2, rfl, ⟨_, x, hn, rfl, fun ys hy => by rw [I.list_inj hy hq]; exact hx, rfl⟩, ⟨⟨_, e2⟩, it1.at fun o q => (sb2'.2 it (Ne.symm hne)).trans q⟩, fun b hb => ?_⟩
    have hbs : b ≠ s.heap.objs.size := by
      rcases List.mem_cons.mp hb with z | z
      · rw [z]; exact hes
      · have e : b = it := by simpa using z
        subst e
        obtain ⟨o, q, _⟩ := hit
        exact Nat.ne_of_lt (Heap.lt_size q)
    rw [upd_ne hbs]
    exact (hf b hb).1
  done := by
    intro X hP hw hK hc i pins s σ H E I hf st hg
    subst hP hw hK
    obtain ⟨⟨old, he⟩, hit⟩ := st
    obtain ⟨xs, hq, hx⟩ := hg
    obtain ⟨its, rv, p, hz⟩ := I.list hq
    have hl := rv.length
    refine wpAny_pyNext_enum_end (I.ok.hd hc) he hit p.isList (by simp; omega) fun h1 eb => ⟨rfl, I.turnedL (t' := s.toks) (fp := [e, it]) (fun b o hb q => eb b o (fun z => hb (by simp [z])) q) hf⟩
  self := fun _ _ _ _ _ st h => by
    obtain ⟨⟨old, he⟩, _⟩ := st
    exact wpAny_pyIter_enum he h
noncomputable def Itz (K : PySem.W.Frag) (a b : Addr) : It :=
  ⟨fun i H => ∃ xs ys x y, SqL K H a xs ∧ SqL K H b ys ∧ xs[i]? = some x ∧ ys[i]? = some y, fun i H v H' => ∃ p x y, H p = none ∧ v = .ref p ∧ (∀ xs, SqL K H a xs → xs[i]? = some x) ∧ (∀ ys, SqL K H b ys → ys[i]? = some y) ∧ H' = upd H p (.tup [x, y]),
    fun i H => ∃ xs ys, SqL K H a xs ∧ SqL K H b ys ∧ (xs.length ≤ i ∨ ys.length ≤ i)⟩
theorem apart_of {h : Heap} {z TI TO i1 i2 a b : Addr} {f0 x1 y1 x2 y2 : Value} {k1 k2 : Nat} {xs ys : Array Value} (hz : IsZip h z TI TO f0) (hTI : IsPair h TI x1 y1) (hTO : IsPair h TO x2 y2) (h1 : h.IsListIter i1 a k1) (h2 : h.IsListIter i2 b k2)
    (l1 : h.IsList a xs) (l2 : h.IsList b ys) (nT : TI ≠ TO) (ni : i1 ≠ i2) : ZipApart z TI TO i1 i2 a b := by
  obtain ⟨o1, e1, c1, _⟩ := h1
  obtain ⟨o2, e2, c2, _⟩ := h2
  obtain ⟨m1, g1, d1, _⟩ := l1
  obtain ⟨m2, g2, d2, _⟩ := l2
  exact ⟨ne_ty hTI rfl hz rfl (by decide), ne_ty hTO rfl hz rfl (by decide), ne_ty e1 c1 hz rfl (by decide), ne_ty e2 c2 hz rfl (by decide), nT, ne_ty hTI rfl e1 c1 (by decide), ne_ty hTI rfl e2 c2 (by decide), ne_ty hTO rfl e1 c1 (by decide), ne_ty hTO rfl e2 c2 (by decide), ni, ne_ty g1 d1 hz rfl (by decide), ne_ty g1 d1 hTO rfl (by decide), ne_ty g1 d1 e1 c1 (by decide), ne_ty g1 d1 e2 c2 (by decide), ne_ty g2 d2 hz rfl (by decide), ne_ty g2 d2 hTO rfl (by decide), ne_ty g2 d2 e1 c1 (by decide), ne_ty g2 d2 e2 c2 (by decide)⟩
theorem turn_zip {P : Program} {w : World} {K : PySem.W.Frag} {es : List Expr} {kx : Nat} {tp : Pos} (a b z TI TO i1 i2 : Addr) (nT : TI ≠ TO) (ni : i1 ≠ i2) : Turn P w K (.Tuple es kx tp) (Itz K a b) [z, TI, TO, i1, i2] z
    (fun i h => IsZip h z TI TO .none ∧ IsPair h TI (.ref i1) (.ref i2) ∧ (∃ x y, IsPair h TO x y) ∧ h.IsListIter i1 a i ∧ h.IsListIter i2 b i) where
  mem := by simp
  obj := fun i h st c hb => by
    obtain ⟨hz, hTI, ⟨x, y, hTO⟩, ⟨o1, e1, c1, d1⟩, ⟨o2, e2, c2, d2⟩⟩ := st
    simp only [List.mem_cons, List.not_mem_nil, or_false] at hb
    rcases hb with rfl | rfl | rfl | rfl | rfl
    · exact ⟨_, hz, fun v q => by cases q⟩
    · exact ⟨_, hTI, fun v q => by cases q⟩
    · exact ⟨_, hTO, fun v q => by cases q⟩
    · exact ⟨_, e1, fun v q => by rw [d1] at q; cases q⟩
    · exact ⟨_, e2, fun v q => by rw [d2] at q; cases q⟩
  keep := fun i h h' st k => by
    obtain ⟨hz, hTI, ⟨x, y, hTO⟩, h1, h2⟩ := st
    exact ⟨k z (by simp) _ hz, k TI (by simp) _ hTI, ⟨x, y, k TO (by simp) _ hTO⟩, h1.at fun o q => k i1 (by simp) o q, h2.at fun o q => k i2 (by simp) o q⟩
  item := by
    intro X hP hw hK hc i pins s σ H E I hf st hg
    subst hP hw hK
    obtain ⟨hz, hTI, ⟨x0, y0, hTO⟩, h1, h2⟩ := st
    obtain ⟨xs, ys, x, y, hq, hq', hx, hy⟩ := hg
    obtain ⟨its, rv, p, hsz⟩ := I.list hq
    obtain ⟨jts, rv', p', hsz'⟩ := I.list hq'
    obtain ⟨u, hu, ru⟩ := rv.get hx
    obtain ⟨u', hu', ru'⟩ := rv'.get hy
    have A := apart_of hz hTI hTO h1 h2 p.isList p'.isList nT ni
    refine wpAny_pyNext_zip_item A hz hTI hTO h1 h2 p.isList p'.isList (x := u) (y := u') (by simpa using hu) (by simpa using hu') fun g1 z1 to1 j1 j2 t1 sz1 k1 => ?_
    refine ⟨_, rfl, wpAny_letOwnedTupleGo_zip z1 fun g2 z2 sb2 => ?_⟩
    have sb2' : Heap.SameBut z g1 g2 := sb2
    have hzs : z ≠ s.heap.objs.size := Nat.ne_of_lt (Heap.lt_size hz)
    have t2 : g2.get? s.heap.objs.size = some { cls := .type "tuple", data := .seq #[u, u'] } := (sb2'.2 _ (Ne.symm hzs)).trans t1
    have k2 : ∀ c o, c ∉ [z, TI, TO, i1, i2] → s.heap.get? c = some o → g2.get? c = some o := fun c o hb q => by
      have n1 : c ≠ z := fun z => hb (by simp [z])
      exact (sb2'.2 c n1).trans (k1 c o n1 (fun z => hb (by simp [z])) (fun z => hb (by simp [z])) (fun z => hb (by simp [z])) q)
    have I2 : Inv X pins σ (upd H s.heap.objs.size (.tup [x, y])) { s with heap := g2, toks := s.toks } := I.turnedNew k2 hf (Nat.le_refl _) (tup2 t2 ru ru')
    have hn : H s.heap.objs.size = none := I.hok.fresh (Nat.le_refl _)
    refine ⟨.ref s.heap.objs.size, _, I2, rfl, ⟨_, x, y, hn, rfl, fun ys hy' => by rw [I.list_inj hy' hq]; exact hx, fun ys hy' => by rw [I.list_inj hy' hq']; exact hy, rfl⟩,
      ⟨z2, (sb2'.2 TI A.TIz).trans (k1 TI _ A.TIz A.TITO A.TIi1 A.TIi2 hTI), ⟨_, _, (sb2'.2 TO A.TOz).trans to1⟩, j1.at fun o q => (sb2'.2 i1 A.i1z).trans q, j2.at fun o q => (sb2'.2 i2 A.i2z).trans q⟩, fun c hb => ?_⟩
    have hbs : c ≠ s.heap.objs.size := by
      simp only [List.mem_cons, List.not_mem_nil, or_false] at hb
      obtain ⟨o1, e1, _⟩ := h1
      obtain ⟨o2, e2, _⟩ := h2
      rcases hb with rfl | rfl | rfl | rfl | rfl
      · exact hzs
      · exact Nat.ne_of_lt (Heap.lt_size hTI)
      · exact Nat.ne_of_lt (Heap.lt_size hTO)
      · exact Nat.ne_of_lt (Heap.lt_size e1)
      · exact Nat.ne_of_lt (Heap.lt_size e2)
    rw [upd_ne hbs]
    exact (hf c hb).1
  done := by
    intro X hP hw hK hc i pins s σ H E I hf st hg
    subst hP hw hK
    obtain ⟨hz, hTI, ⟨x0, y0, hTO⟩, h1, h2⟩ := st
    obtain ⟨xs, ys, hq, hq', hx⟩ := hg
    obtain ⟨its, rv, p, hsz⟩ := I.list hq
    obtain ⟨jts, rv', p', hsz'⟩ := I.list hq'
    have hl := rv.length
    have hl' := rv'.length
    have A := apart_of hz hTI hTO h1 h2 p.isList p'.isList nT ni
    refine wpAny_pyNext_zip_end (I.ok.hd hc) A hz hTI hTO h1 h2 p.isList p'.isList ?_ fun g1 k1 => ⟨rfl, I.turnedL (t' := s.toks) (fp := [z, TI, TO, i1, i2]) (fun c o hb q => k1 c o (fun z => hb (by simp [z])) (fun z => hb (by simp [z])) (fun z => hb (by simp [z])) (fun z => hb (by simp [z])) q) hf⟩
    rcases hx with q | q
    · exact .inl (by simp; omega)
    · exact .inr (by simp; omega)
  self := fun _ _ _ _ _ st h => wpAny_pyIter_zip st.1 h
section
variable {X : Cx} {es : List Expr} {kx : Nat} {tp : Pos}
noncomputable def rEnum (K : PySem.W.Frag) (R : It → Hp → Prop) (vs : List V) (H : Hp) : Prop := ∃ a, vs = [.ref a] ∧ (∃ xs, SqL K H a xs) ∧ R (Itn K a) H
noncomputable def rZip (K : PySem.W.Frag) (R : It → Hp → Prop) (vs : List V) (H : Hp) : Prop := ∃ a b, vs = [.ref a, .ref b] ∧ (∃ xs, SqL K H a xs) ∧ (∃ ys, SqL K H b ys) ∧ R (Itz K a b) H
noncomputable abbrev iEnum (K : PySem.W.Frag) (ta : TA) : TI := fun σ H R => ta σ H (rEnum K R)
noncomputable abbrev iZip (K : PySem.W.Frag) (ta : TA) : TI := fun σ H R => ta σ H (rZip K R)
theorem pi_enum {a : Expr} {ta : TA} {p pos : Pos} (hg : Gl X "enumerate") (hm : X.mg "enumerate" = none) (ha : PA X [a] ta) (hs : autoParam (starEach [a] X.env = [(false, eval a X.env)]) Internal.aut2._auto_1) : PI X (.Tuple es kx tp) (.Call (.Name "enumerate" p) [a] [] pos) (iEnum X.K ta) := by
  intro pins s σ H R I h
  refine Call_ (ld_blt I hg hm boot_enumerate (PyProof.Rows.callWith_type1 (thn (ha pos pins s σ H _ I h) fun us s1 ⟨vs, H1, I1, r1, q1⟩ => ?_) hs rfl))
  obtain ⟨l, e, ⟨xs, hq⟩, q⟩ := q1
  subst e
  obtain ⟨u, rfl, r⟩ := vals1 r1
  cases r
  obtain ⟨its, rv, pl, hz⟩ := I1.list hq
  refine call_enumerate_list pl.isList fun h1 e1 i1 sz1 k1 => ?_
  refine wpAny_pyIter_enum e1 ?_
  have I2 : Inv X pins σ H1 { s1 with heap := h1, toks := s1.toks } := I1.kept k1
  refine ⟨s1.heap.objs.size + 1, [s1.heap.objs.size + 1, s1.heap.objs.size], _, _, H1, rfl, I2, turn_enum l _ _ (Nat.succ_ne_self _), ⟨⟨_, e1⟩, i1⟩, fun b hb => ?_, q⟩
  have hb' : s1.heap.objs.size ≤ b := by
    simp only [List.mem_cons, List.not_mem_nil, or_false] at hb
    rcases hb with rfl | rfl <;> omega
  exact I1.fpOk hb' (I1.hok.fresh hb')
theorem pi_zip {a b : Expr} {ta : TA} {p pos : Pos} (hg : Gl X "zip") (hm : X.mg "zip" = none) (ha : PA X [a, b] ta) (hs : autoParam (starEach [a, b] X.env = [(false, eval a X.env), (false, eval b X.env)]) Internal.aut2._auto_1) (hs2 : autoParam (starEach [b] X.env = [(false, eval b X.env)]) Internal.aut2._auto_1) :
    PI X (.Tuple es kx tp) (.Call (.Name "zip" p) [a, b] [] pos) (iZip X.K ta) := by
  intro pins s σ H R I h
  refine Call_ (ld_blt I hg hm boot_zip (PyProof.Rows.callWith_type1 (thn (ha pos pins s σ H _ I h) fun us s1 ⟨vs, H1, I1, r1, q1⟩ => ?_) (by rw [hs, hs2]) (by rw [hs2]; rfl)))
  obtain ⟨l, m, e, ⟨xs, hq⟩, ⟨ys, hq'⟩, q⟩ := q1
  subst e
  obtain ⟨u, u', rfl, r, r'⟩ := vals2 r1
  cases r
  cases r'
  obtain ⟨its, rv, pl, hz⟩ := I1.list hq
  obtain ⟨jts, rv', pl', hz'⟩ := I1.list hq'
  refine call_zip_2 pl.isList pl'.isList fun h1 z1 ti to i1 i2 sz1 k1 => ?_
  refine wpAny_pyIter_zip z1 ?_
  have I2 : Inv X pins σ H1 { s1 with heap := h1, toks := s1.toks } := I1.kept k1
  refine ⟨s1.heap.objs.size + 4, [s1.heap.objs.size + 4, s1.heap.objs.size + 2, s1.heap.objs.size + 3, s1.heap.objs.size, s1.heap.objs.size + 1], _, _, H1, rfl, I2, turn_zip l m _ _ _ _ _ (Nat.ne_of_lt (Nat.lt_succ_self _)) (Nat.ne_of_lt (Nat.lt_succ_self _)), ⟨z1, ti, ⟨_, _, to⟩, i1, i2⟩, fun b hb => ?_, q⟩
  have hb' : s1.heap.objs.size ≤ b := by
    simp only [List.mem_cons, List.not_mem_nil, or_false] at hb
    rcases hb with rfl | rfl | rfl | rfl | rfl <;> omega
  exact I1.fpOk hb' (I1.hok.fresh hb')
end
section
variable {X : Cx}
theorem Inv.walk {pins : List (Addr × Obj)} {σ : St} {H : Hp} {s : Shared} {a : Addr} {xs : List V} (I : Inv X pins σ H s) (hq : SqL X.K H a xs) : ∃ its : List Value, Vals xs its ∧ s.heap.IsList a its.toArray ∧ its.length = xs.length ∧ a < s.heap.objs.size := by
  obtain ⟨its, rv, pl, hz⟩ := I.list hq
  obtain ⟨o, e, _⟩ := id pl.isList
  exact ⟨its, rv, pl.isList, rv.length.symm, Heap.lt_size e⟩
noncomputable def sumI (ns : List Int) : Int := ns.foldl (· + ·) 0
theorem sumI_snoc (ns : List Int) (n : Int) : sumI (ns ++ [n]) = sumI ns + n := by unfold sumI; rw [List.foldl_append]; rfl
theorem preSum_sumI (ns : List Int) : ∀ j, j ≤ ns.length → preSum (fun i => ns.getD i 0) j = sumI (ns.take j)
  | 0, _ => rfl
  | j + 1, h => by
    have hj : j < ns.length := by omega
    rw [preSum, preSum_sumI ns j (by omega), List.take_succ_eq_append_getElem hj, sumI_snoc]
    simp [List.getD, hj]
noncomputable def rSum (K : PySem.W.Frag) : List V → Hp → VK → Prop := fun xs H Q => ∃ a ns, xs = [.ref a] ∧ SqL K H a (List.map V.int ns) ∧ Q (.int (sumI ns)) H
theorem int_at {ns : List Int} {its : List Value} {i : Nat} {v : Value} (rv : Vals (ns.map V.int) its) (h : its.toArray[i]? = some v) : ∃ t, v = .int (ns.getD i 0) t := by
  have hl := rv.length
  rw [List.length_map] at hl
  have hi : i < ns.length := by
    have := (Array.getElem?_eq_some_iff.mp h).1
    simp at this; omega
  obtain ⟨u, hu, r⟩ := rv.get (show (ns.map V.int)[i]? = some (.int (ns.getD i 0)) by simp [List.getD, hi])
  have : v = u := by
    have h' : its[i]? = some v := by simpa using h
    rw [hu] at h'; exact (Option.some.inj h').symm
  obtain ⟨t, rfl⟩ := r
  exact ⟨t, this⟩
theorem call_sumU (hc : X.calm = true) : CallR X (.builtin "sum") (rSum X.K) := by
  intro pins s σ H xs us Q I r h
  obtain ⟨a, ns, rfl, hq, q⟩ := h
  obtain ⟨u, rfl, r1⟩ := vals1 r
  cases r1
  obtain ⟨its, rv, pl, hl, hlt⟩ := I.walk hq
  refine call_sum_walkAnyS (wpAny_pyIter_list pl ?_)
  have hne : a ≠ s.heap.objs.size := Nat.ne_of_lt hlt
  refine ⟨_, _, _, _, _, _, _, fun i => ns.getD i 0, rfl, (Walks.list (prog := X.prog) (w := X.w) (A := X.A.in1) (I.ok.hd hc) s.heap.objs.size a hne its.toArray).toS, ⟨⟨_, Heap.get?_push_size _ rfl, rfl, rfl⟩, pl.at fun o e => Heap.get?_push_of_some _ e⟩, fun b hb => ?_, fun i v hv => int_at rv hv, fun s' t' hm => ?_⟩
  · rw [Heap.size_push]
    simp only [List.mem_cons, List.not_mem_nil, or_false] at hb
    rcases hb with rfl | rfl
    · exact Nat.lt_succ_self _
    · exact Nat.lt_succ_of_lt hlt
  · have hn : (its.toArray).size = ns.length := by rw [List.length_map] at hl; simpa using hl
    rw [hn, preSum_sumI ns _ (Nat.le_refl _), List.take_length]
    have hg : s'.gens = s.gens := by have := hm.gens; first | exact this | exact this.symm
    have hd := hm.drawn
    have ho := hm.os
    have I1 : Inv X pins σ H { s with heap := s'.heap, toks := s'.toks } := I.kept fun b o e => hm.heap b o (fun z => by
      simp only [List.mem_cons, List.not_mem_nil, or_false] at z
      subst z
      exact absurd (Heap.lt_size e) (Nat.lt_irrefl _)) (Heap.get?_push_of_some _ e)
    have e : ({ s with heap := s'.heap, toks := s'.toks } : Shared) = s' := by
      cases s'; cases s
      simp only at hg hd ho
      subst hg hd ho; rfl
    rw [e] at I1
    exact ⟨.int (sumI ns), H, I1, ⟨t', rfl⟩, q⟩
end
end Internal

set_option Elab.async false
set_option linter.all false
set_option maxRecDepth 100000
namespace Internal
open PySem PySem.Spec PyProof.Rows
section
variable {X : Cx}
theorem get_listL : PGet X (rIxL X.K) := by
  intro pins s σ H x y v u Q I rx ry h
  obtain ⟨p, xs, i, z, rfl, rfl, hq, he, q⟩ := h
  cases rx
  obtain ⟨t, rfl⟩ := ry
  obtain ⟨its, r, pl, hz⟩ := I.list hq
  obtain ⟨j, h1, h2, h3, h4, h5⟩ := atI_get he
  obtain ⟨w, ew, rw'⟩ := r.get h2
  have hl := r.length
  have hn := line63
  have fin : EP X pins σ Q w s := ⟨z, H, I, rw', q⟩
  by_cases h0 : 0 ≤ i
  · have hj : i.toNat = j := by
      rw [seqIndex_of h0 h5] at h1
      exact Option.some.inj h1
    exact wpAny_getItem_list pl.isList h0 (by omega) (by rw [hj]; simpa using ew) fin
  · have hj : (i + (its.toArray.size : Int)).toNat = j := by
      rw [seqIndex_neg (by omega) h4] at h1
      rw [List.size_toArray, ← hl]
      exact Option.some.inj h1
    exact wpAny_getItem_list_neg pl.isList (by omega) (by rw [List.size_toArray] <;> omega) (by omega) (by rw [hj]; simpa using ew) fin
end
noncomputable def Src (J : It) (P : Hp → Prop) (n : Nat) (Y : Nat → V → Hp → Prop) : Prop :=
  (∀ i H, P H → i < n → J.go i H) ∧ (∀ H, P H → J.stop n H) ∧ ∀ i H x H', P H → i < n → J.yld i H x H' → Same H H' ∧ Y i x H'
theorem lt_some {α : Type} {xs : List α} {i : Nat} (h : i < xs.length) : ∃ x, xs[i]? = some x := ⟨xs[i], by simp [h]⟩
theorem src_list {K : PySem.W.Frag} {a : Addr} {xs : List V} : Src (Itl K a) (fun H => SqL K H a xs) xs.length (fun i x _ => xs[i]? = some x) :=
  ⟨fun i H h hi => by obtain ⟨x, hx⟩ := lt_some hi; exact ⟨xs, x, h, hx⟩, fun H h => ⟨xs, h, Nat.le_refl _⟩, fun i H x H' h hi ⟨q, r⟩ => by subst q; exact ⟨Same.refl _, r xs h⟩⟩
theorem src_enum {K : PySem.W.Frag} {a : Addr} {xs : List V} : Src (Itn K a) (fun H => SqL K H a xs) xs.length (fun i x H => ∃ p v, x = .ref p ∧ xs[i]? = some v ∧ H p = some (.tup [.int i, v])) :=
  ⟨fun i H h hi => by obtain ⟨x, hx⟩ := lt_some hi; exact ⟨xs, x, h, hx⟩, fun H h => ⟨xs, h, Nat.le_refl _⟩, fun i H x H' h hi ⟨p, v, hp, q, r, z⟩ => by subst z; exact ⟨Same.new hp _, p, v, q, r xs h, upd_same⟩⟩
theorem src_zip {K : PySem.W.Frag} {a b : Addr} {xs ys : List V} : Src (Itz K a b) (fun H => SqL K H a xs ∧ SqL K H b ys) (min xs.length ys.length) (fun i x H => ∃ p v w, x = .ref p ∧ xs[i]? = some v ∧ ys[i]? = some w ∧ H p = some (.tup [v, w])) :=
  ⟨fun i H h hi => by
    obtain ⟨x, hx⟩ := lt_some (show i < xs.length by omega)
    obtain ⟨y, hy⟩ := lt_some (show i < ys.length by omega)
    exact ⟨xs, ys, x, y, h.1, h.2, hx, hy⟩, fun H h => ⟨xs, ys, h.1, h.2, by omega⟩, fun i H x H' h hi ⟨p, v, w, hp, q, r, r', z⟩ => by subst z; exact ⟨Same.new hp _, p, v, w, q, r xs h.1, r' ys h.2, upd_same⟩⟩
section
variable {σ : St} {H : Hp} {Q : VK} {D : Ends} {ta tb tc te to ti : TE} {t u : TS} {K : PySem.W.Frag}
theorem x_forS {J : It} {P : Hp → Prop} {n : Nat} {Y : Nat → V → Hp → Prop} {g : TG} {tb : TS} (S : Src J P n Y) (Pv : Nat → St → Hp → Prop) (h0 : Pv 0 σ H) (hk : ∀ i σ H, Pv i σ H → P H)
    (hs : ∀ i x σ H H', i < n → Pv i σ H → Same H H' → Y i x H' → g x σ H' fun σ2 H2 => tb { D with nx := Pv (i + 1), ct := Pv (i + 1), bk := D.nx } σ2 H2) (hd : ∀ σ H, Pv n σ H → D.nx σ H) : ForK J g tb D σ H := by
  refine ⟨fun i m σ H => m = n - i ∧ i ≤ n ∧ Pv i σ H, ⟨n, by simp, Nat.zero_le _, h0⟩, ?_⟩
  rintro i m σ H ⟨rfl, hi, p⟩
  by_cases hlt : i < n
  · refine .inr ⟨S.1 i H (hk i σ H p) hlt, Pv (i + 1), fun σ' H' q => ⟨n - (i + 1), by omega, rfl, hlt, q⟩, fun x H' y => ?_⟩
    obtain ⟨e, y'⟩ := S.2.2 i H x H' (hk i σ H p) hlt y
    exact hs i x σ H H' hlt p e y'
  · have : i = n := by omega
    subst this
    exact .inl ⟨S.2.1 H (hk i σ H p), hd σ H p⟩
noncomputable def CompK (J : It) (caps : List (Option Nat)) (g : TG) (tf : TT) (te : TE) (σ : St) (Q : VK) (H1 : Hp) : Prop := ∀ D, H1 D = none →
  ∃ W : Nat → Nat → St → Hp → Prop, (∃ m, W 0 m (capSt caps σ) (upd H1 D (.lst []))) ∧ ∀ i m σ' H', W i m σ' H' →
    (J.stop i H' ∧ Q (.ref D) H') ∨ (J.go i H' ∧ ∃ N : St → Hp → Prop, (∀ σ2 H2, N σ2 H2 → ∃ m', m' < m ∧ W (i + 1) m' σ2 H2) ∧
      ∀ x H2, J.yld i H' x H2 → g x σ' H2 fun σ1 H3 => tf σ1 H3 fun b H4 => if b = true then te σ1 H4 fun v H5 => rAppend (.ref D) [v] H5 fun _ H6 => N σ1 H6 else N σ1 H4)
theorem x_comp {wi : TI} {caps : List (Option Nat)} {g : TG} {tf : TT} {te : TE} (q : wi σ H fun J H1 => CompK J caps g tf te σ Q H1) : tComp wi caps g tf te σ H Q := q
noncomputable def CompN (H : Hp) (Sv : St → Prop) (Pv : Nat → List V → Hp → Prop) (D : Addr) (i : Nat) (σ' : St) (H' : Hp) : Prop := Sv σ' ∧ Same H H' ∧ ∃ vs, H' D = some (.lst vs) ∧ vs.length ≤ i ∧ Pv i vs H'
theorem x_compS {J : It} {P : Hp → Prop} {n : Nat} {Y : Nat → V → Hp → Prop} {caps : List (Option Nat)} {g : TG} {tf : TT} {te : TE} (S : Src J P n Y) (e0 : ∀ H', Same H H' → P H') (Sv : St → Prop) (Pv : Nat → List V → Hp → Prop) (hc : Sv (capSt caps σ)) (h0 : ∀ H', Same H H' → Pv 0 [] H')
    (hs : ∀ i x D vs σ' H' H2, i < n → H D = none → Sv σ' → Same H H' → H' D = some (.lst vs) → vs.length ≤ i → Pv i vs H' → Same H' H2 → Y i x H2 → g x σ' H2 fun σ1 H3 => tf σ1 H3 fun b H4 => if b = true then te σ1 H4 fun v H5 => rAppend (.ref D) [v] H5 fun _ H6 => CompN H Sv Pv D (i + 1) σ1 H6 else CompN H Sv Pv D (i + 1) σ1 H4)
    (hq : ∀ D H' vs, H D = none → Same H H' → H' D = some (.lst vs) → vs.length ≤ n → Pv n vs H' → Q (.ref D) H') : CompK J caps g tf te σ Q H := by
  intro D hD
  refine ⟨fun i m σ' H' => m = n - i ∧ i ≤ n ∧ CompN H Sv Pv D i σ' H', ⟨n, by simp, Nat.zero_le _, hc, Same.new hD _, [], upd_same, Nat.le_refl _, h0 _ (Same.new hD _)⟩, ?_⟩
  rintro i m σ' H' ⟨rfl, hi, sv, e, vs, hv, hl, p⟩
  by_cases hlt : i < n
  · refine .inr ⟨S.1 i H' (e0 _ e) hlt, CompN H Sv Pv D (i + 1), fun σ2 H2 q => ⟨n - (i + 1), by omega, rfl, hlt, q⟩, fun x H2 y => ?_⟩
    obtain ⟨e', y'⟩ := S.2.2 i H' x H2 (e0 _ e) hlt y
    exact hs i x D vs σ' H' H2 hlt hD sv e hv hl p e' y'
  · have : i = n := by omega
    subst this
    exact .inl ⟨S.2.1 H' (e0 _ e), hq D H' vs hD e hv hl p⟩
theorem x_compS1 {J : It} {P : Hp → Prop} {n : Nat} {Y : Nat → V → Hp → Prop} {caps : List (Option Nat)} {g : TG} {tf : TT} {te : TE} {rest : St} (S : Src J P n Y) (e0 : ∀ H', Same H H' → P H') (hc : capSt caps σ = none :: rest) (Pv : Nat → List V → Hp → Prop) (h0 : ∀ H', Same H H' → Pv 0 [] H')
    (hs : ∀ i x D vs o H' H2, i < n → H D = none → Same H H' → H' D = some (.lst vs) → vs.length ≤ i → Pv i vs H' → Same H' H2 → Y i x H2 → g x (o :: rest) H2 fun σ1 H3 => tf σ1 H3 fun b H4 => if b = true then te σ1 H4 fun v H5 => rAppend (.ref D) [v] H5 fun _ H6 => CompN H (fun σ' => ∃ o, σ' = o :: rest) Pv D (i + 1) σ1 H6 else CompN H (fun σ' => ∃ o, σ' = o :: rest) Pv D (i + 1) σ1 H4)
    (hq : ∀ D H' vs, H D = none → Same H H' → H' D = some (.lst vs) → vs.length ≤ n → Pv n vs H' → Q (.ref D) H') : CompK J caps g tf te σ Q H :=
  x_compS S e0 (fun σ' => ∃ o, σ' = o :: rest) Pv ⟨_, hc⟩ h0 (fun i x D vs σ' H' H2 a1 a2 ⟨o, a3⟩ a4 a5 a6 a7 a8 a9 => by subst a3; exact hs i x D vs o H' H2 a1 a2 a4 a5 a6 a7 a8 a9) hq
theorem x_compS2 {J : It} {P : Hp → Prop} {n : Nat} {Y : Nat → V → Hp → Prop} {caps : List (Option Nat)} {g : TG} {tf : TT} {te : TE} {rest : St} (S : Src J P n Y) (e0 : ∀ H', Same H H' → P H') (hc : capSt caps σ = none :: none :: rest) (Pv : Nat → List V → Hp → Prop) (h0 : ∀ H', Same H H' → Pv 0 [] H')
    (hs : ∀ i x D vs o o' H' H2, i < n → H D = none → Same H H' → H' D = some (.lst vs) → vs.length ≤ i → Pv i vs H' → Same H' H2 → Y i x H2 → g x (o :: o' :: rest) H2 fun σ1 H3 => tf σ1 H3 fun b H4 => if b = true then te σ1 H4 fun v H5 => rAppend (.ref D) [v] H5 fun _ H6 => CompN H (fun σ' => ∃ o o', σ' = o :: o' :: rest) Pv D (i + 1) σ1 H6 else CompN H (fun σ' => ∃ o o', σ' = o :: o' :: rest) Pv D (i + 1) σ1 H4)
    (hq : ∀ D H' vs, H D = none → Same H H' → H' D = some (.lst vs) → vs.length ≤ n → Pv n vs H' → Q (.ref D) H') : CompK J caps g tf te σ Q H :=
  x_compS S e0 (fun σ' => ∃ o o', σ' = o :: o' :: rest) Pv ⟨_, _, hc⟩ h0 (fun i x D vs σ' H' H2 a1 a2 ⟨o, o', a3⟩ a4 a5 a6 a7 a8 a9 => by subst a3; exact hs i x D vs o o' H' H2 a1 a2 a4 a5 a6 a7 a8 a9) hq
theorem x_enumk {R : It → Hp → Prop} {a : Addr} {xs : List V} (h : SqL K H a xs) (q : R (Itn K a) H) : rEnum K R [.ref a] H := ⟨a, rfl, ⟨xs, h⟩, q⟩
theorem x_zipk {R : It → Hp → Prop} {a b : Addr} {xs ys : List V} (h : SqL K H a xs) (h' : SqL K H b ys) (q : R (Itz K a b) H) : rZip K R [.ref a, .ref b] H := ⟨a, b, rfl, ⟨xs, h⟩, ⟨ys, h'⟩, q⟩
theorem x_gTup {a : Addr} {xs : List V} {n : Nat} {t : TGs} {R : St → Hp → Prop} (h : H a = some (.tup xs)) (hn : xs.length = n) (q : t xs σ H R) : gTup K n t (.ref a) σ H R := ⟨a, xs, rfl, SqT.of h, hn, q⟩
theorem x_gCons {v : V} {r : List V} {t : TG} {u : TGs} {R : St → Hp → Prop} (q : t v σ H fun σ' H' => u r σ' H' R) : gCons t u (v :: r) σ H R := ⟨v, r, rfl, q⟩
theorem x_gNil {R : St → Hp → Prop} (q : R σ H) : gNil [] σ H R := ⟨rfl, q⟩
theorem x_ip {f : Int → Int → Int} {i j : Int} (q : Q (.int (f i j)) H) : ipI f (.int i) (.int j) H Q := ⟨i, j, rfl, rfl, q⟩
theorem x_augS {tget : V → V → Hp → VK → Prop} {tip : TIp} {tset : TSet} (q : to σ H fun o H1 => ti σ H1 fun i H2 => tget o i H2 fun x H3 => te σ H3 fun y H4 => tip x y H4 fun z H5 => tset o i z H5 fun H6 => D.nx σ H6) : tAugS to ti te tget tip tset D σ H := q
theorem x_getL {a : Addr} {xs : List V} {i : Int} {v : V} (h : SqL K H a xs) (e : atI xs i = some v) (q : Q v H) : rIxL K (.ref a) (.int i) H Q := ⟨a, xs, i, v, rfl, rfl, h, e, q⟩
theorem x_rep0 {l : Addr} {x : V} {k : Int} (h : H l = some (.lst [x])) (h0 : 0 ≤ k) (h1 : k ≤ 100000) (q : ∀ p H', H p = none → Same H H' → H' p = some (.lst (List.replicate k.toNat x)) → Q (.ref p) H') : rMulU (.ref l) (.int k) H Q :=
  .inr ⟨l, k, [x], rfl, rfl, h, by omega, by omega, by have := small_le (n := k.toNat) (by omega); simpa using this, fun p hp => by
    have e : (List.replicate k.toNat [x]).flatten = List.replicate k.toNat x := by
      generalize k.toNat = n
      induction n with
      | zero => rfl
      | succ n ih => rw [List.replicate_succ, List.flatten_cons, ih, List.replicate_succ]; rfl
    rw [e]
    exact q p _ hp (Same.new hp _) upd_same⟩
theorem x_sum {a : Addr} {ns : List Int} (h : SqL K H a (ns.map V.int)) (q : Q (.int (sumI ns)) H) : rSum K [.ref a] H Q := ⟨a, ns, rfl, h, q⟩
end
theorem x_iteY {p : Prop} [Decidable p] {A B : Prop} (h : p) (a : A) : if decide p = true then A else B := by rw [decide_eq_true h]; exact x_iteT a
theorem x_iteZ {p : Prop} [Decidable p] {A B : Prop} (h : ¬ p) (b : B) : if decide p = true then A else B := by rw [decide_eq_false h]; exact x_iteF b
section
variable {α : Type} {f : α → List V}
noncomputable def IsTs (f : α → List V) (H : Hp) : List V → List α → Prop
  | [], [] => True
  | v :: vs, x :: xs => (∃ a, v = .ref a ∧ H a = some (.tup (f x))) ∧ IsTs f H vs xs
  | _, _ => False
noncomputable def Tups (H H' : Hp) : Prop := ∀ a xs, H a = some (.tup xs) → H' a = some (.tup xs)
theorem Same.tups {H H' : Hp} (e : Same H H') : Tups H H' := fun a xs h => e a _ h
theorem LBut.tups {l : Addr} {H H' : Hp} (e : LBut l H H') : Tups H H' := fun a xs h => e.tup h
theorem IsTs.keep {H H' : Hp} (e : Tups H H') : ∀ {vs : List V} {xs : List α}, IsTs f H vs xs → IsTs f H' vs xs
  | [], [], _ => trivial
  | _ :: _, _ :: _, ⟨⟨a, q, h⟩, r⟩ => ⟨⟨a, q, e a _ h⟩, r.keep e⟩
theorem IsTs.same {H H' : Hp} {vs : List V} {xs : List α} (h : IsTs f H vs xs) (e : Same H H') : IsTs f H' vs xs := h.keep e.tups
theorem LBut.isTs {l : Addr} {H H' : Hp} {vs : List V} {xs : List α} (e : LBut l H H') (h : IsTs f H vs xs) : IsTs f H' vs xs := h.keep e.tups
theorem IsTs.length {H : Hp} : ∀ {vs : List V} {xs : List α}, IsTs f H vs xs → vs.length = xs.length
  | [], [], _ => rfl
  | _ :: _, _ :: _, ⟨_, r⟩ => by rw [List.length_cons, List.length_cons, r.length]
theorem IsTs.app {H : Hp} {a : Addr} {x : α} (h : H a = some (.tup (f x))) : ∀ {vs : List V} {xs : List α}, IsTs f H vs xs → IsTs f H (vs ++ [.ref a]) (xs ++ [x])
  | [], [], _ => ⟨⟨a, rfl, h⟩, trivial⟩
  | _ :: _, _ :: _, ⟨q, r⟩ => ⟨q, r.app h⟩
theorem IsTs.get {H : Hp} : ∀ {vs : List V} {xs : List α} {i : Nat} {v : V}, IsTs f H vs xs → vs[i]? = some v → ∃ a x, v = .ref a ∧ xs[i]? = some x ∧ H a = some (.tup (f x))
  | _ :: _, x :: _, 0, _, ⟨⟨a, q, h⟩, _⟩, e => by cases e; exact ⟨a, x, q, rfl, h⟩
  | _ :: _, _ :: _, i + 1, _, ⟨_, r⟩, e => by obtain ⟨a, x, q, e', h⟩ := r.get (i := i) e; exact ⟨a, x, q, e', h⟩
end
noncomputable def vec (n : Nat) (f : Nat → Int) : List Int := (List.range n).map f
theorem vec_len {n : Nat} {f : Nat → Int} : (vec n f).length = n := by simp [vec]
theorem vec_get {n i : Nat} {f : Nat → Int} (h : i < n) : (vec n f)[i]? = some (f i) := by simp [vec, h]
theorem vec_congr {n : Nat} {f g : Nat → Int} (h : ∀ i, i < n → f i = g i) : vec n f = vec n g := by
  unfold vec; exact List.map_congr_left fun i hi => h i (List.mem_range.mp hi)
theorem vec_set {n j : Nat} {f : Nat → Int} {v : Int} : (vec n f).set j v = vec n (fun i => if i = j then v else f i) := by
  refine List.ext_getElem? fun i => ?_
  rw [List.getElem?_set]
  by_cases hi : i < n
  · rw [vec_get hi, vec_get hi, vec_len]
    by_cases e : j = i
    · subst e; simp [hi]
    · rw [if_neg e, if_neg (Ne.symm e)]
  · have h1 : (vec n f)[i]? = none := by rw [List.getElem?_eq_none_iff, vec_len]; omega
    have h2 : ∀ g, (vec n g)[i]? = none := fun g => by rw [List.getElem?_eq_none_iff, vec_len]; omega
    rw [h1, h2, vec_len]
    by_cases e : j = i
    · subst e; simp [hi]
    · rw [if_neg e]
theorem vec_succ {n : Nat} {f : Nat → Int} : vec (n + 1) f = vec n f ++ [f n] := by unfold vec; rw [List.range_succ, List.map_append]; rfl
theorem vec_rep {n : Nat} {c : Int} : List.replicate n (V.int c) = (vec n fun _ => c).map V.int := by
  refine List.ext_getElem? fun i => ?_
  rw [List.getElem?_replicate, List.getElem?_map]
  by_cases hi : i < n
  · rw [vec_get hi, if_pos hi]; rfl
  · have h2 : (vec n fun _ => c)[i]? = none := by rw [List.getElem?_eq_none_iff, vec_len]; omega
    rw [h2, if_neg hi]; rfl
theorem ints_at {ns : List Int} {k : Int} {v : Int} (h0 : 0 ≤ k) (h : ns[k.toNat]? = some v) : atI (ns.map V.int) k = some (.int v) := atI_lt h0 (by rw [List.getElem?_map, h]; rfl)
theorem vec_at {n : Nat} {f : Nat → Int} {k : Int} (h0 : 0 ≤ k) (h : k < n) : atI ((vec n f).map V.int) k = some (.int (f k.toNat)) := ints_at h0 (vec_get (by omega))
theorem ints_set {ns : List Int} {j : Nat} {v : Int} : (ns.map V.int).set j (.int v) = (ns.set j v).map V.int := by rw [List.map_set]
theorem vec_put {n j : Nat} {f : Nat → Int} {v : Int} : ((vec n f).map V.int).set j (.int v) = (vec n (fun i => if i = j then v else f i)).map V.int := by rw [ints_set, vec_set]
theorem ixN_vec {n : Nat} {f : Nat → Int} {k : Int} (h0 : 0 ≤ k) (h : k < n) : ixN ((vec n f).map V.int).length k = some k.toNat := by
  rw [List.length_map, vec_len]; exact ixN_lt h0 h
theorem rep_ints {K : PySem.W.Frag} {H : Hp} : ∀ ns : List Int, RepAll K H (ns.map V.int) (ns.map PyData.int)
  | [] => .nil
  | n :: ns => .cons (.int n) (rep_ints ns)
theorem depth_ints : ∀ ns : List Int, PyData.depthAll (ns.map PyData.int) = 0
  | [] => by simp [PyData.depthAll]
  | n :: ns => by rw [List.map_cons, PyData.depthAll, depth_ints ns]; simp [PyData.depth]
theorem lay_ints : ∀ ns : List Int, PyData.canLayAll0 (ns.map PyData.int) = true
  | [] => by simp [PyData.canLayAll0]
  | n :: ns => by rw [List.map_cons, PyData.canLayAll0, lay_ints ns]; simp [PyData.canLay0]
theorem depth_list {ds : List PyData} : (PyData.list ds).depth = PyData.depthAll ds + 1 := by simp [PyData.depth]; try omega
section
variable {H : Hp} {Q : VK} {K : PySem.W.Frag}
theorem eqv_intsT {ns ms : List Int} (h : ns = ms) : PyData.eqv (.list (ns.map PyData.int)) (.list (ms.map PyData.int)) = true := by
  subst h; exact PySem.SeqAt.eqv_refl _ (by rw [PyData.canLay0]; exact lay_ints ns)
theorem x_neInts {a b : Addr} {ns ms : List Int} (h1 : SqL K H a (ns.map V.int)) (h2 : SqL K H b (ms.map V.int)) (e : ns = ms) (q : Q (.bl false) H) : rNeU K (.ref a) (.ref b) H Q :=
  x_neD (.lst h1 (rep_ints ns)) (.lst h2 (rep_ints ms)) (by rw [depth_list, depth_ints]; omega) (by rw [eqv_intsT e]; exact q)
end
end Internal

set_option Elab.async false
set_option linter.all false
set_option maxRecDepth 100000
namespace Internal
open PySem PySem.Spec PyProof.Rows
section
variable {σ : St} {H : Hp} {Q : VK} {D : Ends} {K : PySem.W.Frag}
theorem x_getVec {l : Addr} {n : Nat} {f : Nat → Int} {k : Int} (h : H l = some (.lst ((vec n f).map V.int))) (h0 : 0 ≤ k) (h1 : k < n) (q : Q (.int (f k.toNat)) H) : rIxL K (.ref l) (.int k) H Q := x_getL (.of h) (vec_at h0 h1) q
theorem x_ixVec {l : Addr} {n : Nat} {f : Nat → Int} {k : Int} (h : H l = some (.lst ((vec n f).map V.int))) (h0 : 0 ≤ k) (h1 : k < n) (q : Q (.int (f k.toNat)) H) : rIx K (.ref l) (.int k) H Q := x_ixLs h (vec_at h0 h1) q
theorem x_setVec {l : Addr} {n : Nat} {f : Nat → Int} {k v : Int} {R : Hp → Prop} (h : H l = some (.lst ((vec n f).map V.int))) (h0 : 0 ≤ k) (h1 : k < n)
    (q : ∀ H', LBut l H H' → H' l = some (.lst ((vec n fun i => if i = k.toNat then v else f i).map V.int)) → R H') : rSetL (.ref l) (.int k) (.int v) H R := by
  refine x_setN h (ixN_vec h0 h1) fun H' b e => q H' b ?_
  rw [e, vec_put]
theorem x_ixTs {a : Addr} {xs : List V} {i : Int} {v : V} (h : H a = some (.tup xs)) (e : atI xs i = some v) (q : Q v H) : rIx K (.ref a) (.int i) H Q := x_ixT (.of h) e q
theorem x_repVec {l : Addr} {c k : Int} (h : H l = some (.lst [.int c])) (h0 : 0 ≤ k) (h1 : k ≤ 100000) (q : ∀ p H', H p = none → Same H H' → H' p = some (.lst ((vec k.toNat fun _ => c).map V.int)) → Q (.ref p) H') : rMulU (.ref l) (.int k) H Q :=
  x_rep0 h h0 h1 fun p H' a b c => q p H' a b (by rw [c, vec_rep])
end
set_option genInjectivity false in
set_option genSizeOf false in
structure Due where
  p : Int
  q : Int
  r : Int
  a : Int
section
variable {K : PySem.W.Frag} {H : Hp} {Q : VK} {E : XK} {n : Int} {a : Addr} {ds : List Due}
end
end Internal

set_option Elab.async false
set_option linter.all false
set_option maxRecDepth 100000
namespace Internal
open PySem PySem.Spec PyProof.Rows
noncomputable def Rows (H : Hp) (as : List Addr) (k : Nat) (F : Nat → Nat → Int) : Prop := as.Nodup ∧ ∀ i a, as[i]? = some a → H a = some (.lst ((vec k (F i)).map V.int))
section
variable {H H' : Hp} {as bs : List Addr} {k : Nat} {F G : Nat → Nat → Int} {K : PySem.W.Frag} {Q : VK}
theorem Rows.same (h : Rows H as k F) (e : Same H H') : Rows H' as k F := ⟨h.1, fun i a q => e _ _ (h.2 i a q)⟩
theorem Rows.mem (h : Rows H as k F) {a : Addr} (m : a ∈ as) : ∃ i, i < as.length ∧ as[i]? = some a ∧ H a = some (.lst ((vec k (F i)).map V.int)) := by
  obtain ⟨i, hi, e⟩ := List.getElem_of_mem m
  have : as[i]? = some a := by rw [List.getElem?_eq_some_iff]; exact ⟨hi, e⟩
  exact ⟨i, hi, this, h.2 i a this⟩
theorem Rows.but {l : Addr} (h : Rows H as k F) (g : LBut l H H') (n : l ∉ as) : Rows H' as k F :=
  ⟨h.1, fun i a q => g.lst (h.2 i a q) fun z => n (z ▸ List.mem_of_getElem? q)⟩
theorem Same.rows (e : Same H H') (h : Rows H as k F) : Rows H' as k F := h.same e
theorem nodup_get {i j : Nat} {a : Addr} (n : as.Nodup) (h : as[i]? = some a) (h' : as[j]? = some a) : i = j := by
  obtain ⟨hi, e⟩ := List.getElem?_eq_some_iff.mp h
  obtain ⟨hj, e'⟩ := List.getElem?_eq_some_iff.mp h'
  exact (List.getElem_inj n).mp (e.trans e'.symm)
theorem Rows.set {j : Nat} {a : Addr} {f : Nat → Int} (h : Rows H as k F) (g : LBut a H H') (ha : as[j]? = some a) (q : H' a = some (.lst ((vec k f).map V.int))) : Rows H' as k (fun i => if i = j then f else F i) := by
  refine ⟨h.1, fun i b hb => ?_⟩
  by_cases e : i = j
  · subst e
    rw [ha] at hb; cases hb
    show H' a = some (.lst ((vec k (if i = i then f else F i)).map V.int))
    rw [if_pos rfl]; exact q
  · show H' b = some (.lst ((vec k (if i = j then f else F i)).map V.int))
    rw [if_neg e]
    refine g.lst (h.2 i b hb) fun z => e ?_
    subst z
    exact nodup_get h.1 hb ha
theorem Rows.congr (h : Rows H as k F) (e : ∀ i, i < as.length → ∀ j, j < k → F i j = G i j) : Rows H as k G := by
  refine ⟨h.1, fun i a q => ?_⟩
  have hi : i < as.length := (List.getElem?_eq_some_iff.mp q).1
  rw [h.2 i a q, vec_congr fun j hj => e i hi j hj]
theorem Rows.app {p : Addr} (h : Rows H as k F) (n : p ∉ as) (hp : H p = some (.lst ((vec k (F as.length)).map V.int))) : Rows H (as ++ [p]) k F := by
  refine ⟨List.nodup_append.mpr ⟨h.1, by simp, fun a ha b hb e => n (by rw [List.mem_singleton] at hb; subst hb; subst e; exact ha)⟩, fun i a q => ?_⟩
  rw [List.getElem?_append] at q
  split at q
  · exact h.2 i a q
  · rename_i hi
    have hi' : i - as.length = 0 := by
      cases e : i - as.length with
      | zero => rfl
      | succ m => rw [e] at q; cases q
    rw [hi'] at q; cases q
    have : i = as.length := by omega
    subst this; exact hp
theorem Rows.ne {D : Addr} (h : Rows H as k F) (hk : 0 < k) (hD : H D = some (.lst (as.map V.ref))) : D ∉ as := fun m => by
  obtain ⟨i, hi, q, e⟩ := h.mem m
  rw [hD] at e
  have e' : as.map V.ref = (vec k (F i)).map V.int := by simpa using e
  cases as with
  | nil => cases m
  | cons x xs =>
    cases k with
    | zero => omega
    | succ k =>
      have := congrArg (·[0]?) e'
      simp [vec] at this
theorem Rows.fresh {p : Addr} (h : Rows H as k F) (hp : H p = none) : p ∉ as := fun m => by
  obtain ⟨i, _, _, e⟩ := h.mem m
  rw [hp] at e; cases e
theorem x_ixRow {l a : Addr} {p : Int} (h : H l = some (.lst (as.map V.ref))) (h0 : 0 ≤ p) (e : as[p.toNat]? = some a) (q : Q (.ref a) H) : rIx K (.ref l) (.int p) H Q := x_ixLs h (atI_lt h0 (by rw [List.getElem?_map, e]; rfl)) q
end
noncomputable def rankF (ds : List Due) (m r : Nat) : Int := ds.foldl (fun (s : Int) (d : Due) => if d.p = (m : Int) ∧ d.r = (r : Int) then s + d.a else s) 0
noncomputable def withF (ds : List Due) (m : Nat → Int) : List Due := ds.mapIdx fun i d => ⟨d.p, d.q, d.r, m i⟩
end Internal

set_option linter.all false
namespace My
noncomputable def sumTo (f : Nat → Int) : Nat → Int
  | 0 => 0
  | n + 1 => sumTo f n + f n
section
variable (ch : Nat → Bool) (x : Nat → Int) (L : Int)
noncomputable def rest : Nat → Int
  | 0 => L
  | i + 1 => if ch i = true ∧ rest i > 0 then rest i - 1 else rest i
noncomputable def more (i : Nat) : Int := if ch i = true ∧ rest ch L i > 0 then x i + 1 else x i
variable {ch x L}
end
end My

set_option Elab.async false
set_option linter.all false
set_option maxRecDepth 100000
namespace Internal
open PySem PySem.Spec PyProof.Rows
theorem sumI_vec (f : Nat → Int) : ∀ n, sumI (vec n f) = My.sumTo f n
  | 0 => rfl
  | n + 1 => by rw [vec_succ, sumI_snoc, sumI_vec f n]; rfl
theorem sq_le {k m : Int} (h0 : 0 ≤ k) (h : k ≤ m) : k * k ≤ m * m := Int.mul_le_mul h h h0 (by omega)
noncomputable def spCellM (K : PySem.W.Frag) : Sp := fun vs H Q _ => ∃ (a : Addr) (ns : List Int) (k : Int), vs = [.ref a, .int k] ∧ SqL K H a (ns.map V.int) ∧ 0 ≤ k ∧ ∀ i, Q (.int i) H
theorem spCellM_i {K : PySem.W.Frag} {a : Addr} {ns : List Int} {k : Int} {H : Hp} {Q : VK} {E : XK} (hS : SqL K H a (ns.map V.int)) (h0 : 0 ≤ k) (q : ∀ i, Q (.int i) H) : spCellM K [.ref a, .int k] H Q E := ⟨a, ns, k, rfl, hS, h0, q⟩
noncomputable def spDrawM (K : PySem.W.Frag) : Sp := fun vs H Q _ => ∃ (a : Addr) (ns : List Int) (k m : Int), vs = [.ref a, .int k, .int m] ∧ SqL K H a (ns.map V.int) ∧ 0 ≤ k ∧ k ≤ 10000 ∧ 1 ≤ m ∧ ∀ i, 0 ≤ i → i < m → Q (.int i) H
theorem spDrawM_i {K : PySem.W.Frag} {a : Addr} {ns : List Int} {k m : Int} {H : Hp} {Q : VK} {E : XK} (hS : SqL K H a (ns.map V.int)) (h0 : 0 ≤ k) (h1 : k ≤ 10000) (hm : 1 ≤ m) (q : ∀ i, 0 ≤ i → i < m → Q (.int i) H) : spDrawM K [.ref a, .int k, .int m] H Q E := ⟨a, ns, k, m, rfl, hS, h0, h1, hm, q⟩
noncomputable def big : Int := 1000000000000000000000000000000000000000000000000000000000000
noncomputable def spGreatM (K : PySem.W.Frag) : Sp := fun vs H Q _ => ∃ (a : Addr) (ns : List Int) (k m : Int), vs = [.ref a, .int k, .int m] ∧ SqL K H a (ns.map V.int) ∧ 0 ≤ k ∧ k ≤ 10000 ∧ 1 ≤ m ∧ m ≤ 1000000000000000000000000000000000000000000000000000000000000 ∧ ∀ i, 0 ≤ i → i < m → Q (.int i) H
theorem spGreatM_i {K : PySem.W.Frag} {a : Addr} {ns : List Int} {k m : Int} {H : Hp} {Q : VK} {E : XK} (hS : SqL K H a (ns.map V.int)) (h0 : 0 ≤ k) (h1 : k ≤ 10000) (hm : 1 ≤ m) (hm' : m ≤ 1000000000000000000000000000000000000000000000000000000000000) (q : ∀ i, 0 ≤ i → i < m → Q (.int i) H) : spGreatM K [.ref a, .int k, .int m] H Q E := ⟨a, ns, k, m, rfl, hS, h0, h1, hm, hm', q⟩
noncomputable def spAmountM (K : PySem.W.Frag) : Sp := fun vs H Q _ => ∃ (a : Addr) (ns : List Int) (k m : Int), vs = [.ref a, .int k, .int m] ∧ SqL K H a (ns.map V.int) ∧ 0 ≤ k ∧ k ≤ 5000 ∧ 8 ≤ m ∧ m < 1000000000000000000000000000000000000000000000000000000000000 ∧ ∀ i, 0 ≤ i → i ≤ m → Q (.int i) H
theorem spAmountM_i {K : PySem.W.Frag} {a : Addr} {ns : List Int} {k m : Int} {H : Hp} {Q : VK} {E : XK} (hS : SqL K H a (ns.map V.int)) (h0 : 0 ≤ k) (h1 : k ≤ 5000) (hm : 8 ≤ m) (hm' : m < 1000000000000000000000000000000000000000000000000000000000000) (q : ∀ i, 0 ≤ i → i ≤ m → Q (.int i) H) : spAmountM K [.ref a, .int k, .int m] H Q E := ⟨a, ns, k, m, rfl, hS, h0, h1, hm, hm', q⟩
noncomputable def shareF (c : Int) (n : Nat) (b : Nat → Int) : Nat → Int := if My.sumTo b n = 0 then fun _ => 0 else My.more (fun i => decide (c * b i % My.sumTo b n > 0)) (fun i => c * b i / My.sumTo b n) (c - My.sumTo (fun i => c * b i / My.sumTo b n) n)
end Internal

set_option Elab.async false
set_option linter.all false
set_option maxRecDepth 100000
namespace Internal
open PySem PySem.Spec PyProof.Rows
end Internal

set_option Elab.async false
set_option linter.all false
set_option maxRecDepth 100000
namespace Internal
open PySem PySem.Spec PyProof.Rows
theorem BT.range : bootBuiltins "range" = some (.type "range") := by decide +kernel
section
variable {X : Cx}
noncomputable def rRange : List V → Hp → VK → Prop := fun vs H Q => ∃ j : Int, vs = [.int j] ∧ ∀ p, H p = none → Q (.ref p) (upd H p (.rng 0 j))
theorem call_rangeV : CallR X (.type "range") rRange := by
  intro pins s σ H xs us Q I r h
  obtain ⟨j, rfl, q⟩ := h
  obtain ⟨u, rfl, t, rfl⟩ := vals1 r
  refine call_range_1 ?_
  have J : Inv X pins σ (upd H s.heap.objs.size (.rng 0 j)) { s with heap := s.heap.push { cls := .type "range", data := .fields #[.int 0 s.toks, .int j t, .int 1 (s.toks + 1)] }, toks := s.toks + 1 + 1 } := I.laid (fun b o e => Heap.get?_push_of_some _ e) (Nat.le_refl _) ⟨_, _, _, Heap.get?_push_size _ rfl⟩
  exact ⟨.ref s.heap.objs.size, _, J, rfl, q _ (I.hok.fresh (Nat.le_refl _))⟩
end
section
variable {H : Hp} {Q : VK} {K : PySem.W.Frag}
theorem x_rangeN {j : Int} (q : ∀ p H', H p = none → Same H H' → H' p = some (.rng 0 j) → Q (.ref p) H') : rRange [.int j] H Q := ⟨j, rfl, fun p hp => q p _ hp (Same.new hp _) upd_same⟩
end
noncomputable def optV : Option Nat → V
  | none => .non
  | some i => .int i
noncomputable def optL (n : Nat) (w : Nat → Option Nat) : List V := (List.range n).map fun m => optV (w m)
noncomputable def useful (g : Nat → Bool) (m : Nat) (d : Due) : Prop := d.p = (m : Int) ∧ 0 < d.a ∧ g d.p.toNat = true ∧ g d.q.toNat = true
noncomputable instance {g : Nat → Bool} {m : Nat} {d : Due} : Decidable (useful g m d) := by unfold useful; infer_instance
noncomputable def onwF (ds : List Due) (g : Nat → Bool) : Nat → Nat → Option Nat
  | 0, _ => none
  | i + 1, m => match ds[i]? with
    | some d => if useful g m d then some i else onwF ds g i m
    | none => onwF ds g i m
noncomputable def goF (ds : List Due) : Nat → Nat → Bool
  | 0, _ => true
  | t + 1, m => (onwF ds (goF ds t) ds.length m).isSome
noncomputable def wayF (ds : List Due) : Nat → Nat → Option Nat
  | 0, _ => none
  | t + 1, m => onwF ds (goF ds t) ds.length m
set_option genInjectivity false in
set_option genSizeOf false in
structure Lined (n : Nat) (ds : List Due) (ls : List Int) : Prop where
  nd : ls.Nodup
  lt : ∀ x ∈ ls, 0 ≤ x ∧ x < n
  up : ∀ d ∈ ds, 0 < d.a → ∀ j : Nat, ls[j]? = some d.q → ∃ i : Nat, i < j ∧ ls[i]? = some d.p
noncomputable def fwd (seed : Int) (m : Nat) : Int := ((m : Int) * 5 + seed) % 11
end Internal

set_option Elab.async false
set_option linter.all false
set_option maxRecDepth 100000
namespace Internal
open PySem
noncomputable def nextM (ds : List Due) (n m : Nat) : Nat := match wayF ds n m with
  | some j => match ds[j]? with
    | some d => d.q.toNat
    | none => 0
  | none => 0
noncomputable def dueOn (ds : List Due) (n m : Nat) : Int := match wayF ds n m with
  | some j => j
  | none => 0
set_option genInjectivity false in
set_option genSizeOf false in
structure Walked (ds : List Due) (n : Nat) (ms : List Nat) (x : Nat) : Prop where
  nd : ms.Nodup
  ok : ∀ m ∈ ms, m < n ∧ wayF ds n m ≠ none
  at' : x < n ∧ wayF ds n x ≠ none
  nx : ∀ (i m : Nat), ms[i]? = some m → nextM ds n m = (ms ++ [x])[i + 1]?.getD 0
noncomputable def natI (ms : List Nat) : List Int := ms.map fun m : Nat => (m : Int)
theorem natI_len {ms : List Nat} : (natI ms).length = ms.length := by unfold natI; rw [List.length_map]
end Internal

set_option Elab.async false
set_option linter.all false
set_option maxRecDepth 100000
namespace Internal
open PySem
set_option genInjectivity false in
set_option genSizeOf false in
structure Round (ds : List Due) (n : Nat) (ms : List Nat) : Prop where
  ne : ms ≠ []
  nd : ms.Nodup
  ok : ∀ m ∈ ms, m < n ∧ wayF ds n m ≠ none
  nx : ∀ (i m : Nat), ms[i]? = some m → nextM ds n m = ms[(i + 1) % ms.length]?.getD 0
end Internal

set_option Elab.async false
set_option linter.all false
set_option maxRecDepth 100000
namespace Internal
open PySem PySem.Spec PyProof.Rows
section
variable {X : Cx} {tg : Expr}
end
end Internal

set_option Elab.async false
set_option linter.all false
set_option maxRecDepth 100000
namespace Internal
open PySem PySem.Spec PyProof.Rows
section
variable {X : Cx}
end
noncomputable def numN (ds : List Due) (n m : Nat) : Nat := (dueOn ds n m).toNat
noncomputable def subF (g : Nat → Int) (js : List Nat) (f : Int) (i : Nat) : Int := if i ∈ js then g i - f else g i
set_option genInjectivity false in
set_option genSizeOf false in
structure CutAt (es : List Due) (n : Nat) (g : Nat → Int) (ms : List Nat) (f : Int) (g' : Nat → Int) : Prop where
  rd : Round (withF es g) n ms
  le : ∀ m ∈ ms, f ≤ g (numN (withF es g) n m)
  at' : ∃ m ∈ ms, f = g (numN (withF es g) n m)
  eq : ∀ i, g' i = subF g (ms.map (numN (withF es g) n)) f i
section
variable {es : List Due} {n : Nat} {g g' : Nat → Int} {ms : List Nat} {f : Int}
end
section
variable {es : List Due} {n : Nat} {L : Nat → Nat → Int} {cs : List (List Nat × Int)}
end
section
variable {es : List Due} {n : Nat} {L L' : Nat → Nat → Int} {cs : List (List Nat × Int)} {bad : List Addr} {H H' : Hp} {vs : List V}
end
end Internal

set_option Elab.async false
set_option linter.all false
set_option maxRecDepth 100000
namespace Internal
open PySem PySem.Spec PyProof.Rows
section
variable {K : PySem.W.Frag} {σ : St} {H : Hp} {Q : VK} {D : Ends} {a C dx : Addr} {fs : List (Str × V)} {f m : Str}
noncomputable def rFld (K : PySem.W.Frag) (f : Str) (Q : VK) (x : V) (H : Hp) : Prop := ∃ a C dx fs v, x = .ref a ∧ H a = some (.ins C dx fs) ∧ Cls K C ∧ NoAttr K C f ∧ fs.lookup f = some v ∧ Q v H
theorem x_fld {ta : TE} (q : ta σ H (rFld K f Q)) : tFld K ta f σ H Q := q
theorem x_fldk {v : V} (h : H a = some (.ins C dx fs)) (c : Cls K C) (n : NoAttr K C f) (l : fs.lookup f = some v) (q : Q v H) : rFld K f Q (.ref a) H := ⟨a, C, dx, fs, v, rfl, h, c, n, l, q⟩
noncomputable def rSFld (K : PySem.W.Frag) (f : Str) (R : Hp → Prop) (y x : V) (H : Hp) : Prop := ∃ a C dx fs, x = .ref a ∧ H a = some (.ins C dx fs) ∧ Cls K C ∧ NoAttr K C f ∧ fs.length < 1000 ∧ R (upd H a (.ins C dx (putF f y fs)))
theorem x_sfld {ta tv : TE} (q : tv σ H fun y H1 => ta σ H1 (rSFld K f (D.nx σ) y)) : sFld K ta tv f D σ H := q
theorem x_sfldk {R : Hp → Prop} {y : V} (h : H a = some (.ins C dx fs)) (c : Cls K C) (n : NoAttr K C f) (hl : fs.length < 1000) (q : ∀ H', But a H H' → H' a = some (.ins C dx (putF f y fs)) → R H') : rSFld K f R y (.ref a) H :=
  ⟨a, C, dx, fs, rfl, h, c, n, hl, q _ But.upd upd_same⟩
noncomputable def rMeth (C : Addr) (m : Str) (sp : Sp) (E : XK) (t : TA) (σ : St) (Q : VK) (x : V) (H : Hp) : Prop := ∃ a dx fs, x = .ref a ∧ H a = some (.ins C dx fs) ∧ fs.lookup m = none ∧ t σ H fun vs H2 => sp (x :: (vs ++ [])) H2 Q E
theorem x_meth {sp : Sp} {E : XK} {ta : TE} {t : TA} (q : ta σ H (rMeth C m sp E t σ Q)) : tMeth C m sp [] E ta t σ H Q := q
theorem x_methk {sp : Sp} {E : XK} {t : TA} (h : H a = some (.ins C dx fs)) (l : fs.lookup m = none) (q : t σ H fun vs H2 => sp (.ref a :: vs) H2 Q E) : rMeth C m sp E t σ Q (.ref a) H := by
  refine ⟨a, dx, fs, rfl, h, l, ?_⟩
  simp only [List.append_nil]
  exact q
noncomputable def rMake (C : Addr) (sp : Sp) (E : XK) (Q : VK) (vs : List V) (H1 : Hp) : Prop := ∀ x dx, H1 x = none → H1 dx = none → dx ≠ x → sp (.ref x :: (vs ++ [])) (upd (upd H1 dx (.own x)) x (.ins C dx [])) (fun v H2 => v = .non ∧ Q (.ref x) H2) E
theorem x_make {sp : Sp} {E : XK} {t : TA} (q : t σ H (rMake C sp E Q)) : tMake C sp [] E t σ H Q := q
theorem x_makek {sp : Sp} {E : XK} {vs : List V} (q : ∀ x dx H', H x = none → Same H H' → H' x = some (.ins C dx []) → sp (.ref x :: vs) H' (fun v H2 => v = .non ∧ Q (.ref x) H2) E) : rMake C sp E Q vs H := fun x dx hx hd ne => by
  rw [List.append_nil]
  exact q x dx _ hx ((Same.new hd _).trans (Same.new (by rw [upd_ne ne.symm]; exact hx) _)) upd_same
end
noncomputable def rMethR (C : Addr) (m : Str) (sp : Sp) (t : TA) (σ : St) (Q : VK) (Eh : Addr → Hp → Prop) (x : V) (H : Hp) : Prop := ∃ a dx fs, x = .ref a ∧ H a = some (.ins C dx fs) ∧ fs.lookup m = none ∧ t σ H fun vs H2 => sp (x :: vs) H2 Q fun cls _ H3 => ∃ C', cls = .ref C' ∧ Eh C' H3
noncomputable abbrev tMethR (C : Addr) (m : Str) (sp : Sp) (ta : TE) (t : TA) : TEr := fun σ H Q Eh => ta σ H (rMethR C m sp t σ Q Eh)
theorem x_eqS {K : PySem.W.Frag} {H : Hp} {Q : VK} {x y : Str} (q : Q (.bl (decide (x = y))) H) : rEqU K (.str x) (.str y) H Q := .inr ⟨rfl, by rw [show decide (V.str x = V.str y) = decide (x = y) by simp]; exact q⟩
theorem x_neS {K : PySem.W.Frag} {H : Hp} {Q : VK} {x y : Str} (q : Q (.bl (!decide (x = y))) H) : rNeU K (.str x) (.str y) H Q := .inr ⟨rfl, by rw [show decide (V.str x = V.str y) = decide (x = y) by simp]; exact q⟩
end Internal

set_option Elab.async false
set_option linter.all false
set_option maxRecDepth 100000
namespace Internal
open PySem PySem.Spec PyProof.Rows
noncomputable def bfl (m w y : Int) (d : Addr) : List (Str × V) := putF "deals" (.ref d) (putF "day" (.int y) (putF "wares" (.int w) (putF "many" (.int m) [])))
section
variable {m w y : Int} {d : Addr}
theorem bfl_deals : (bfl m w y d).lookup ("deals" : Str) = some (.ref d) := by unfold bfl; rw [lookup_putF, if_pos rfl]
theorem bfl_day : (bfl m w y d).lookup ("day" : Str) = some (.int y) := by unfold bfl; rw [lookup_putF, if_neg (by decide +kernel), lookup_putF, if_pos rfl]
theorem bfl_wares : (bfl m w y d).lookup ("wares" : Str) = some (.int w) := by unfold bfl; rw [lookup_putF, if_neg (by decide +kernel), lookup_putF, if_neg (by decide +kernel), lookup_putF, if_pos rfl]
theorem bfl_no {n : Str} (h1 : ¬ n = "deals") (h2 : ¬ n = "day") (h3 : ¬ n = "wares") (h4 : ¬ n = "many") : (bfl m w y d).lookup n = none := by
  unfold bfl
  rw [lookup_putF, if_neg h1, lookup_putF, if_neg h2, lookup_putF, if_neg h3, lookup_putF, if_neg h4]
  rfl
end
set_option genInjectivity false in
set_option genSizeOf false in
structure T7 where
  p : Int
  q : Int
  w : Int
  u : Int
  a : Int
  y : Int
  r : Int
noncomputable def termV (t : T7) : List V := [.int t.p, .int t.q, .int t.w, .int t.u, .int t.a, .int t.y, .int t.r]
noncomputable def dealV (x : T7 × Str) : List V := termV x.1 ++ [.str x.2]
set_option genInjectivity false in
set_option genSizeOf false in
structure TermOk (m w y : Int) (t : T7) : Prop where
  p0 : 0 ≤ t.p
  p1 : t.p < m
  q0 : 0 ≤ t.q
  q1 : t.q < m
  pq : t.p ≠ t.q
  w0 : 0 ≤ t.w
  w1 : t.w < w
  u0 : 1 ≤ t.u
  u1 : t.u ≤ 1000000
  a0 : 1 ≤ t.a
  a1 : t.a ≤ 1000000000
  y0 : 0 ≤ t.y
  y1 : t.y ≤ 1000000
  r0 : 0 ≤ t.r
  r1 : t.r ≤ 2
  yd : y ≤ t.y
set_option genInjectivity false in
set_option genSizeOf false in
structure Bk (C : Addr) (H : Hp) (b d : Addr) (m w y : Int) (ts : List (T7 × Str)) : Prop where
  ob : ∃ dx, H b = some (.ins C dx (bfl m w y d))
  ds : ∃ xs, H d = some (.lst xs) ∧ IsTs dealV H xs ts
section
variable {C : Addr} {H H' : Hp} {b d : Addr} {m w y : Int} {ts : List (T7 × Str)}
theorem LBut.ins {l : Addr} (g : LBut l H H') {a C dx : Addr} {fs : List (Str × V)} (h : H a = some (.ins C dx fs)) : H' a = some (.ins C dx fs) := by
  obtain ⟨ys, e⟩ := g.2
  exact g.1.at h (ne_of h e (by intro z; cases z))
theorem Bk.but {l : Addr} (h : Bk C H b d m w y ts) (g : LBut l H H') (n : d ≠ l) : Bk C H' b d m w y ts := by
  obtain ⟨⟨dx, h1⟩, xs, h2, h3⟩ := h
  exact ⟨⟨dx, g.ins h1⟩, xs, g.lst h2 n, LBut.isTs g h3⟩
end
noncomputable def spBInit (C : Addr) : Sp := fun vs H Q _ => ∃ (p dx : Addr) (m w : Int), vs = [.ref p, .int m, .int w] ∧ H p = some (.ins C dx []) ∧ ∀ d H', H d = none → (∀ b o, b ≠ p → H b = some o → H' b = some o) → H' p = some (.ins C dx (bfl m w 0 d)) → H' d = some (.lst []) → Q .non H'
noncomputable def spToday (C : Addr) : Sp := fun vs H Q _ => ∃ (b dx d : Addr) (m w y : Int), vs = [.ref b] ∧ H b = some (.ins C dx (bfl m w y d)) ∧ Q (.int y) H
noncomputable def stand (t : T7) : T7 × Str := (t, ("standing" : Str))
theorem cut_le {xs : List V} {k : Nat} : (cutV xs none (some (k : Int))).length ≤ k := by
  unfold cutV
  rw [HT.sIx_nat, HT.sIx_none, List.length_take]
  omega
end Internal

set_option Elab.async false
set_option linter.all false
set_option maxRecDepth 100000
namespace Internal
open PySem PySem.Spec PyProof.Rows
noncomputable abbrev TAr := St → Hp → (List V → Hp → Prop) → (Addr → Hp → Prop) → Prop
noncomputable def PAr (X : Cx) (es : List Expr) (t : TAr) : Prop := ∀ (pos : Pos) (pins : List (Addr × Obj)) (s : Shared) (σ : St) (H : Hp) (Q : List V → Hp → Prop) (Eh : Addr → Hp → Prop), Inv X pins σ H s → t σ H Q Eh → wpAny (model X.prog X.w) X.A (spliced (backTo pos (starEach es X.env))) (AP X pins σ Q) (Caught X pins fun C σ' H' => σ' = σ ∧ Eh C H') s
section
variable {X : Cx} {pos : Pos}
noncomputable abbrev tLastR (te : TEr) : TAr := fun σ H Q Eh => te σ H (fun y H2 => Q [y] H2) Eh
noncomputable abbrev tConsR (tc : TE) (t : TAr) : TAr := fun σ H Q Eh => tc σ H fun x H1 => t σ H1 (fun xs H2 => Q (x :: xs) H2) Eh
noncomputable abbrev tTupR (t : TAr) : TEr := fun σ H Q Eh => t σ H (fun xs H1 => rTup Q xs H1) Eh
noncomputable abbrev tSetR (i : Nat) (te : TEr) : TTr := fun D Eh σ H => te σ H (fun y H2 => D.nx (σ.set i (some y)) H2) fun C H2 => Eh C σ H2
theorem par_last {e : Expr} {te : TEr} (he : PEr X e te) (hs : autoParam (starEach [e] X.env = [(false, eval e X.env)]) Internal.aut2._auto_1) : PAr X [e] (tLastR te) := by
  intro pos pins s σ H Q Eh I h
  rw [hs]
  show wpAny _ _ (spliced ((false, eval e X.env) :: backTo pos [])) _ _ s
  refine Calls.spliced_cons (wpAny_mono (he pins s σ H _ _ I h) (fun u s1 ⟨x, H1, I1, r1, q1⟩ => ?_) fun _ _ z => z)
  exact Calls.spliced_nil ⟨[x], H1, I1, .cons r1 .nil, q1⟩
theorem par_cons {c : Expr} {es : List Expr} {tc : TE} {t : TAr} (hc : PE X.nox c tc) (hr : PAr X es t) (hs : autoParam (starEach (c :: es) X.env = (false, eval c X.env) :: starEach es X.env) Internal.aut2._auto_1) : PAr X (c :: es) (tConsR tc t) := by
  intro pos pins s σ H Q Eh I h
  rw [hs]
  show wpAny _ _ (spliced ((false, eval c X.env) :: backTo pos (starEach es X.env))) _ _ s
  refine Calls.spliced_cons (wpAny_mono (hc pins s σ H _ (I.wish _) h) (fun u s1 ⟨x, H1, J1, r1, q1⟩ => ?_) fun _ _ z => z.elim)
  exact wpAny_mono (hr pos pins s1 σ H1 _ _ J1.unwish q1) (fun us s2 ⟨xs, H2, I2, r2, q2⟩ => ⟨x :: xs, H2, I2, .cons r1 r2, q2⟩) fun _ _ z => z
theorem per_tup {es : List Expr} {t : TAr} {x1} (h : PAr X es t) : PEr X (.Tuple es x1 pos) (tTupR t) := by
  intro pins s σ H Q Eh I hq
  refine wpAny_Tuple_spliced (wpAny_mono (h pos pins s σ H _ _ I hq) (fun us s1 ⟨xs, H1, I1, r, z, q⟩ => ⟨by rw [← r.length]; exact z, ?_⟩) fun _ _ z => z)
  have hf : H1 s1.heap.objs.size = none := I1.hok.fresh (Nat.le_refl _)
  refine ⟨.ref s1.heap.objs.size, upd H1 s1.heap.objs.size (.tup xs), I1.laid (t' := s1.toks) (fun b u e => Heap.get?_push_of_some _ e) (Nat.le_refl _) ?_, rfl, q _ hf⟩
  exact ⟨z, us, r, ⟨_, Heap.get?_push_size _ rfl, rfl, _, rfl⟩⟩
theorem ptr_set {i : Nat} {x : Str} {e : Expr} {te : TEr} {pos' : Pos} (hN : X.N.Nodup) (hi : X.N[i]? = some x) (hx : Loc X.env.scope x) (he : PEr X e te) (hs : autoParam (swapsWith e (some (.Name x pos')) pos.line X.env = pure false) Internal.aut2._auto_1) (hf : autoParam (X.fn x = true ∨ X.env.scope.names.lookup x = some .local) Internal.aut0._auto_1) :
    PTr X (.Assign [.Name x pos'] e pos) (tSetR i te) := by
  intro pins s σ H D Eh I h
  refine wpAny_Assign_Name (wpAny_mono (he pins s σ H _ _ I h) (fun v s1 ⟨y, H1, I1, r1, q1⟩ => ?_) fun e s1 zz => by obtain ⟨σ', H1, s2, er, C, t, B, H', I', e1, fl, e2, q⟩ := zz; exact ⟨σ', H1, s2, er, C, t, B, H', I', e1, fl, e2 ▸ q⟩) hs
  exact store_ok I1 hN hi hx r1 (fun s2 I2 => ⟨_, H1, I2, q1⟩) hf
end
section
variable {σ : St} {H : Hp} {D : Ends} {Eh : Addr → Hp → Prop} {Eg : Addr → St → Hp → Prop}
end
end Internal

set_option Elab.async false
set_option linter.all false
set_option maxRecDepth 100000
namespace Internal
open PySem PySem.Spec PyProof.Rows
noncomputable def MemOk (m p q : Int) : Prop := (0 ≤ p ∧ p < m) ∧ (0 ≤ q ∧ q < m) ∧ p ≠ q
noncomputable instance (m p q : Int) : Decidable (MemOk m p q) := inferInstanceAs (Decidable (_ ∧ _))
noncomputable def TrmOk (w : Int) (t : T7) : Prop := (0 ≤ t.w ∧ t.w < w) ∧ (1 ≤ t.u ∧ t.u ≤ 1000000) ∧ (1 ≤ t.a ∧ t.a ≤ 1000000000) ∧ (0 ≤ t.y ∧ t.y ≤ 1000000) ∧ (0 ≤ t.r ∧ t.r ≤ 2)
noncomputable instance (w : Int) (t : T7) : Decidable (TrmOk w t) := inferInstanceAs (Decidable (_ ∧ _))
end Internal

set_option Elab.async false
set_option linter.all false
set_option maxRecDepth 100000
namespace Internal
open PySem PySem.Spec PyProof.Rows
section
variable {H H' : Hp} {as : List Addr} {ts : List (T7 × Str)}
end
theorem x_tupOfL {K : PySem.W.Frag} {H : Hp} {Q : VK} {a : Addr} {xs : List V} (h : H a = some (.lst xs)) (q : ∀ p H', H p = none → Same H H' → H' p = some (.tup xs) → Q (.ref p) H') : rTupleOf K [.ref a] H Q := ⟨a, xs, rfl, .inl ⟨.of h, fun l hl => q l _ hl (Same.new hl _) upd_same⟩⟩
end Internal

set_option Elab.async false
set_option linter.all false
set_option maxRecDepth 100000
namespace Internal
open PySem PySem.Spec PyProof.Rows
set_option genInjectivity false in
set_option genSizeOf false in
structure RoomH (k : Nat) (A : Around) : Prop where
  dp : A.depth + 3 * k + 5 < recursionLimit
  un : A.units + 16 * k + 200 < cLine
theorem RoomH.deeper {k : Nat} {A : Around} (r : RoomH (k + 1) A) (env : Env) : RoomH k (A.deeper env) :=
  ⟨by have := r.dp; show A.depth + 1 + 3 * k + 5 < _; omega, by have := r.un; show A.units + 3 + 16 * k + 200 < _; omega⟩
theorem RoomH.depth {k : Nat} {A : Around} (r : RoomH k A) : A.depth < recursionLimit := by have := r.dp; omega
theorem RoomH.units {k : Nat} {A : Around} (r : RoomH k A) : A.units + 64 < cLine := by have := r.un; omega
theorem Room.mark {k : Nat} {A : Around} (r : Room k A) (h : Option Value) : RoomH k (A.mark h) := ⟨r.dp, r.un⟩
noncomputable abbrev Cx.toH (X : Cx) (A : Around) : Cx := { X with A := A, calm := false, xe := fun _ _ => False }
theorem Inv.toH {X : Cx} {pins : List (Addr × Obj)} {σ : St} {H : Hp} {s : Shared} (I : Inv X pins σ H s) (A : Around) (hf : A.frames = some X.stack) : Inv (X.toH A) pins σ H s :=
  ⟨⟨I.ok.mod, I.ok.kind, I.ok.glob, I.ok.blt, I.ok.above, I.ok.inj, I.ok.has, I.ok.cab, fun z => (by cases z), hf, I.ok.stk, I.ok.exf, I.ok.bs, I.ok.bsz, I.ok.noex, I.ok.exfs, I.ok.funs, I.ok.frf⟩, I.os, I.bare, I.base, I.loc, I.cell, I.free, I.freeC, I.pin, I.hok, I.len⟩
set_option genInjectivity false in
set_option genSizeOf false in
structure FnOkH (P : Program) (w : World) (K : PySem.W.Frag) (mg : Str → Option Value) (base : Heap) (k : Nat) (f : Addr) (fd : FuncData) (ps : List Str) (sp : Sp) : Prop where
  len : ∀ vs H Q E, sp vs H Q E → vs.length = ps.length
  run : ∀ (A : Around) (outer : List Env) (s : Shared) (H : Hp) (args : Args) (us : List Value) (vs : List V) (Q : VK) (E : XK), RoomH k A → Env0 P w K mg base A outer s H → BindsTo s fd args (ps.zip us) → Vals vs us → sp vs H Q E →
    codeAny (model P w) A (.call (.ref f) args) (CR (fun _ _ _ _ _ _ => False) outer P w H s Q E) s
noncomputable abbrev cxH (P : Program) (w : World) (K : PySem.W.Frag) (mg : Str → Option Value) (base : Heap) (N : List Str) (qual : Str) (scope : Scope) (f : Addr) (cd : Value) (A : Around) (outer : List Env) (s : Shared) (H : Hp) (E : XK) : Cx :=
  (cxOf (CXF P w) P w K mg base N qual scope f cd A outer s H E).toH (A.deeper (envOfC qual scope s.heap.objs.size f cd))
theorem Fun.okH {P : Program} {w : World} {K : PySem.W.Frag} {mg : Str → Option Value} {base : Heap} {x qual : Str} {st : Stmt} {f : Addr} {fd : FuncData} {N ps : List Str} {k : Nat} {sp : Sp} (F : Fun K x qual st f fd) (S : FnScope N ps (defScope st)) (len : ∀ vs H Q E, sp vs H Q E → vs.length = ps.length)
    (hbody : ∀ (cdv : Value) (A : Around) (outer : List Env) (s : Shared) (H : Hp) (vs : List V) (Q : VK) (E : XK), RoomH k (A.deeper (envOfC qual (defScope st) s.heap.objs.size f cdv)) → sp vs H Q E →
      ∃ t, PSs (cxH P w K mg base N qual (defScope st) f cdv A outer s H E) (defBody st) t ∧ t { nx := fun _ H' => Q .non H', rt := Q } (start N vs) H) : FnOkH P w K mg base (k + 1) f fd ps sp := by
  obtain ⟨oc, od, kV, doc, pm, an, cdv, ct, osl, rfl, lk, hcd⟩ := F.ex
  refine ⟨len, fun A outer s H args us vs Q E hr e0 hb r hsp => ?_⟩
  have hl := len _ _ _ _ hsp
  have KX : K.In s.heap := e0.mod.kin.keeps fun b o e => (e0.bs b o e).1
  have lim : s.heap.NoLimit := e0.mod.nolimit.keeps fun b o e => (e0.bs b o e).1
  have hkind : ∀ y ∈ ps.zip us, (defScope st).names.lookup y.1 = some .local ∨ ((defScope st).names.lookup y.1 = some .cell ∧ ((cellsFrom (s.heap.objs.size + 1) (defScope st).names []).lookup y.1).isSome = true) := fun ⟨n, v⟩ hy => by
    rcases S.par n (List.of_mem_zip hy).1 with q | q
    · exact .inl q
    · exact .inr ⟨q, PySem.W.cellsFrom_some _ _ _ (.inl q)⟩
  refine codeAny_call_function hr.depth (KX _ _ lk) rfl S.co S.gen rfl (PySem.W.codeRec_of KX hcd) (hb _ _ _ _ ?_)
  refine wpAny_newFunctionEnv_cells S.kind hkind fun env he s1 x => ?_
  subst he
  refine ⟨lim.keeps x.toInCall.keep, codeAny_func ?_⟩
  obtain ⟨t, ht, hq⟩ := hbody cdv A outer s H vs Q E (hr.deeper _) hsp
  have e0' : Env0 P w K mg base { A with handled := none } outer s H := ⟨e0.frames, e0.mod, e0.bs, e0.bsz, e0.funs, e0.frf, e0.hok, e0.bare⟩
  have I0 : Inv (cxOf (CXF P w) P w K mg base N qual (defScope st) f cdv { A with handled := none } outer s H E) [] (start N vs) H s1 := inv_start S rfl e0' hl r x
  have I : Inv (cxH P w K mg base N qual (defScope st) f cdv A outer s H E) [] (start N vs) H s1 := I0.toH _ I0.ok.frames
  refine wpAny_mono (ht [] s1 (start N vs) H _ I hq) (fun fl s' hs => ?_) fun e s' hs => hs.elim
  have fin : ∀ {σ' : St} {H' : Hp} {v : V} {u : Value}, Inv (cxH P w K mg base N qual (defScope st) f cdv A outer s H E) [] σ' H' s' → RelV v u → Q v H' → CE outer P w H s Q u s' :=
    fun {σ' H' v u} J rv q => ⟨v, H', J.os, J.bare, J.base, J.hok, rv, q⟩
  cases fl with
  | ret u =>
    obtain ⟨v, σ', H', J, rv, q⟩ := hs
    exact fin J rv q
  | next =>
    obtain ⟨σ', H', J, q⟩ := hs
    exact fin (v := V.non) (u := Value.none) J rfl q
  | brk =>
    obtain ⟨_, _, _, q⟩ := hs
    exact False.elim q
  | cont =>
    obtain ⟨_, _, _, q⟩ := hs
    exact False.elim q
theorem pe_callH {X : Cx} {k : Nat} {f : Addr} {fd : FuncData} {ps : List Str} {sp : Sp} {E : XK} {x : Str} {p pos : Pos} {e : Expr} {es : List Expr} {t : TA} (F : FnOkH X.prog X.w X.K X.mg X.base k f fd ps sp) (hr : RoomH k X.A) (hg : Gl X x) (hm : X.mg x = some (.ref f)) (hk : PySem.W.keepIn X.K (.ref f) = true) (hb : Binds X.K fd ps [])
    (ha : PA X (e :: es) t) (hdb : autoParam ((x == ("__debug__" : Str)) = false) Internal.aut1._auto_1) (he : autoParam (starEach (e :: es) X.env = (false, eval e X.env) :: starEach es X.env) Internal.aut2._auto_1) (hpl : autoParam ((backTo pos (starEach es X.env)).any (·.1) = false) Internal.aut2._auto_1) :
    PE X (.Call (.Name x p) (e :: es) [] pos) (tCall sp [] E t) := by
  intro pins s σ H Q I h
  refine wpAny_Call_Name_kw (ld_glob I hg hm ?_ hdb)
  refine PySem.W.callWith_K (h₀ := X.base) I.ok.mod.kin hk (thn (ha pos pins s σ H _ I h) fun us s1 ⟨vs, H1, I1, r, q⟩ => ⟨I1.kIn, ?_⟩) he hpl
  have q : sp (vs ++ []) H1 Q E := q
  rw [List.append_nil] at q
  have hl : us.length = ps.length := by rw [← r.length]; exact F.len _ _ _ _ q
  have hbd := hb s1 us I1.kIn (by rw [List.append_nil]; exact hl)
  rw [List.append_nil] at hbd
  refine wpAny_call (codeAny_mono (F.run X.A X.stack s1 H1 ⟨us, []⟩ us vs Q E hr I1.env0 hbd r q) fun res s' hq => ?_)
  cases res with
  | error e => exact False.elim hq
  | ok fl =>
    cases fl with
    | ret u => exact I1.after hq
    | next => exact False.elim hq
    | brk => exact False.elim hq
    | cont => exact False.elim hq
end Internal

set_option Elab.async false
set_option linter.all false
set_option maxRecDepth 100000
namespace Internal
open PySem PySem.Spec PyProof.Rows

section
variable {κ : Type} [DecidableEq κ]
noncomputable def valV (kvs : List (κ × V)) (k : κ) : Option V := (kvs.find? fun kv => decide (kv.1 = k)).map (·.2)
noncomputable def putK (kvs : List (κ × V)) (k : κ) (v : V) : List (κ × V) :=
  if (kvs.any fun kv => decide (kv.1 = k)) = true then kvs.map (fun kv => if kv.1 = k then (kv.1, v) else kv) else kvs ++ [(k, v)]
theorem valV_pos {p : κ × V} {r : List (κ × V)} {k : κ} (e : p.1 = k) : valV (p :: r) k = some p.2 := by simp [valV, List.find?_cons, e]
theorem valV_neg {p : κ × V} {r : List (κ × V)} {k : κ} (e : ¬ p.1 = k) : valV (p :: r) k = valV r k := by simp [valV, List.find?_cons, e]
theorem length_putK (kvs : List (κ × V)) (k : κ) (v : V) : (putK kvs k v).length ≤ kvs.length + 1 := by
  unfold putK
  split
  · rw [List.length_map]; omega
  · rw [List.length_append, List.length_cons, List.length_nil]; omega
theorem KV.val {kvs : List (κ × V)} {vs : List (κ × Value)} (r : KV kvs vs) (k : κ) : RelO (valV kvs k) (valueAt vs k) := by
  unfold KV at r
  induction r with
  | nil => exact True.intro
  | @cons p q ps qs h t ih =>
    obtain ⟨h1, h2⟩ := h
    by_cases e : p.1 = k
    · have e' : q.1 = k := h1.symm.trans e
      have b : valueAt (q :: qs) k = some q.2 := by simp [valueAt, List.find?_cons, e']
      rw [valV_pos e, b]; exact h2
    · have e' : ¬ q.1 = k := fun z => e (h1.trans z)
      have b : valueAt (q :: qs) k = valueAt qs k := by simp [valueAt, List.find?_cons, e']
      rw [valV_neg e, b]; exact ih
theorem KV.any {kvs : List (κ × V)} {vs : List (κ × Value)} (r : KV kvs vs) (k : κ) : (kvs.any fun kv => decide (kv.1 = k)) = vs.any fun kv => decide (kv.1 = k) := by
  unfold KV at r
  induction r with
  | nil => rfl
  | cons h t ih => rw [List.any_cons, List.any_cons, ih, h.1]
theorem KV.repl {kvs : List (κ × V)} {vs : List (κ × Value)} (r : KV kvs vs) (k : κ) {y : V} {u : Value} (ry : RelV y u) :
    KV (kvs.map fun kv => if kv.1 = k then (kv.1, y) else kv) (vs.map fun kv => if kv.1 = k then (kv.1, u) else kv) := by
  unfold KV at r ⊢
  induction r with
  | nil => exact .nil
  | @cons p q ps qs h t ih =>
    rw [List.map_cons, List.map_cons]
    refine .cons ?_ ih
    obtain ⟨h1, h2⟩ := h
    by_cases e : p.1 = k
    · rw [if_pos e, if_pos (h1.symm.trans e)]; exact ⟨h1, ry⟩
    · rw [if_neg e, if_neg (fun z => e (h1.trans z))]; exact ⟨h1, h2⟩
theorem KV.put {kvs : List (κ × V)} {vs : List (κ × Value)} (r : KV kvs vs) (k : κ) {y : V} {u : Value} (ry : RelV y u) : KV (putK kvs k y) (stored vs k u) := by
  unfold putK stored
  rw [r.any k]
  by_cases e : (vs.any fun kv => decide (kv.1 = k)) = true
  · rw [if_pos e, if_pos e]; exact r.repl k ry
  · rw [if_neg e, if_neg e]; exact Paired.snoc r ⟨rfl, ry⟩
end


theorem kV_is {P : Program} {w : World} {k : Key} {u : Value} (r : RelV (kV k) u) : (mixKind P w).is k u = true := by
  cases k with
  | inl i => obtain ⟨t, e⟩ := (show ∃ t, u = Value.int i t from r); subst e; exact mixKind_int P w i t
  | inr x => obtain ⟨t, e⟩ := (show ∃ t, u = Value.str x t from r); subst e; exact mixKind_str P w x t
theorem items_are {P : Program} {w : World} : ∀ {ks : List Key} {us : List Value}, Vals (ks.map kV) us → ItemsAre (mixKind P w) ks us
  | [], _, r => by rw [List.map_nil] at r; cases r; exact .nil
  | k :: ks, _, r => by
    rw [List.map_cons] at r
    cases r with
    | cons h t => exact .cons (kV_is h) (items_are t)

noncomputable abbrev KT (H : Hp) : List (List Key × V) → List (List Key × Addr × Value) → Prop := Paired fun p q => p.1 = q.1 ∧ H q.2.1 = some (.tup (p.1.map kV)) ∧ RelV p.2 q.2.2
theorem KT.val {H : Hp} {kvs : List (List Key × V)} {xs : List (List Key × Addr × Value)} (r : KT H kvs xs) (k : List Key) : RelO (valV kvs k) ((atKey xs k).map (·.2)) := by
  induction r with
  | nil => exact True.intro
  | @cons p q ps qs h t ih =>
    obtain ⟨h1, _, h2⟩ := h
    by_cases e : p.1 = k
    · have e' : q.1 = k := h1.symm.trans e
      have b : atKey (q :: qs) k = some q.2 := by simp [atKey, List.find?_cons, e']
      rw [valV_pos e, b]; exact h2
    · have e' : ¬ q.1 = k := fun z => e (h1.trans z)
      have b : atKey (q :: qs) k = atKey qs k := by simp [atKey, List.find?_cons, e']
      rw [valV_neg e, b]; exact ih
section
variable {P : Program} {w : World} {H : Hp} {h : Heap} {a : Addr}
theorem rd_of {u : HO} (ok : HOk P w H h) (e : Rd H a u) : ObjOk P w H h a u := e.ok ok
theorem dk_rd {kvs : List (Key × V)} (ok : HOk P w H h) (e : Rd H a (.dK kvs)) : kvs.length ≤ sizeLine ∧ (a == sysModules) = false ∧ ∃ vs, KV kvs vs ∧ h.DictOf (mixKind P w) a vs :=
  show ObjOk P w H h a (.dK kvs) from rd_of ok e
theorem dk_of {kvs : List (Key × V)} (ok : HOk P w H h) (e : H a = some (.dK kvs)) : kvs.length ≤ sizeLine ∧ (a == sysModules) = false ∧ ∃ vs, KV kvs vs ∧ h.DictOf (mixKind P w) a vs := dk_rd ok (.inl e)
theorem key_of {ks : List Key} (ok : HOk P w H h) (e : H a = some (.tup (ks.map kV))) : (tupleKind (mixKind P w)).is h ks a := by
  obtain ⟨_, its, r, o, h1, h2, n, h3⟩ := (show ObjOk P w H h a (.tup (ks.map kV)) from ok a _ e)
  exact ⟨o, its.toArray, n, h1, h2, h3, by simpa using items_are r⟩
theorem dt_rd {kvs : List (List Key × V)} (ok : HOk P w H h) (e : Rd H a (.dT kvs)) : kvs.length ≤ sizeLine ∧ (a == sysModules) = false ∧
    ∃ xs, KT H kvs xs ∧ h.DictOfH (tupleKind (mixKind P w)) a xs := by
  obtain ⟨z, y, xs, r, o, es, ep, h1, h2, h3, h4, h5⟩ := (show ObjOk P w H h a (.dT kvs) from rd_of ok e)
  refine ⟨z, y, xs, r, o, es, ep, h1, h2, h3, h4, fun x hx => ?_, h5⟩
  have all : ∀ {l : List (List Key × V)} {m : List (List Key × Addr × Value)}, KT H l m → ∀ x ∈ m, (tupleKind (mixKind P w)).is h x.1 x.2.1 := by
    intro l m q
    induction q with
    | nil => intro x hx; exact nomatch hx
    | @cons p q ps qs hq t ih =>
      intro x hx
      rcases List.mem_cons.mp hx with e | hx
      · subst e
        exact key_of ok (by rw [← hq.1]; exact hq.2.1)
      · exact ih x hx
  exact all r x hx
end

noncomputable def DGet (H : Hp) (a : Addr) (y : V) (r : Option V) : Prop :=
  (∃ kvs k, Rd H a (.dK kvs) ∧ y = kV k ∧ r = valV kvs k) ∨ ∃ kvs k b, Rd H a (.dT kvs) ∧ y = .ref b ∧ H b = some (.tup (k.map kV)) ∧ r = valV kvs k
section
variable {X : Cx} {pins : List (Addr × Obj)} {σ : St} {H : Hp} {s : Shared} {a : Addr} {y v : V} {u r : Value} {o : Option V} {A : Around} {E : Value → Shared → Prop}

theorem Inv.big (I : Inv X pins σ H s) : sysModules < s.heap.objs.size := by
  have h : mainGlobals < s.heap.objs.size := (I.mod.glob.keeps I.bk).lt
  exact Nat.lt_trans (by decide) h

theorem d_getItem {Q : Value → Shared → Prop} (hu : A.units + 1 < cLine) (I : Inv X pins σ H s) (g : DGet H a y (some v)) (ry : RelV y u) (h : ∀ w' s', Inv X pins σ H s' → RelV v w' → Q w' s') :
    wpAny (model X.prog X.w) A (getItem (.ref a) u) Q E s := by
  rcases g with ⟨kvs, k, e, ey, l⟩ | ⟨kvs, k, b, e, ey, eb, l⟩
  · subst ey
    obtain ⟨z, hd, vs, rel, dd⟩ := dk_rd I.hok e
    obtain ⟨w', hw, rw'⟩ := RelO.some_of (v := v) (o := valueAt vs k) (by rw [l]; exact rel.val k)
    exact wpAny_getItem_of (kV_is ry) dd.mapOf hw (h w' _ (I.tok _) rw')
  · subst ey
    cases (show u = Value.ref b from ry)
    obtain ⟨z, hd, xs, rel, dd⟩ := dt_rd I.hok e
    obtain ⟨w', hw, rw'⟩ := RelO.some_of (v := v) (o := (atKey xs k).map (·.2)) (by rw [l]; exact rel.val k)
    obtain ⟨p, hp, hp2⟩ := Option.map_eq_some_iff.mp hw
    refine wpAny_getItem_heap (tupleKind_room_in1 hu) (key_of I.hok eb) dd hp ?_
    rw [hp2]
    exact h w' _ (I.tok _) rw'
theorem d_write {h' : Heap} {t' : Nat} {ob : HO} (I : Inv X pins σ H s) (mu : Mut (H a)) (hs : Heap.SameBut a s.heap h') (he : ∃ q, h'.get? a = some q) (new : ObjOk X.prog X.w (upd H a ob) h' a ob) :
    Inv X pins σ (upd H a ob) { s with heap := h', toks := t' } :=
  I.write (x := a) (e := a) mu (.inl rfl) (fun b q hb z => (hs.2 b hb).trans z) he new
theorem dk_new {P : Program} {w : World} {H' : Hp} {h' : Heap} {kvs : List (Key × V)} {vs : List (Key × Value)} (z : kvs.length ≤ sizeLine) (hd : (a == sysModules) = false) (rel : KV kvs vs) (dd : h'.DictOf (mixKind P w) a vs) :
    ObjOk P w H' h' a (.dK kvs) := ⟨z, hd, vs, rel, dd⟩
end

section
variable {X : Cx} {pins : List (Addr × Obj)} {σ : St} {H : Hp} {s : Shared} {a : Addr} {kvs : List (Key × V)} {k : Key} {u : Value} {A : Around} {E : Value → Shared → Prop}
end


noncomputable def NoSl (i : Expr) : Prop := ∀ ov iv, subscripted i false ov iv = operate [ov, iv] (getItem ov iv)
theorem subD_of {prog : Program} {w : World} {A : Around} {E : Value → Shared → Prop} {s : Shared} {env : Env} {value slice : Expr} {pos : Pos} {T id : String} {Q : Value → Shared → Prop}
    (hl : typeLookup (.type T) "__getitem__" = pure (some (.builtin id))) (hs : NoSl slice)
    (h : wpAny (model prog w) A (eval value env) (fun o s₁ => wpAny (model prog w) A (eval slice env) (fun i s₂ => s₂.TypeIs o T ∧ wpAny (model prog w) A (getItem o i) Q E s₂) E s₁) E s) :
    wpAny (model prog w) A (eval (.Subscript value slice pos) env) Q E s := by
  refine Subscript_ (wpAny_mono h (fun o s₁ h₁ => wpAny_mono h₁ (fun i s₂ h₂ => ?_) fun _ _ x => x) fun _ _ x => x)
  obtain ⟨hT, h₂⟩ := h₂
  unfold subscriptTail
  refine wpAny_bind ?_
  rw [getitemInPython_of_ne hT.not_modules]
  refine wpAny_bind (wpAny_specialOf hT hl ?_)
  have fin : wpAny (model prog w) A (subscripted slice false o i) (fun r s₃ => wpAny (model prog w) A (letTemporaryGo value o r >>= fun _ => pure r) Q E s₃) E s₂ := by
    rw [hs o i]
    exact wpAny_operating (wpAny_mono h₂ (fun r s₃ h₃ => wpAny_bind (wpAny_letTemporaryGo (wpAny_pure h₃))) fun _ _ x => x)
  first
    | exact wpAny_pure (wpAny_bind fin)
    | exact wpAny_bind (wpAny_pure (wpAny_bind fin))
    | exact wpAny_bind fin

theorem dict_typeIs {X : Cx} {pins : List (Addr × Obj)} {σ : St} {H : Hp} {s : Shared} {a : Addr} {y : V} {o : Option V} (I : Inv X pins σ H s) (g : DGet H a y o) : s.TypeIs (.ref a) "dict" := by
  rcases g with ⟨kvs, k, e, _, _⟩ | ⟨kvs, k, b, e, _, _, _⟩
  · obtain ⟨_, _, vs, _, dd⟩ := dk_rd I.hok e
    exact dd.typeIs
  · obtain ⟨_, _, xs, _, dd⟩ := dt_rd I.hok e
    exact dd.typeIs
noncomputable def tDGet (td ty : TE) : TE := fun σ H Q => td σ H fun x H1 => ty σ H1 fun y H2 => ∃ a v, x = .ref a ∧ DGet H2 a y (some v) ∧ Q v H2
section
variable {X : Cx} {o i e value : Expr} {pos pos' tpos : Pos} {td ty tv : TE}
theorem pe_dget (hu : X.A.units + 1 < cLine) (ho : PE X o td) (hi : PE X i ty) (hs : NoSl i) : PE X (.Subscript o i pos) (tDGet td ty) := by
  intro pins s σ H Q I h
  refine subD_of PySem.F.slot_dict_getitem.lookup hs (thn (ho pins s σ H _ I h) fun u s1 ⟨x, H1, I1, rx, q1⟩ => thn (hi pins s1 σ H1 _ I1 q1) fun iv s2 zz => ?_)
  obtain ⟨y, H2, I2, ry, a, v, ex, g, q2⟩ := zz
  subst ex
  obtain rfl : u = Value.ref a := rx
  exact ⟨dict_typeIs I2 g, d_getItem hu I2 g ry fun w' s3 I3 rw' => ⟨v, H2, I3, rw', q2⟩⟩
end


theorem dk_empty {P : Program} {w : World} {H : Hp} (h : Heap) (hb : sysModules < h.objs.size) : ObjOk P w H (h.push { cls := .type "dict", data := .dict #[] }) h.objs.size (.dK []) :=
  ⟨Nat.zero_le _, beq_eq_false_iff_ne.mpr (Ne.symm (Nat.ne_of_lt hb)), [], .nil, Heap.DictOf.new h⟩
section
variable {X : Cx} {pos : Pos}
end

noncomputable def tPairs : List (TE × TE) → St → Hp → (List (V × V) → Hp → Prop) → Prop
  | [], _, H, Q => Q [] H
  | (tk, tv) :: r, σ, H, Q => tk σ H fun x H1 => tv σ H1 fun y H2 => tPairs r σ H2 fun ps H3 => Q ((x, y) :: ps) H3
noncomputable abbrev VV : List (V × V) → List (Value × Value) → Prop := Paired fun p q => RelV p.1 q.1 ∧ RelV p.2 q.2
noncomputable def PPs (X : Cx) (pos : Pos) (keys : List (Option Expr)) (values : List Expr) (trs : List (TE × TE)) : Prop :=
  ∀ (pins : List (Addr × Obj)) (s : Shared) (σ : St) (H : Hp) (Q : List (V × V) → Hp → Prop), Inv X pins σ H s → tPairs trs σ H Q →
    wpAny (model X.prog X.w) X.A (evalPairs (pairTrees keys values X.env pos)) (fun vs s' => ∃ ps H', Inv X pins σ H' s' ∧ VV ps vs ∧ Q ps H') X.xe s
theorem pps_nil {X : Cx} {pos : Pos} : PPs X pos [] [] [] := fun pins s σ H Q I h => pairTrees_nil_walk ⟨[], H, I, .nil, h⟩
theorem pps_cons {X : Cx} {pos : Pos} {k v : Expr} {ks : List (Option Expr)} {vs : List Expr} {tk tv : TE} {trs : List (TE × TE)} (hk : PE X k tk) (hv : PE X v tv) (hr : PPs X pos ks vs trs) :
    PPs X pos (some k :: ks) (v :: vs) ((tk, tv) :: trs) := fun pins s σ H Q I h =>
  pairTrees_cons_walk (thn (hk pins s σ H _ I h) fun u s1 ⟨x, H1, I1, rx, q1⟩ => thn (hv pins s1 σ H1 _ I1 q1) fun w2 s2 ⟨y, H2, I2, ry, q2⟩ =>
    thn (hr pins s2 σ H2 _ I2 q2) fun ws s3 ⟨ps, H3, I3, rel, q3⟩ => ⟨(x, y) :: ps, H3, I3, .cons ⟨rx, ry⟩ rel, q3⟩)

noncomputable def mergeK (kvs more : List (Key × V)) : List (Key × V) := more.foldl (fun acc kv => putK acc kv.1 kv.2) kvs
theorem KV.merge : ∀ {more : List (Key × V)} {rs : List (Key × Value)} {kvs : List (Key × V)} {vs : List (Key × Value)}, KV more rs → KV kvs vs → KV (mergeK kvs more) (merged vs rs) := by
  intro more rs kvs vs r
  unfold KV at r
  induction r generalizing kvs vs with
  | nil => intro q; exact q
  | @cons p q ps qs h t ih =>
    intro r0
    have e : KV (putK kvs p.1 p.2) (stored vs q.1 q.2) := by
      have := r0.put p.1 h.2
      rw [← h.1]; exact this
    exact ih e
theorem length_mergeK : ∀ (more kvs : List (Key × V)), (mergeK kvs more).length ≤ kvs.length + more.length
  | [], kvs => by show kvs.length ≤ kvs.length + 0; omega
  | p :: r, kvs => by
    have h1 := length_mergeK r (putK kvs p.1 p.2)
    have h2 := length_putK kvs p.1 p.2
    show (mergeK (putK kvs p.1 p.2) r).length ≤ _
    rw [List.length_cons]; omega
theorem carries_of {P : Program} {w : World} : ∀ {kvs : List (Key × V)} {ws : List (Value × Value)}, VV (kvs.map fun kv => (kV kv.1, kv.2)) ws → ∃ rs, Carries (mixKind P w) ws rs ∧ KV kvs rs
  | [], _, r => by rw [List.map_nil] at r; cases r; exact ⟨[], True.intro, .nil⟩
  | p :: kvs, _, r => by
    rw [List.map_cons] at r
    cases r with
    | @cons a b as bs h t =>
      obtain ⟨rs, c, q⟩ := carries_of (P := P) (w := w) t
      obtain ⟨b1, b2⟩ := b
      exact ⟨(p.1, b2) :: rs, ⟨kV_is h.1, rfl, c⟩, .cons ⟨rfl, h.2⟩ q⟩
noncomputable def tDisp (trs : List (TE × TE)) : TE := fun σ H Q => ∀ p, H p = none → tPairs trs σ (upd H p (.dK [])) fun ps H2 => H2 p = some (.dK []) ∧ ∃ kvs : List (Key × V), ps = kvs.map (fun kv => (kV kv.1, kv.2)) ∧ kvs.length ≤ 15 ∧ Q (.ref p) (upd H2 p (.dK (mergeK [] kvs)))
theorem pe_disp {X : Cx} {pos : Pos} {keys : List (Option Expr)} {values : List Expr} {trs : List (TE × TE)} (h : PPs X pos keys values trs) (hall : keys.all (·.isSome) = true) (hl : keys.length = values.length) (h0 : keys ≠ [])
    (h15 : keys.length ≤ 15) : PE X (.Dict keys values pos) (tDisp trs) := by
  intro pins s σ H Q I q
  have hn := I.hok.fresh (Nat.le_refl s.heap.objs.size)
  have I1 := I.laid (a := s.heap.objs.size) (o := .dK []) (h' := s.heap.push { cls := .type "dict", data := .dict #[] }) (t' := s.toks) (fun _ _ q => Heap.get?_push_of_some _ q) (Nat.le_refl _) (dk_empty s.heap I.big)
  refine wpAny_Dict_walk (knd := mixKind X.prog X.w) hall hl h0 h15 (thn (h pins _ σ _ _ I1 (q _ hn)) fun ws s2 zz => ?_)
  obtain ⟨ps, H2, I2, rel, e, kvs, ep, lk, q2⟩ := zz
  subst ep
  obtain ⟨rs, c, rk⟩ := carries_of (P := X.prog) (w := X.w) rel
  obtain ⟨z, hd, vs0, r0, dd⟩ := dk_of I2.hok e
  cases r0
  refine ⟨rs, c, dd, fun h' dd' hs => ⟨.ref s.heap.objs.size, _, ?_, rfl, q2⟩⟩
  have hz : (mergeK [] kvs).length ≤ sizeLine := by
    have h1 := length_mergeK kvs []
    rw [List.length_nil] at h1
    rw [sizeLine_eq]; omega
  have he : ∃ q, h'.get? s.heap.objs.size = some q := let ⟨q, _, _, hq, _⟩ := dd'; ⟨q, hq⟩
  exact d_write I2 (by rw [e]; exact True.intro) hs he (dk_new hz hd (rk.merge .nil) dd')


set_option genInjectivity false in
set_option genSizeOf false in
structure M1 (X : Cx) (o : Expr) (m : Str) (apos : Pos) (e : Expr) (cpos : Pos) : Prop where
  base : attributeBase o m X.env (eval o X.env) = eval o X.env
  few : ((backTo cpos (starEach [e] X.env)).all (fun x => !x.1) && (backToKw cpos (keywordEach [] X.env)).all (fun x => x.1.isSome)
    && decide (([e] : List Expr).length + ([] : List Keyword).length + (if ([] : List Keyword).isEmpty then 0 else 1) < 30)) = true
  line : (apos.endLine == cpos.line) = true
  trees : backTo cpos (starEach [e] X.env) = [(false, eval e X.env)]
set_option genInjectivity false in
set_option genSizeOf false in
structure M2 (X : Cx) (o : Expr) (m : Str) (apos : Pos) (e f : Expr) (cpos : Pos) : Prop where
  base : attributeBase o m X.env (eval o X.env) = eval o X.env
  few : ((backTo cpos (starEach [e, f] X.env)).all (fun x => !x.1) && (backToKw cpos (keywordEach [] X.env)).all (fun x => x.1.isSome)
    && decide (([e, f] : List Expr).length + ([] : List Keyword).length + (if ([] : List Keyword).isEmpty then 0 else 1) < 30)) = true
  line : (apos.endLine == cpos.line) = true
  trees : backTo cpos (starEach [e, f] X.env) = [(false, eval e X.env), (false, eval f X.env)]

section
variable {X : Cx} {pins : List (Addr × Obj)} {σ : St} {H : Hp} {s : Shared} {a : Addr} {y d : V} {u r : Value} {o : Option V} {A : Around} {E : Value → Shared → Prop}
end

section
variable {X : Cx} {o e f : Expr} {apos cpos : Pos} {td ty tx : TE}
end

section
variable {X : Cx} {pins : List (Addr × Obj)} {σ : St} {H : Hp} {s : Shared} {a : Addr} {kvs : List (Key × V)} {A : Around} {E : Value → Shared → Prop}
end


section
variable {X : Cx} {pins : List (Addr × Obj)} {σ : St} {H : Hp} {s : Shared} {a : Addr} {y : V} {u : Value} {A : Around} {E : Value → Shared → Prop}
end
end Internal

set_option linter.all false
namespace My
noncomputable def mn (i j : Int) : Int := if j < i then j else i
noncomputable def lvS (b : Nat → Int) (L : Int) (n : Nat) : Int := sumTo (fun i => mn (b i) L) n
set_option genInjectivity false in
set_option genSizeOf false in
structure IsLev (c : Int) (n : Nat) (b : Nat → Int) (L : Int) : Prop where
  lo : lvS b L n ≤ c
  hi : c < lvS b (L + 1) n
noncomputable def lev (c : Int) (n : Nat) (b : Nat → Int) : Int := Classical.epsilon fun L => IsLev c n b L
noncomputable def levelF (c : Int) (n : Nat) (b : Nat → Int) : Nat → Int :=
  if c = sumTo b n then b else more (fun i => decide (b i > lev c n b)) (fun i => mn (b i) (lev c n b)) (c - lvS b (lev c n b) n)
set_option genInjectivity false in
set_option genSizeOf false in
structure LevelOk (c : Int) (n : Nat) (b f : Nat → Int) : Prop where
  sum : sumTo f n = c
  lo : ∀ i, i < n → 0 ≤ f i
  hi : ∀ i, i < n → f i ≤ b i
  lev : (∀ i, i < n → f i = b i) ∨ ∃ L, (∃ i, i < n ∧ f i = L ∧ L < b i) ∧ ∀ i, i < n → (b i ≤ L → f i = b i) ∧ (L < b i → f i = L ∨ f i = L + 1) ∧ ∀ j, j < i → L < b j → f j = L → L < b i → f i = L
noncomputable def sumL : List Int → Int
  | [] => 0
  | x :: xs => x + sumL xs
set_option genInjectivity false in
set_option genSizeOf false in
structure LvInv (c : Int) (ms : List Int) (i : Nat) (r : Int) : Prop where
  rest : r = c - sumL (ms.take i)
  below : ∀ x ∈ ms.take i, x * ((ms.length : Int) - (i : Int)) ≤ r
end My

set_option Elab.async false
set_option linter.all false
set_option maxRecDepth 100000
namespace Internal
open PySem PySem.Spec PyProof.Rows
section
variable {H : Hp} {Q : VK} {K : PySem.W.Frag}
theorem in_strs {w : Str} : ∀ ws : List Str, inV (.str w) (ws.map V.str) = decide (w ∈ ws)
  | [] => by simp [inV]
  | n :: ns => by
    have ih := in_strs (w := w) ns
    unfold inV at ih ⊢
    rw [List.map_cons, List.any_cons, ih]
    show ((n == w) || _) = _
    by_cases h : n = w
    · subst h; simp
    · have : ¬ w = n := fun z => h z.symm
      simp [h, this]
theorem flat_strs : ∀ ws : List Str, (ws.map V.str).all flatV = true
  | [] => rfl
  | w :: ws => by rw [List.map_cons, List.all_cons, flat_strs ws]; rfl
theorem x_notInT {a : Addr} {ws : List Str} {w : Str} (h : SqT K H a (ws.map V.str)) (q : Q (.bl (!decide (w ∈ ws))) H) : rIn K true (.str w) (.ref a) H Q :=
  ⟨a, _, rfl, .inr h, rfl, flat_strs ws, by rw [if_pos rfl, in_strs]; exact q⟩
theorem x_inLs {a : Addr} {ws : List Str} {w : Str} (h : SqL K H a (ws.map V.str)) (q : Q (.bl (decide (w ∈ ws))) H) : rIn K false (.str w) (.ref a) H Q :=
  ⟨a, _, rfl, .inl h, rfl, flat_strs ws, by rw [if_neg Bool.false_ne_true, in_strs]; exact q⟩
end
theorem cut_take {xs : List V} {k : Nat} : cutV xs none (some (k : Int)) = xs.take k := by
  unfold cutV
  have e : HT.sIx xs.length xs.length (some (k : Int)) = min k xs.length := by
    show (if (k : Int) < 0 then ((k : Int) + (xs.length : Int)).toNat else min (k : Int).toNat xs.length) = _
    rw [if_neg (by omega)]; rfl
  rw [e, HT.sIx_none, List.drop_zero, Nat.sub_zero]
  exact List.take_eq_take_min.symm
theorem str_get {ws : List Str} {i : Nat} {v : V} (h : (ws.map V.str)[i]? = some v) : ∃ w, ws[i]? = some w ∧ v = .str w := by
  rw [List.getElem?_map] at h
  cases hw : ws[i]? with
  | none => rw [hw] at h; cases h
  | some w => rw [hw] at h; exact ⟨w, rfl, (Option.some.inj h).symm⟩
theorem not_take {ws : List Str} {i : Nat} {w : Str} (nd : ws.Nodup) (h : ws[i]? = some w) : w ∉ ws.take i := fun hm => by
  obtain ⟨hi, ei⟩ := List.getElem?_eq_some_iff.mp h
  obtain ⟨j, hj, ej⟩ := List.getElem_of_mem hm
  rw [List.length_take] at hj
  rw [List.getElem_take] at ej
  exact List.pairwise_iff_getElem.mp nd j i (by omega) hi (by omega) (ej.trans ei.symm)
noncomputable def words5 : List Str := ["pledge", "share", "own", "others", "level"]
noncomputable def bndF (S : Nat → Int) (W : Nat → Bool) : Nat → Int := fun i => if W i = true then S i else 0
noncomputable def borC (n : Nat) (R S : Nat → Int) (W : Nat → Bool) : Int := My.mn (My.sumTo (bndF S W) n) (My.sumTo R n)
noncomputable def borF (w : Str) (n : Nat) (R P S : Nat → Int) (W : Nat → Bool) : Nat → Int :=
  if w = "pledge" then fun i => My.mn (R i) (P i) else if w = "share" then fun i => My.mn (R i) (S i) else if w = "own" then fun _ => 0
  else if w = "others" then shareF (borC n R S W) n (bndF S W) else My.levelF (borC n R S W) n (bndF S W)
noncomputable def borX (w : Str) (n : Nat) (R : Nat → Int) (own : Int) : Int := if w = "own" then My.mn own (My.sumTo R n) else 0
noncomputable def givF (w : Str) (n : Nat) (R P S : Nat → Int) (own : Int) (W : Nat → Bool) : Nat → Int :=
  if w = "pledge" ∨ w = "share" then borF w n R P S W else shareF (My.sumTo (borF w n R P S W) n + borX w n R own) n R
set_option genInjectivity false in
set_option genSizeOf false in
structure LRow where
  w : Str
  f : Nat → Int
  x : Int
  gv : Nat → Int
noncomputable def rowF (n : Nat) (G P : Nat → Int) (own : Int) (w : Str) (R S : Nat → Int) : LRow := ⟨w, borF w n R P S (fun i => decide (G i = 0)), borX w n R own, givF w n R P S own (fun i => decide (G i = 0))⟩
noncomputable def nextR (r : LRow) (R : Nat → Int) : Nat → Int := fun i => R i - r.gv i
noncomputable def nextS (r : LRow) (S : Nat → Int) : Nat → Int := if r.w ∈ (["share", "others", "level"] : List Str) then fun i => S i - r.f i else S
noncomputable def lays (n : Nat) (G P : Nat → Int) (own : Int) (ws : List Str) (S0 : Nat → Int) : Nat → (Nat → Int) × (Nat → Int)
  | 0 => (G, S0)
  | i + 1 => (nextR (rowF n G P own (ws.getD i "") (lays n G P own ws S0 i).1 (lays n G P own ws S0 i).2) (lays n G P own ws S0 i).1, nextS (rowF n G P own (ws.getD i "") (lays n G P own ws S0 i).1 (lays n G P own ws S0 i).2) (lays n G P own ws S0 i).2)
noncomputable def rowsF (n : Nat) (G P : Nat → Int) (own : Int) (ws : List Str) (S0 : Nat → Int) (i : Nat) : LRow := rowF n G P own (ws.getD i "") (lays n G P own ws S0 i).1 (lays n G P own ws S0 i).2
noncomputable def LRs (H : Hp) (n : Nat) (row : Nat → LRow) (tr : List (Addr × Addr × Addr)) : Prop := ∀ (i : Nat) (t : Addr × Addr × Addr), tr[i]? = some t →
  H t.1 = some (.tup [.str (row i).w, .ref t.2.1, .ref t.2.2]) ∧ H t.2.1 = some (.lst ((vec n (row i).gv).map V.int)) ∧ H t.2.2 = some (.lst ((vec n (row i).f ++ [(row i).x]).map V.int))
noncomputable def flatA (tr : List (Addr × Addr × Addr)) : List Addr := tr.flatMap fun t => [t.2.1, t.2.2]
set_option genInjectivity false in
set_option genSizeOf false in
structure LTold (H H' : Hp) (n : Nat) (row : Nat → LRow) (rests : Nat → Int) (m : Nat) (p rs re : Addr) (tr : List (Addr × Addr × Addr)) : Prop where
  same : Same H H'
  hp : H' p = some (.tup [.ref rs, .ref re])
  hrs : H' rs = some (.lst (tr.map fun t => V.ref t.1))
  hre : H' re = some (.lst ((vec n rests).map V.int))
  len : tr.length = m
  rows : LRs H' n row tr
  fre : H re = none
  frs : H rs = none
  ffl : ∀ a ∈ flatA tr, H a = none
  nd : (flatA tr).Nodup
  nre : re ∉ flatA tr
  nrs : rs ∉ flatA tr
  ne : rs ≠ re
set_option genInjectivity false in
set_option genSizeOf false in
structure LT (H : Hp) (n : Nat) (row : Nat → LRow) (rests : Nat → Int) (m : Nat) (p rs re : Addr) (tr : List (Addr × Addr × Addr)) : Prop where
  hp : H p = some (.tup [.ref rs, .ref re])
  hrs : H rs = some (.lst (tr.map fun t => V.ref t.1))
  hre : H re = some (.lst ((vec n rests).map V.int))
  len : tr.length = m
  rows : LRs H n row tr
set_option genInjectivity false in
set_option genSizeOf false in
structure LMore (H H' : Hp) (n : Nat) (row : Nat → LRow) (tr : List (Addr × Addr × Addr)) (i : Nat) : Prop where
  tup : ∀ c xs, H c = some (.tup xs) → H' c = some (.tup xs)
  keep : ∀ c o, c ∉ flatA tr → H c = some o → H' c = some o
  rows : ∀ (j : Nat) (t : Addr × Addr × Addr), tr[j]? = some t → H' t.2.1 = some (.lst ((vec n (row j).gv ++ if j < i then [3] else []).map V.int)) ∧ H' t.2.2 = some (.lst ((vec n (row j).f ++ [(row j).x] ++ if j < i then [3] else []).map V.int))
end Internal

set_option Elab.async false
set_option linter.all false
set_option maxRecDepth 100000
namespace Internal
open PySem PySem.Spec PyProof.Rows
section
variable {X : Cx}
end
noncomputable def OkO (ws : List Str) : Prop := (∀ w ∈ ws, w ∈ words5) ∧ ws.Nodup
noncomputable def spCheckOX (K : PySem.W.Frag) (C : Addr) : Sp := fun vs H Q E => ∃ (o : Addr) (ws : List Str), vs = [.ref o] ∧ SqL K H o (ws.map V.str) ∧ ws.length ≤ 100 ∧ ((OkO ws ∧ ∀ H', Same H H' → Q .non H') ∨ (¬ OkO ws ∧ ∀ H', Same H H' → E (.ref C) none H'))
theorem okO_snoc {ws : List Str} {w : Str} (h : OkO ws) (h5 : w ∈ words5) (hm : w ∉ ws) : OkO (ws ++ [w]) := ⟨fun u hu => by
  rcases List.mem_append.mp hu with q | q
  · exact h.1 u q
  · rw [List.mem_singleton.mp q]; exact h5, List.nodup_append.mpr ⟨h.2, by simp, fun a ha b hb e => by
  rw [List.mem_singleton.mp hb] at e
  exact hm (e ▸ ha)⟩⟩
end Internal

set_option Elab.async false
set_option linter.all false
set_option maxRecDepth 100000
namespace Internal
open PySem PySem.W PySem.Calls PyProof.Rows
theorem weights_le {n : Nat} : ∀ (ns : List Int), WData.weightAll (ns.map WData.int) ≤ n → ∀ i ∈ ns, sz i ≤ n
  | [], _, _, h => nomatch h
  | j :: r, h, i, hi => by
    rw [List.map_cons, WData.weightAll] at h
    rcases List.mem_cons.mp hi with rfl | hi
    · have : WData.weight (.int i) = sz i := by rw [WData.weight]; rfl
      omega
    · exact weights_le r (by omega) i hi
noncomputable def Light (ns : List Int) : Prop := ∀ i ∈ ns, sz i ≤ 1048576
theorem light_of {ns : List Int} (h : WData.layableAll [WData.list (ns.map WData.int)] = true) : Light ns := by
  unfold WData.layableAll at h
  rw [List.all_cons, List.all_nil, Bool.and_true] at h
  unfold WData.layable at h
  rw [Bool.and_eq_true, decide_eq_true_eq] at h
  have h2 := h.2
  rw [WData.weight] at h2
  exact weights_le ns (Nat.le_trans h2 (by decide))
theorem attach_callZ {l : OpenLaw} {n : Nat} {q : Program} {loose : List Str} {XP : (Str → Option Value) → Heap → Prop} {YP : World → Heap → Prop} {d : DefRec}
    (hn : l.most = some n) (hdf : d.params.defaults = [])
    (call : ∀ (w : World) (s₀ s₁ : Shared) (mg mb : Str → Option Value) (fa : Addr) (a : Addr) (vs : List Value) (ns : List Int),
      Ground q loose [] XP w s₀ mg mb s₁.heap → YP w s₁.heap → mg d.name = some (.ref fa) →
      s₁.heap.get? a = some { cls := .type "list", data := .seq vs.toArray } → IntsAre vs ns → ns.length ≤ n → Light ns → s₁.gens = #[] →
      codeAny (model l.prog w) callerA (.call (.ref fa) ⟨[.ref a], []⟩) (fun r s' => r = .ok (.ret (.bool true)) ∧ OldK s₁.heap s'.heap ∧ s'.os = s₁.os ∧ AllBare s'.gens) s₁) :
    WalkO q loose XP YP l.row.toRowW d [] (fun f vs => PySem.call f vs) := by
  intro w s₀ s₁ mg mb G Y fa o pm cd doc dV kV ho hd hcd hD hmg hg args vals as hpre hlay hrd hwl hlo
  obtain ⟨a, vs, ns, rfl, rfl, hobj, hints, hlen⟩ := Att.script_of hn hpre hwl
  refine enter_call (codeAny_mono (call w s₀ s₁ mg mb fa a vs ns G Y hmg hobj hints hlen (light_of hlay) hg) fun r s' hq => ?_)
  obtain ⟨rfl, h2, h3, h4⟩ := hq
  exact ⟨.inl ⟨.bool true, .bool true, [], rfl, fun _ => rfl, .bool true, Att.post_true l _, fun _ => ⟨List.Pairwise.nil, fun _ hm => (nomatch hm)⟩⟩, h2, h3, h4⟩
end Internal
namespace Internal
open PySem PySem.Spec PyProof.Rows
noncomputable def Within (m : Int) (k : Nat) (f : Nat → Int) : Prop := ∀ j, j < k → -m ≤ f j ∧ f j ≤ m
noncomputable def WithinR (m : Int) (n k : Nat) (F : Nat → Nat → Int) : Prop := ∀ i, i < n → Within m k (F i)
theorem Rows.snoc {H : Hp} {as : List Addr} {k : Nat} {F : Nat → Nat → Int} {p : Addr} {f : Nat → Int} (h : Rows H as k F) (n : p ∉ as) (hp : H p = some (.lst ((vec k f).map V.int))) : Rows H (as ++ [p]) k (fun i => if i = as.length then f else F i) := by
  refine Rows.app (h.congr fun i hi j _ => ?_) n (by show H p = some (HO.lst ((vec k (if as.length = as.length then f else F as.length)).map V.int)); rw [if_pos rfl]; exact hp)
  show F i j = (if i = as.length then f else F i) j
  rw [if_neg (by omega)]
noncomputable def lossF (k : Nat) (f g : Nat → Int) : Int := -sumI (vec k fun j => f j * g j)
theorem lossF_succ {k : Nat} {f g : Nat → Int} : lossF (k + 1) f g = lossF k f g - f k * g k := by
  unfold lossF
  rw [vec_succ, sumI_snoc]
  omega
noncomputable def spLosses (K : PySem.W.Frag) : Sp := fun vs H Q _ => ∃ (p l : Addr) (as : List Addr) (k : Nat) (f : Nat → Int) (F : Nat → Nat → Int) (m : Int), vs = [.ref p, .ref l] ∧ H p = some (.lst ((vec k f).map V.int)) ∧ H l = some (.lst (as.map V.ref)) ∧ Rows H as k F ∧ Within m k f ∧ WithinR m as.length k F ∧ m ≤ 999999999999 ∧ k ≤ 1000 ∧ as.length ≤ 1000 ∧
  ∀ r H', H r = none → Same H H' → H' r = some (.lst ((vec as.length fun i => lossF k f (F i)).map V.int)) → Q (.ref r) H'
theorem spLosses_i {K : PySem.W.Frag} {p l : Addr} {as : List Addr} {k : Nat} {f : Nat → Int} {F : Nat → Nat → Int} {m : Int} {H : Hp} {Q : VK} {E : XK} (h1 : H p = some (.lst ((vec k f).map V.int))) (h2 : H l = some (.lst (as.map V.ref))) (h3 : Rows H as k F) (h4 : Within m k f) (h5 : WithinR m as.length k F) (hm : m ≤ 999999999999) (hk : k ≤ 1000) (hl : as.length ≤ 1000)
  (q : ∀ r H', H r = none → Same H H' → H' r = some (.lst ((vec as.length fun i => lossF k f (F i)).map V.int)) → Q (.ref r) H') : spLosses K [.ref p, .ref l] H Q E := ⟨p, l, as, k, f, F, m, rfl, h1, h2, h3, h4, h5, hm, hk, hl, q⟩
end Internal

set_option Elab.async false
set_option linter.all false
set_option maxRecDepth 100000
namespace Internal
open PySem PySem.Spec PyProof.Rows
noncomputable def cumF (f : Nat → Int) : Nat → Int
  | 0 => 0
  | r + 1 => cumF f r + f r
noncomputable def UnderC (f : Nat → Int) (q : Rat) (r : Nat) : Prop := q.num < cumF f (r + 1) * (q.den : Int)
noncomputable instance (f : Nat → Int) (q : Rat) (r : Nat) : Decidable (UnderC f q r) := inferInstanceAs (Decidable (_ < _))
noncomputable def stopF (f : Nat → Int) (q : Rat) : Nat → Option Nat
  | 0 => none
  | k + 1 => match stopF f q k with
    | some r => some r
    | none => if UnderC f q k then some k else none
noncomputable abbrev stopsL (ds : List Due) (qs : List Rat) : List V := optL qs.length fun m => stopF (rankF ds m) (qs.getD m 0) 3
end Internal

set_option Elab.async false
set_option linter.all false
set_option maxRecDepth 100000
namespace Internal
open PySem PySem.Spec PyProof.Rows
section
variable {f : Nat → Int} {q : Rat}
end
end Internal

set_option Elab.async false
set_option linter.all false
set_option maxRecDepth 100000
namespace Internal
open PySem PySem.Spec PyProof.Rows
set_option genInjectivity false in
set_option genSizeOf false in
structure PayOk (ds : List Due) (g : Due → Rat) : Prop where
  nn : ∀ d ∈ ds, 0 ≤ g d
  le : ∀ d ∈ ds, g d ≤ ((d.a : Int) : Rat)
  sz : ∀ d ∈ ds, SzQ (g d) 1000 1000
  am : ∀ d ∈ ds, 0 ≤ d.a ∧ d.a ≤ 100000000000000
section
variable {ds : List Due} {qs : List Rat}
end
end Internal

set_option Elab.async false
set_option linter.all false
set_option maxRecDepth 100000
namespace Internal
open PySem PySem.W PyProof.Rows
section
variable {n : Nat} {kf : Nat → Int}
noncomputable def TOk (n : Nat) (kf : Nat → Int) {α : Type} : KasT α → (α → Prop) → Prop
  | .ret a, Q => Q a
  | .ask i j k, Q => i < n ∧ j < n ∧ TOk n kf (k (decide (kf i < kf j))) Q
theorem TOk.bind {α β : Type} {f : α → KasT β} {Q : β → Prop} : ∀ {t : KasT α}, TOk n kf t (fun a => TOk n kf (f a) Q) → TOk n kf (t.bind f) Q
  | .ret _, h => h
  | .ask i j k, h => ⟨h.1, h.2.1, TOk.bind (t := k (decide (kf i < kf j))) h.2.2⟩
theorem TOk.mono {α : Type} {Q Q' : α → Prop} (hq : ∀ a, Q a → Q' a) : ∀ {t : KasT α}, TOk n kf t Q → TOk n kf t Q'
  | .ret a, h => hq a h
  | .ask i j k, h => ⟨h.1, h.2.1, TOk.mono hq (t := k (decide (kf i < kf j))) h.2.2⟩
theorem TOk.wp {α : Type} {cmp : Nat → Nat → (Bool → Shared → Prop) → Shared → Prop} {Q : α → Shared → Prop} {s : Shared} (hc : ∀ i j (C : Bool → Shared → Prop), i < n → j < n → C (decide (kf i < kf j)) s → cmp i j C s) : ∀ {t : KasT α}, TOk n kf t (fun a => Q a s) → t.kasWp cmp Q s
  | .ret _, h => h
  | .ask i j k, h => hc i j _ h.1 h.2.1 (TOk.wp hc (t := k (decide (kf i < kf j))) h.2.2)
noncomputable def KP (kf : Nat → Int) (p : Array Nat) (i : Nat) : Int := kf (p.getD i 0)
noncomputable def PermR (n : Nat) (p : Array Nat) : Prop := p.toList.Perm (List.range n)
theorem PermR.size {p : Array Nat} (h : PermR n p) : p.size = n := by
  have := h.length_eq
  rwa [Array.length_toList, List.length_range] at this
theorem PermR.lt {p : Array Nat} (h : PermR n p) (hn : 0 < n) (i : Nat) : p.getD i 0 < n := by
  by_cases hi : i < p.size
  · have : p.getD i 0 = p[i] := by simp [Array.getD, hi]
    rw [this]
    have hm : p[i] ∈ p.toList := by simp
    exact List.mem_range.mp (h.mem_iff.mp hm)
  · have : p.getD i 0 = 0 := by simp [Array.getD, hi]
    rw [this]; exact hn
theorem PermR.of {p q : Array Nat} (h : PermR n p) (hq : q.Perm p) : PermR n q := (Array.perm_iff_toList_perm.mp hq).trans h
theorem getD_congr {p q : Array Nat} {i j : Nat} (h : p[i]? = q[j]?) : p.getD i 0 = q.getD j 0 := by
  rw [Array.getD_eq_getD_getElem?, Array.getD_eq_getD_getElem?, h]
theorem KP_rev {p : Array Nat} {i j : Nat} (hj : j ≤ p.size) (k : Nat) : KP kf (kas_rev p i j) k = if i ≤ k ∧ k < j then KP kf p (i + j - 1 - k) else KP kf p k := by
  have e := getElem?_mirror_all (i := i) hj k
  unfold kas_rev KP
  by_cases h : i ≤ k ∧ k < j
  · rw [if_pos h] at e ⊢; rw [getD_congr e]
  · rw [if_neg h] at e ⊢; rw [getD_congr e]
theorem rev_perm {p : Array Nat} {i j : Nat} (h : PermR n p) : PermR n (kas_rev p i j) := h.of (mirror_perm _ _ _ _)
theorem KP_bubble {p : Array Nat} {src d : Nat} (hs : src < p.size) (hd : d ≤ src) (k : Nat) : KP kf (bubble p src d) k = if k = src - d then KP kf p src else if src - d < k ∧ k ≤ src then KP kf p (k - 1) else KP kf p k := by
  have e := getElem?_bubble hs d hd k
  unfold KP
  by_cases h1 : k = src - d
  · rw [if_pos h1] at e ⊢; rw [getD_congr e]
  · rw [if_neg h1] at e ⊢
    by_cases h2 : src - d < k ∧ k ≤ src
    · rw [if_pos h2] at e ⊢; rw [getD_congr e]
    · rw [if_neg h2] at e ⊢; rw [getD_congr e]
noncomputable def Up (kf : Nat → Int) (p : Array Nat) (k : Nat) : Prop := ∀ i j, i ≤ j → j < k → KP kf p i ≤ KP kf p j
noncomputable def Down (kf : Nat → Int) (p : Array Nat) (k : Nat) : Prop := ∀ i j, i ≤ j → j < k → KP kf p j ≤ KP kf p i
theorem Up.steps {p : Array Nat} {a : Nat} : ∀ (b : Nat), Up kf p a → (∀ i, a ≤ i → i < b → 1 ≤ i → KP kf p (i - 1) ≤ KP kf p i) → Up kf p b
  | 0, _, _ => fun i j _ h => by omega
  | b + 1, hu, hs => by
    by_cases hb : b + 1 ≤ a
    · exact fun i j h1 h2 => hu i j h1 (by omega)
    · have ih := Up.steps b hu (fun i h1 h2 h3 => hs i h1 (by omega) h3)
      intro i j h1 h2
      by_cases hj : j = b
      · subst hj
        by_cases hi : i = j
        · subst hi; exact Int.le_refl _
        · exact Int.le_trans (ih i (j - 1) (by omega) (by omega)) (hs j (by omega) (by omega) (by omega))
      · exact ih i j h1 (by omega)
theorem asc_ok {p : Array Nat} (hp : PermR n p) (h0 : 0 < n) : ∀ (f m : Nat), 1 ≤ m → TOk n kf (kas_asc p f m) fun r => m ≤ r ∧ r ≤ m + f ∧ (∀ i, m ≤ i → i < r → KP kf p (i - 1) ≤ KP kf p i) ∧ (r < m + f → KP kf p r < KP kf p (r - 1))
  | 0, m, _ => ⟨Nat.le_refl _, by omega, fun i h1 h2 => by omega, fun h => by omega⟩
  | f + 1, m, hm => by
    refine ⟨hp.lt h0 _, hp.lt h0 _, ?_⟩
    by_cases h : KP kf p m < KP kf p (m - 1)
    · rw [show decide (kf (p.getD m 0) < kf (p.getD (m - 1) 0)) = true from decide_eq_true h]; dsimp only; rw [if_pos rfl]
      exact ⟨Nat.le_refl _, by omega, fun i h1 h2 => by omega, fun _ => h⟩
    · rw [show decide (kf (p.getD m 0) < kf (p.getD (m - 1) 0)) = false from decide_eq_false h]; dsimp only; rw [if_neg Bool.false_ne_true]
      refine TOk.mono (fun r hr => ?_) (asc_ok hp h0 f (m + 1) (by omega))
      obtain ⟨r1, r2, r3, r4⟩ := hr
      refine ⟨by omega, by omega, fun i h1 h2 => ?_, fun h => r4 (by omega)⟩
      by_cases e : i = m
      · subst e; exact Int.not_lt.mp h
      · exact r3 i (by omega) h2
noncomputable def Tail (kf : Nat → Int) (p : Array Nat) (k q : Nat) : Prop := q + 1 ≤ k ∧ ∀ i, k - (q + 1) ≤ i → i < k → KP kf p i = KP kf p (k - 1)
theorem rev_same {p : Array Nat} {k q : Nat} (hk : k ≤ p.size) (ht : Tail kf p k q) (i : Nat) : KP kf (kas_rev p (k - (q + 1)) k) i = KP kf p i := by
  rw [KP_rev hk]
  have := ht.1
  split
  · rw [ht.2 _ (by omega) (by omega), ht.2 i (by omega) (by omega)]
  · rfl
theorem Down.congr {p p' : Array Nat} {k : Nat} (h : Down kf p k) (e : ∀ i, KP kf p' i = KP kf p i) : Down kf p' k := fun i j h1 h2 => by rw [e, e]; exact h i j h1 h2
theorem Down.more {p : Array Nat} {k : Nat} (h : Down kf p k) (hk : 1 ≤ k) (hl : KP kf p k ≤ KP kf p (k - 1)) : Down kf p (k + 1) := fun i j h1 h2 => by
  by_cases hj : j = k
  · subst hj
    by_cases hi : i = j
    · subst hi; exact Int.le_refl _
    · exact Int.le_trans hl (h i (j - 1) (by omega) (by omega))
  · exact h i j h1 (by omega)
theorem desc_ok (h0 : 0 < n) : ∀ (f : Nat) (p : Array Nat) (m q : Nat), PermR n p → 1 ≤ m → m + f ≤ n → Down kf p m → Tail kf p m q → TOk n kf (kas_desc f p m q) fun r => PermR n r.1 ∧ m ≤ r.2.1 ∧ r.2.1 ≤ m + f ∧ Down kf r.1 r.2.1 ∧ Tail kf r.1 r.2.1 r.2.2
  | 0, p, m, q, hp, _, _, hd, ht => ⟨hp, Nat.le_refl _, by show m ≤ m + 0; omega, hd, ht⟩
  | f + 1, p, m, q, hp, hm, hf, hd, ht => by
    refine ⟨hp.lt h0 _, hp.lt h0 _, ?_⟩
    have hsz := hp.size
    by_cases h : KP kf p m < KP kf p (m - 1)
    · rw [show decide (kf (p.getD m 0) < kf (p.getD (m - 1) 0)) = true from decide_eq_true h]; dsimp only; rw [if_pos rfl]
      have hd1 := hd.more hm (Int.le_of_lt h)
      split
      · have e := rev_same (by omega) ht
        have hd2 := hd1.congr e
        refine TOk.mono (fun r hr => ⟨hr.1, by omega, by omega, hr.2.2.2.1, hr.2.2.2.2⟩) (desc_ok h0 f _ (m + 1) 0 (rev_perm hp) (by omega) (by omega) hd2 ⟨by omega, fun i h1 h2 => ?_⟩)
        have : i = m := by omega
        subst this; rfl
      · refine TOk.mono (fun r hr => ⟨hr.1, by omega, by omega, hr.2.2.2.1, hr.2.2.2.2⟩) (desc_ok h0 f p (m + 1) 0 hp (by omega) (by omega) hd1 ⟨by omega, fun i h1 h2 => ?_⟩)
        have : i = m := by omega
        subst this; rfl
    · rw [show decide (kf (p.getD m 0) < kf (p.getD (m - 1) 0)) = false from decide_eq_false h]; dsimp only; rw [if_neg Bool.false_ne_true]
      refine ⟨hp.lt h0 _, hp.lt h0 _, ?_⟩
      by_cases h' : KP kf p (m - 1) < KP kf p m
      · rw [show decide (kf (p.getD (m - 1) 0) < kf (p.getD m 0)) = true from decide_eq_true h']; dsimp only; rw [if_pos rfl]
        exact ⟨hp, Nat.le_refl _, by show m ≤ m + (f + 1); omega, hd, ht⟩
      · rw [show decide (kf (p.getD (m - 1) 0) < kf (p.getD m 0)) = false from decide_eq_false h']; dsimp only; rw [if_neg Bool.false_ne_true]
        have he : KP kf p m = KP kf p (m - 1) := by
          have := Int.not_lt.mp h
          have := Int.not_lt.mp h'
          omega
        refine TOk.mono (fun r hr => ⟨hr.1, by omega, by omega, hr.2.2.2.1, hr.2.2.2.2⟩) (desc_ok h0 f p (m + 1) (q + 1) hp (by omega) (by omega) (hd.more hm (by omega)) ⟨by have := ht.1; omega, fun i h1 h2 => ?_⟩)
        have := ht.1
        show KP kf p i = KP kf p (m + 1 - 1)
        rw [show m + 1 - 1 = m by omega]
        by_cases e : i = m
        · subst e; rfl
        · rw [he]; exact ht.2 i (by omega) (by omega)
theorem tail3_ok (h0 : 0 < n) {p : Array Nat} {m : Nat} (hp : PermR n p) (hm : 1 ≤ m) (hn : m ≤ n) (hd : Down kf p m) : TOk n kf (kas_tail3 m n p) fun r => PermR n r.2 ∧ 1 ≤ r.1 ∧ r.1 ≤ n ∧ Up kf r.2 r.1 := by
  have hsz := hp.size
  refine TOk.bind (TOk.mono (fun r hr => ?_) (asc_ok (rev_perm hp) h0 (n - m) m hm))
  obtain ⟨r1, r2, r3, _⟩ := hr
  refine ⟨rev_perm hp, by show 1 ≤ r; omega, by show r ≤ n; omega, Up.steps (a := m) r (fun i j h1 h2 => ?_) fun i h1 h2 _ => r3 i h1 h2⟩
  rw [KP_rev (by omega), KP_rev (by omega), if_pos ⟨by omega, by omega⟩, if_pos ⟨by omega, h2⟩]
  exact hd _ _ (by omega) (by omega)
theorem descPart_ok (h0 : 0 < n) {p : Array Nat} {m : Nat} (hp : PermR n p) (hm : 1 ≤ m) (hn : m + 1 ≤ n) (hd : Down kf p (m + 1)) : TOk n kf (kas_descPart m n p) fun r => PermR n r.2 ∧ 1 ≤ r.1 ∧ r.1 ≤ n ∧ Up kf r.2 r.1 := by
  refine TOk.bind (TOk.mono (fun r hr => ?_) (desc_ok h0 (n - (m + 1)) p (m + 1) 0 hp (by omega) (by omega) hd ⟨by omega, fun i h1 h2 => ?_⟩))
  · obtain ⟨r1, r2, r3, r4, r5⟩ := hr
    have hsz := r1.size
    split
    · exact tail3_ok h0 (rev_perm r1) (by omega) (by omega) (r4.congr (rev_same (by omega) r5))
    · exact tail3_ok h0 r1 (by omega) (by omega) r4
  · have : i = m := by omega
    subst this; rfl
theorem count_ok (h0 : 0 < n) {p : Array Nat} (hp : PermR n p) : TOk n kf (kas_count n p) fun r => PermR n r.2 ∧ 1 ≤ r.1 ∧ r.1 ≤ n ∧ Up kf r.2 r.1 := by
  have hsz := hp.size
  refine TOk.bind (TOk.mono (fun r hr => ?_) (asc_ok hp h0 (n - 1) 1 (Nat.le_refl _)))
  obtain ⟨r1, r2, r3, r4⟩ := hr
  have hu : Up kf p r := Up.steps (a := 1) r (fun i j h1 h2 => by
    have : i = j := by omega
    subst this; exact Int.le_refl _) fun i h1 h2 _ => r3 i h1 h2
  by_cases he : r = n
  · rw [if_pos (by rw [he]; exact beq_self_eq_true n)]
    exact ⟨hp, r1, by show r ≤ n; omega, hu⟩
  · rw [if_neg (fun z => he (beq_iff_eq.mp z))]
    have hlt := r4 (by omega)
    split
    · rename_i h1
      refine ⟨hp.lt h0 _, hp.lt h0 _, ?_⟩
      by_cases h : KP kf p 0 < KP kf p (r - 1)
      · rw [show decide (kf (p.getD 0 0) < kf (p.getD (r - 1) 0)) = true from decide_eq_true h]; dsimp only; rw [if_pos rfl]
        exact ⟨hp, r1, by show r ≤ n; omega, hu⟩
      · rw [show decide (kf (p.getD 0 0) < kf (p.getD (r - 1) 0)) = false from decide_eq_false h]; dsimp only; rw [if_neg Bool.false_ne_true]
        have hall : ∀ i, i < r → KP kf p i = KP kf p (r - 1) := fun i hi => by
          have a1 := hu 0 i (by omega) hi
          have a2 := hu i (r - 1) (by omega) (by omega)
          have a3 := Int.not_lt.mp h
          omega
        have e : ∀ i, KP kf (kas_rev p 0 r) i = KP kf p i := fun i => by
          rw [KP_rev (by omega)]
          split
          · rw [hall _ (by omega), hall i (by omega)]
          · rfl
        refine descPart_ok h0 (rev_perm hp) r1 (by omega) (Down.congr (p := p) (fun i j h1 h2 => ?_) e)
        by_cases hj : j = r
        · subst hj
          by_cases hi : i = j
          · subst hi; exact Int.le_refl _
          · rw [hall i (by omega)]; omega
        · rw [hall i (by omega), hall j (by omega)]; exact Int.le_refl _
    · have hr1 : r = 1 := by omega
      subst hr1
      refine descPart_ok h0 hp r1 (by omega) fun i j h1 h2 => ?_
      by_cases hi : i = j
      · subst hi; exact Int.le_refl _
      · have e1 : i = 0 := by omega
        have e2 : j = 1 := by omega
        subst e1; subst e2; exact Int.le_of_lt hlt
theorem place_ok (h0 : 0 < n) {p : Array Nat} {k : Nat} (hp : PermR n p) (hu : Up kf p k) : ∀ (f l r : Nat), l ≤ r → r ≤ k → r - l ≤ f → (∀ i, i < l → KP kf p i ≤ KP kf p k) → (∀ i, r ≤ i → i < k → KP kf p k < KP kf p i) → TOk n kf (kas_place p k f l r) fun m => m ≤ k ∧ (∀ i, i < m → KP kf p i ≤ KP kf p k) ∧ ∀ i, m ≤ i → i < k → KP kf p k < KP kf p i
  | 0, l, r, h1, h2, h3, h4, h5 => by
    have : l = r := by omega
    subst this
    exact ⟨h2, h4, h5⟩
  | f + 1, l, r, h1, h2, h3, h4, h5 => by
    unfold kas_place
    split
    · have : l = r := by omega
      subst this
      exact ⟨h2, h4, h5⟩
    · rename_i hge
      refine ⟨hp.lt h0 _, hp.lt h0 _, ?_⟩
      by_cases h : KP kf p k < KP kf p ((l + r) / 2)
      · rw [show decide (kf (p.getD k 0) < kf (p.getD ((l + r) / 2) 0)) = true from decide_eq_true h]; dsimp only; rw [if_pos rfl]
        exact place_ok h0 hp hu f l ((l + r) / 2) (by omega) (by omega) (by omega) h4 fun i a b => Int.lt_of_lt_of_le h (hu _ _ a b)
      · rw [show decide (kf (p.getD k 0) < kf (p.getD ((l + r) / 2) 0)) = false from decide_eq_false h]; dsimp only; rw [if_neg Bool.false_ne_true]
        exact place_ok h0 hp hu f ((l + r) / 2 + 1) r (by omega) (by omega) (by omega) (fun i a => Int.le_trans (hu i ((l + r) / 2) (by omega) (by omega)) (Int.not_lt.mp h)) h5
theorem bin_ok (h0 : 0 < n) : ∀ (f : Nat) (p : Array Nat) (k : Nat), PermR n p → k + f = n → Up kf p k → TOk n kf (kas_bin f p k) fun r => PermR n r ∧ Up kf r n
  | 0, p, k, hp, hk, hu => by
    have : k = n := by omega
    subst this
    exact ⟨hp, hu⟩
  | f + 1, p, k, hp, hk, hu => by
    refine TOk.bind (TOk.mono (fun l hl => ?_) (place_ok h0 hp hu k 0 k (by omega) (Nat.le_refl _) (by omega) (fun i h => by omega) fun i h1 h2 => by omega))
    obtain ⟨l1, l2, l3⟩ := hl
    have hks : k < p.size := by rw [hp.size]; omega
    refine bin_ok h0 f _ (k + 1) (hp.of (bubble_perm _ _ _)) (by omega) fun i j hij hj => ?_
    rw [KP_bubble hks (by omega), KP_bubble hks (by omega), show k - (k - l) = l by omega]
    repeat' split
    all_goals first
      | (exfalso; omega)
      | exact Int.le_refl _
      | exact l2 _ (by omega)
      | exact Int.le_of_lt (l3 _ (by omega) (by omega))
      | exact hu _ _ (by omega) (by omega)
theorem sort_ok (h0 : 0 < n) : TOk n kf (kas_sort n) fun r => PermR n r ∧ Up kf r n := by
  refine TOk.bind (TOk.mono (fun r hr => ?_) (count_ok h0 (p := List.toArray (List.range n)) (by unfold PermR; rw [List.toList_toArray])))
  obtain ⟨r1, r2, r3, r4⟩ := hr
  split
  · exact bin_ok h0 _ _ _ r1 (by omega) (by rw [show max r.1 1 = r.1 by omega]; exact r4)
  · have : r.1 = n := by omega
    rw [this] at r4
    exact ⟨r1, r4⟩
end
end Internal

set_option Elab.async false
set_option linter.all false
set_option maxRecDepth 100000
set_option maxHeartbeats 4000000
namespace Internal
open PySem PySem.W PySem.Calls PyProof.Rows
section
variable {prog : Program} {w : World} {A : Around} {E : Value → Shared → Prop}
theorem srt_fold {vs : List Value} {J : List Value → Shared → Prop} {body : Value → PUnit → Sem (ForInStep PUnit)}
    (hb : ∀ x ks (s : Shared), vs[ks.length]? = some x → J ks s → wpAny (model prog w) A (body x ⟨⟩) (fun r s' => r = .yield ⟨⟩ ∧ ∃ k, J (ks ++ [k]) s') E s) :
    ∀ (r ks : List Value) (s : Shared), vs.drop ks.length = r → ks.length ≤ vs.length → J ks s → wpAny (model prog w) A (forIn r PUnit.unit body) (fun _ s' => ∃ ks, ks.length = vs.length ∧ J ks s') E s
  | [], ks, s, hr, hl, h => by
    rw [List.forIn_nil]
    have : vs.length ≤ ks.length := List.drop_eq_nil_iff.mp hr
    exact wpAny_pure ⟨ks, by omega, h⟩
  | x :: r, ks, s, hr, hl, h => by
    have hx : vs[ks.length]? = some x := by
      have := congrArg (fun l : List Value => l[0]?) hr
      simpa [List.getElem?_drop] using this
    have hlt : ks.length < vs.length := (List.getElem?_eq_some_iff.mp hx).1
    rw [List.forIn_cons]
    refine wpAny_bind (wpAny_mono (hb x ks s hx h) (fun q s' hq => ?_) fun _ _ x => x)
    obtain ⟨rfl, k, hJ⟩ := hq
    show wpAny (model prog w) A (forIn r PUnit.unit body) _ E s'
    refine srt_fold hb r (ks ++ [k]) s' ?_ (by rw [List.length_append, List.length_singleton]; omega) hJ
    rw [List.length_append, List.length_singleton]
    have := congrArg List.tail hr
    rwa [List.tail_drop] at this
theorem srt_tail {s : Shared} {a kS : Addr} {st : SortSt} {e e1 : Nat} {ks out : List Value} {P : PySem.Fin → Shared → Prop} (hout : (arrOf st).map (·.2) = List.toArray out) (hz : out.length < 64) (hkz : ks.length < 64) (hf : failedOf st = none)
    (hk : s.heap.get? kS = some (seqObj "list" (List.toArray ks) e)) (ha : s.heap.get? a = some (seqObj "list" #[] e1)) (hne : kS ≠ a)
    (h : ∀ h', (∀ b o, b ≠ kS → b ≠ a → s.heap.get? b = some o → h'.get? b = some o) → (∃ c, h'.get? a = some (seqObj "list" (List.toArray out) c)) → (∃ o, h'.get? kS = some o) → P (.done (.ret .none)) { s with heap := h' }) :
    wpAny (model prog w) A (ksk_tail a false e1 (.ref kS) st) P E s := by
  have s1 := Heap.SameBut.update s.heap kS (Obj.mapSeq fun _ => (#[] : Array Value))
  obtain ⟨ck, hck⟩ : ∃ ck, (s.heap.update kS (Obj.mapSeq fun _ => (#[] : Array Value))).get? kS = some (seqObj "list" #[] ck) := ⟨_, get?_update_seq hk fun _ => #[]⟩
  have ha1 : (s.heap.update kS (Obj.mapSeq fun _ => (#[] : Array Value))).get? a = some (seqObj "list" #[] e1) := (s1.2 a hne.symm).trans ha
  have s2 := Heap.SameBut.update (s.heap.update kS (Obj.mapSeq fun _ => (#[] : Array Value))) a (Obj.mapSeq fun _ => List.toArray out)
  obtain ⟨c2, hc2⟩ : ∃ c2, ((s.heap.update kS (Obj.mapSeq fun _ => (#[] : Array Value))).update a (Obj.mapSeq fun _ => List.toArray out)).get? a = some (seqObj "list" (List.toArray out) c2) := ⟨_, get?_update_seq ha1 fun _ => List.toArray out⟩
  have hsz : (List.toArray out).size = out.length := by rw [List.size_toArray]
  unfold ksk_tail
  try dsimp only
  rw [hout, if_neg (by simp)]
  refine wpAny_bind (listUpdate_at hk rfl ?_ (by rw [List.size_toArray, sizeLine_eq]; omega) (Nat.zero_le _))
  refine wpAny_bind (wpAny_letGo ?_)
  refine wpAny_bind (seqEpoch_at ha1 rfl ?_)
  refine wpAny_bind (listUpdate_at ha1 rfl ?_ (Nat.zero_le _) (Nat.le_trans (Nat.le_of_eq hsz) (by rw [sizeLine_eq]; omega)))
  rw [hf]
  simp only [bne_self_eq_false, Bool.false_eq_true, if_false]
  refine wpAny_pure (h _ (fun b o h1 h2 q => (s2.2 b h2).trans ((s1.2 b h1).trans q)) ⟨c2, hc2⟩ ⟨_, (s2.2 kS hne).trans hck⟩)
theorem srt_end {s : Shared} {a kS : Addr} {e e1 : Nat} {vs ks fs : List Value} {kf : Nat → Int} {P : PySem.Fin → Shared → Prop} (hl : ks.length = vs.length) (h1 : 1 ≤ vs.length) (h64 : vs.length < 64)
    (hk : s.heap.get? kS = some (seqObj "list" (List.toArray ks) e)) (ha : s.heap.get? a = some (seqObj "list" #[] e1)) (hne : kS ≠ a)
    (ht : KatTups s.heap ks fs) (hfs : ∀ v ∈ fs, ∃ i t, v = Value.int i t) (hfl : fs.length = ks.length)
    (hask : ∀ i j (C : Bool → Shared → Prop), i < vs.length → j < vs.length → C (decide (kf i < kf j)) s → wpAny (model prog w) A (keyLt' (tuples' true) (ks.getD i Value.none) (ks.getD j Value.none)) C (fun _ _ => False) s)
    (h : ∀ (p : List Nat) h', p.Perm (List.range vs.length) → (∀ i j, i ≤ j → j < vs.length → kf (p.getD i 0) ≤ kf (p.getD j 0)) → (∀ b o, b ≠ kS → b ≠ a → s.heap.get? b = some o → h'.get? b = some o) →
      (∃ c, h'.get? a = some (seqObj "list" (List.toArray (p.map fun i => vs.getD i Value.none)) c)) → (∃ o, h'.get? kS = some o) → P (.done (.ret .none)) { s with heap := h' }) :
    wpAny (model prog w) A (ksk_end a false vs.toArray e1 (.ref kS) (List.toArray ks)) P E s := by
  unfold ksk_end
  try dsimp only
  rw [if_neg (by simp)]
  by_cases h2 : 2 ≤ vs.length
  · have hn2 : ¬ vs.toArray.size < 2 := by rw [List.size_toArray]; omega
    rw [if_neg hn2, if_neg hn2]
    refine wpAny_bind (kat_kind (T := .type "int") ht (by omega) (fun v hv => ?_) (by rfl) ?_)
    · obtain ⟨i, t, rfl⟩ := hfs v hv
      exact .now
    rw [show (Value.type "int" != Value.type "tuple") = true from by rfl]
    have tree : (kas_sort vs.length).kasWp (kas_ask prog w A (tuples' true) ks) (fun p s' => s' = s ∧ PermR vs.length p ∧ Up kf p vs.length) s :=
      TOk.wp (n := vs.length) (kf := kf) (fun i j C hi hj hc => hask i j C hi hj hc) (TOk.mono (fun p hp => ⟨rfl, hp.1, hp.2⟩) (sort_ok (by omega)))
    refine wpAny_bind (wpAny_mono (kat_run (Q := fun st' s' => ∃ p : Array Nat, p.size = vs.length ∧ arrOf st' = p.map (kas_item ((List.toArray ks).zip vs.toArray)) ∧ failedOf st' = none ∧ s' = s ∧ PermR vs.length p ∧ Up kf p vs.length)
      hl h2 h64 (fun p' st' s' a1 a2 a3 a4 => ⟨p', a1, a2, a3, a4⟩) tree) ?_ fun _ _ x => x)
    rintro ⟨⟨⟩, st'⟩ s' ⟨p, hp, har, hf, rfl, hpr, hup⟩
    try dsimp only
    refine srt_tail (kat_snds hl har) (by rw [List.length_map, Array.length_toList, hp]; exact h64) (by omega) hf hk ha hne fun h' k1 k2 k3 => h p.toList h' hpr (fun i j hij hj => ?_) k1 k2 k3
    have := hup i j hij hj
    unfold KP at this
    simpa [Array.getD_eq_getD_getElem?, List.getD_eq_getElem?_getD] using this
  · have hn2 : vs.toArray.size < 2 := by rw [List.size_toArray]; omega
    rw [if_pos hn2, if_pos hn2]
    have e1' : vs.length = 1 := by omega
    obtain ⟨v, rfl⟩ : ∃ v, vs = [v] := List.length_eq_one_iff.mp e1'
    obtain ⟨k, rfl⟩ : ∃ k, ks = [k] := List.length_eq_one_iff.mp (by rw [hl]; rfl)
    refine wpAny_bind (wpAny_pure ?_)
    refine wpAny_bind (wpAny_pure ?_)
    refine srt_tail (ks := [k]) (out := [v]) (by simp only [Bool.false_eq_true, if_false]; show Array.map (fun x : Value × Value => x.2) (#[k].zip #[v]) = #[v]; simp) (by simp) (by simp) rfl hk ha hne fun h' k1 k2 k3 => h [0] h' (by rw [show List.range [v].length = [0] from rfl]) (fun i j hij hj => ?_) k1 k2 k3
    have hj0 : j = 0 := by simp at hj; omega
    subst hj0
    obtain rfl : i = 0 := by omega
    exact Int.le_refl _
theorem srt_tree {s : Shared} {a : Addr} {f : Value} {vs : List Value} {n0 : Nat} {kf : Nat → Int} {P : PySem.Fin → Shared → Prop} (J : Addr → Nat → List Value → Shared → Prop)
    (ho : s.heap.get? a = some (seqObj "list" vs.toArray n0)) (h1 : 1 ≤ vs.length) (h64 : vs.length < 64)
    (start : ∀ h' kS e1, (∀ b o, b ≠ a → s.heap.get? b = some o → h'.get? b = some o) → h'.get? a = some (seqObj "list" #[] e1) → s.heap.objs.size < kS → h'.get? kS = some (seqObj "list" #[] 0) → J kS e1 [] { s with heap := h' })
    (key : ∀ kS e1 ks x (s' : Shared), vs[ks.length]? = some x → J kS e1 ks s' → wpAny (model prog w) A (call f [x]) (fun k s'' => (∃ e, s''.heap.get? kS = some (seqObj "list" (List.toArray ks) e)) ∧
      ∀ h' c, Heap.SameBut kS s''.heap h' → h'.get? kS = some (seqObj "list" (List.toArray (ks ++ [k])) c) → J kS e1 (ks ++ [k]) { s'' with heap := h' }) (fun _ _ => False) s')
    (fin : ∀ kS e1 ks (s' : Shared), ks.length = vs.length → J kS e1 ks s' → (∃ e, s'.heap.get? kS = some (seqObj "list" (List.toArray ks) e)) ∧ s'.heap.get? a = some (seqObj "list" #[] e1) ∧ kS ≠ a ∧
      (∃ fs, KatTups s'.heap ks fs ∧ (∀ v ∈ fs, ∃ i t, v = Value.int i t) ∧ fs.length = ks.length) ∧
      (∀ i j (C : Bool → Shared → Prop), i < vs.length → j < vs.length → C (decide (kf i < kf j)) s' → wpAny (model prog w) A (keyLt' (tuples' true) (ks.getD i Value.none) (ks.getD j Value.none)) C (fun _ _ => False) s') ∧
      ∀ (p : List Nat) h', p.Perm (List.range vs.length) → (∀ i j, i ≤ j → j < vs.length → kf (p.getD i 0) ≤ kf (p.getD j 0)) → (∀ b o, b ≠ kS → b ≠ a → s'.heap.get? b = some o → h'.get? b = some o) →
      (∃ c, h'.get? a = some (seqObj "list" (List.toArray (p.map fun i => vs.getD i Value.none)) c)) → (∃ o, h'.get? kS = some o) → P (.done (.ret .none)) { s' with heap := h' }) :
    wpAny (model prog w) A (ksk_tree a f false) P E s := by
  have ha : a < s.heap.objs.size := Heap.lt_size ho
  have s1 := Heap.SameBut.update s.heap a (Obj.mapSeq fun _ => (#[] : Array Value))
  obtain ⟨e1, ho1⟩ : ∃ e1, (s.heap.update a (Obj.mapSeq fun _ => (#[] : Array Value))).get? a = some (seqObj "list" #[] e1) := ⟨_, get?_update_seq ho fun _ => #[]⟩
  have hkS : ((s.heap.update a (Obj.mapSeq fun _ => (#[] : Array Value))).push (seqObj "tuple" vs.toArray 0)).objs.size = s.heap.objs.size + 1 := by rw [size_push', Heap.size_update]
  unfold ksk_tree
  refine wpAny_bind (listItems_at ho rfl ?_)
  refine wpAny_bind (listUpdate_at ho rfl ?_ (by rw [List.size_toArray, sizeLine_eq]; omega) (Nat.zero_le _))
  refine wpAny_bind (seqEpoch_at ho1 rfl ?_)
  refine wpAny_bind (wpAny_newTuple ?_ (by show vs.length ≤ _; rw [sizeLine_eq]; omega))
  refine wpAny_bind (wpAny_newList ?_ (Nat.zero_le _))
  refine wpAny_holding ?_
  have J0 := start (((s.heap.update a (Obj.mapSeq fun _ => (#[] : Array Value))).push (seqObj "tuple" vs.toArray 0)).push (seqObj "list" #[] 0)) ((s.heap.update a (Obj.mapSeq fun _ => (#[] : Array Value))).push (seqObj "tuple" vs.toArray 0)).objs.size e1
    (fun b o hb q => Heap.get?_push_of_some _ (Heap.get?_push_of_some _ ((s1.2 b hb).trans q))) (Heap.get?_push_of_some _ (Heap.get?_push_of_some _ ho1)) (by rw [hkS]; omega) (Heap.get?_push_size _ rfl)
  generalize ((s.heap.update a (Obj.mapSeq fun _ => (#[] : Array Value))).push (seqObj "tuple" vs.toArray 0)).objs.size = kS at J0 ⊢
  generalize (((s.heap.update a (Obj.mapSeq fun _ => (#[] : Array Value))).push (seqObj "tuple" vs.toArray 0)).push (seqObj "list" #[] 0)) = hh at J0 ⊢
  show wpAny (model prog w) A (ksk_rest a f false vs.toArray e1 (.ref kS)) P E { s with heap := hh }
  unfold ksk_rest
  refine wpAny_bind (wpAny_rule ?_)
  first
    | rw [List.forIn_toArray]
    | (rw [← Array.forIn_toList]; simp only [List.toList_toArray])
    | rw [← Array.forIn_toList]
  refine wpAny_bind (wpAny_mono (srt_fold (J := J kS e1) (fun x ks s' hx hJ => ?_) vs [] _ rfl (Nat.zero_le _) J0) (fun _ s' hd => ?_) fun _ _ x => x)
  · have hlt : ks.length < vs.length := (List.getElem?_eq_some_iff.mp hx).1
    refine wpAny_bind (wpAny_attempt (wpAny_mono (key kS e1 ks x s' hx hJ) (fun k s'' hk => ?_) fun _ _ hF => hF.elim))
    obtain ⟨⟨e, hk1⟩, c⟩ := hk
    have s3 := Heap.SameBut.update s''.heap kS (Obj.mapSeq (·.push k))
    have ea : (List.toArray ks).push k = List.toArray (ks ++ [k]) := by simp
    obtain ⟨c2, hc2⟩ : ∃ c2, (s''.heap.update kS (Obj.mapSeq (·.push k))).get? kS = some (seqObj "list" (List.toArray (ks ++ [k])) c2) := ⟨_, by rw [← ea]; exact get?_update_seq hk1 (·.push k)⟩
    try dsimp only
    refine wpAny_bind (listUpdate_at hk1 rfl ?_ (by rw [List.size_toArray, sizeLine_eq]; omega) (Nat.le_trans (Nat.le_of_eq (Array.size_push ..)) (by rw [List.size_toArray, sizeLine_eq]; omega)))
    exact wpAny_pure ⟨rfl, k, c _ c2 s3 hc2⟩
  · obtain ⟨ks, hl, hJ⟩ := hd
    obtain ⟨⟨e, hk⟩, ha', hne, ⟨fs, ht, hfs, hfl⟩, hask, h⟩ := fin kS e1 ks s' hl hJ
    try dsimp only
    refine wpAny_bind (listItems_at hk rfl ?_)
    exact srt_end hl h1 h64 hk ha' hne ht hfs hfl hask h
theorem collect_range {s : Shared} {r : Addr} {n : Nat} {t u v : Tok} {Q : List Value → Shared → Prop} (hh : A.handled = none) (hr : s.heap.get? r = some { cls := .type "range", data := .fields #[.int 0 t, .int (n : Int) u, .int 1 v] }) (hn : n ≤ 100000)
    (h : ∀ vs h' tk, vs.length = n → (∀ (i : Nat) (x : Value), vs[i]? = some x → ∃ t, x = Value.int (i : Int) t) → (∀ b o, s.heap.get? b = some o → h'.get? b = some o) → s.heap.objs.size < h'.objs.size → Q vs { s with heap := h', toks := tk }) :
    wpAny (model prog w) A (collect (.ref r)) Q E s := by
  unfold collect
  refine wpAny_bind (wpAny_runValue (codeAny_builtin entry_proto_collect' ?_))
  show wpAny _ _ (do again (.builtin "list.__iadd__" ⟨[← newList [], .ref r], []⟩)) _ _ s
  refine wpAny_bind (wpAny_newList (wpAny_pure ⟨Code.quiet_builtin _ (by decide +kernel), codeAny_builtin entry_list_iadd' ?_⟩))
  show wpAny _ _ (Builtin.List.listExtendWith (.ref s.heap.objs.size) (.ref r) (.ref s.heap.objs.size)) _ _ { s with heap := s.heap.push (seqObj "list" #[] 0) }
  refine wpAny_extend_range (prog := prog) (w := w) (A := A) (R := fun r s' => match r with
      | .ok (.ret v) => wpAny (model prog w) A (match v with
        | .ref a => (do match (← load a).data with
          | .seq xs _ => pure xs.toList
          | _ => unsupported "internal:collect")
        | _ => unsupported "internal:collect") Q E s'
      | .ok _ => False
      | .error e => E e s') (s := { s with heap := s.heap.push (seqObj "list" #[] 0) }) hh (Heap.get?_push_of_some _ hr) (a := 0) (b := (n : Int)) (c := 1) (n := n) (small_one (by omega) (by omega) (by omega) (by omega)) (by rw [rangeSize_one]; split <;> omega) (by omega) s.heap.objs.size (.ref s.heap.objs.size) _ (Heap.get?_push_size _ rfl) fun h' tk acc c' hk hS' hacc => ?_
  show wpAny (model prog w) A (do
      let o ← load s.heap.objs.size
      match o.data with
      | .seq xs _ => pure xs.toList
      | _ => unsupported "internal:collect") Q E { s with heap := h', toks := tk }
  refine wpAny_bind (wpAny_load hS' ?_)
  refine wpAny_pure (h acc.toList h' tk (by simpa using hacc.1) (fun i x hx => ?_) (fun b o q => hk b o (Nat.ne_of_lt (Heap.lt_size q)) (Heap.get?_push_of_some _ q)) (Heap.lt_size hS'))
  obtain ⟨t', e⟩ := hacc.2 i x (by simpa using hx)
  exact ⟨t', by rw [e]; congr 1; omega⟩
theorem srt_call {s : Shared} {r f : Addr} {n : Nat} {t u v : Tok} {kf : Nat → Int} {Q : Value → Shared → Prop} (J : Addr → Addr → Nat → List Value → Shared → Prop) (hh : A.handled = none)
    (hr : s.heap.get? r = some { cls := .type "range", data := .fields #[.int 0 t, .int (n : Int) u, .int 1 v] }) (h1 : 1 ≤ n) (h64 : n < 64)
    (start : ∀ h' tk D kS e1, (∀ b o, s.heap.get? b = some o → h'.get? b = some o) → s.heap.objs.size < D → (D : Nat) < (kS : Nat) → h'.get? D = some (seqObj "list" #[] e1) → h'.get? kS = some (seqObj "list" #[] 0) → J D kS e1 [] { s with heap := h', toks := tk })
    (key : ∀ D kS e1 ks tk (s' : Shared), ks.length < n → J D kS e1 ks s' → wpAny (model prog w) A.in1.in1 (call (.ref f) [.int (ks.length : Int) tk]) (fun k s'' => (∃ e, s''.heap.get? kS = some (seqObj "list" (List.toArray ks) e)) ∧
      ∀ h' c, Heap.SameBut kS s''.heap h' → h'.get? kS = some (seqObj "list" (List.toArray (ks ++ [k])) c) → J D kS e1 (ks ++ [k]) { s'' with heap := h' }) (fun _ _ => False) s')
    (fin : ∀ D kS e1 ks (s' : Shared), ks.length = n → J D kS e1 ks s' → (∃ e, s'.heap.get? kS = some (seqObj "list" (List.toArray ks) e)) ∧ s'.heap.get? D = some (seqObj "list" #[] e1) ∧ kS ≠ D ∧
      (∃ fs, KatTups s'.heap ks fs ∧ (∀ v ∈ fs, ∃ i t, v = Value.int i t) ∧ fs.length = ks.length) ∧
      (∀ i j (C : Bool → Shared → Prop), i < n → j < n → C (decide (kf i < kf j)) s' → wpAny (model prog w) A.in1.in1 (keyLt' (tuples' true) (ks.getD i Value.none) (ks.getD j Value.none)) C (fun _ _ => False) s') ∧
      ∀ (p : List Nat) (out : List Value) h' c, p.Perm (List.range n) → (∀ i j, i ≤ j → j < n → kf (p.getD i 0) ≤ kf (p.getD j 0)) → (∀ b o, b ≠ kS → b ≠ D → s'.heap.get? b = some o → h'.get? b = some o) →
      Vals (p.map fun i : Nat => V.int (i : Int)) out → h'.get? D = some (seqObj "list" (List.toArray out) c) → (∃ o, h'.get? kS = some o) → Q (.ref D) { s' with heap := h' }) :
    wpAny (model prog w) A (call (.builtin "sorted") [.ref r] [(Str.ofString "key", .ref f)]) Q E s := by
  refine call_function_entry_kw kind_sorted plain_sorted entry_sorted (ksk_s1 _ _) ?_
  unfold Builtin.«sorted»
  refine wpAny_bind (m := checkCount "sorted" 1 1 _) (wpAny_pure ?_)
  refine wpAny_bind (collect_range (A := A.in1) hh hr (by omega) fun vs h1' tk1 hvl hvs hk1 hsz1 => ?_)
  refine wpAny_bind (wpAny_newList ?_ (by rw [hvl, sizeLine_eq]; omega))
  have hoL : (h1'.push (seqObj "list" vs.toArray 0)).get? h1'.objs.size = some (seqObj "list" vs.toArray 0) := Heap.get?_push_size _ rfl
  show wpAny _ _ _ _ _ { s with heap := h1'.push (seqObj "list" vs.toArray 0), toks := tk1 }
  refine wpAny_bind (wpAny_holding (wpAny_call_entry_kw slot_list_sort ⟨_, hoL, rfl⟩ entry_list_sort ?body (ksk_l1 _ _)))
  case body =>
    show wpAny (model prog w) A.in1.in1 (Builtin.«list.sort» ⟨[.ref h1'.objs.size], [(Str.ofString "key", .ref f)]⟩) _ _ _
    rw [ksk_t1]
    refine srt_tree (kf := kf) (J h1'.objs.size) hoL (by omega) (by omega) (fun h' kS e1 k1 k2 k3 k4 => ?_) (fun kS e1 ks x s' hx hJ => ?_) fun kS e1 ks s' hl hJ => ?_
    · exact start h' tk1 _ kS e1 (fun b o q => k1 b o (Nat.ne_of_lt (Nat.lt_trans (Heap.lt_size q) hsz1)) (Heap.get?_push_of_some _ (hk1 b o q))) hsz1 (by rw [size_push'] at k3; omega) k2 k4
    · obtain ⟨tx, rfl⟩ := hvs _ _ hx
      exact key _ kS e1 ks tx s' (by have := (List.getElem?_eq_some_iff.mp hx).1; omega) hJ
    · obtain ⟨f1, f2, f3, f4, f5, f6⟩ := fin _ kS e1 ks s' (by omega) hJ
      refine ⟨f1, f2, f3, f4, by rw [hvl]; exact f5, fun p h' hp hs k1 k2 k3 => ?_⟩
      obtain ⟨c, hc⟩ := k2
      rw [hvl] at hp hs
      refine ⟨_, rfl, wpAny_pure ⟨_, rfl, f6 p _ h' c hp hs k1 ?_ hc k3⟩⟩
      have go : ∀ q : List Nat, (∀ i ∈ q, i < n) → Vals (q.map fun i : Nat => V.int (i : Int)) (q.map fun i => vs.getD i Value.none) := by
        intro q
        induction q with
        | nil => intro _; exact .nil
        | cons i q ih =>
          intro hq
          rw [List.map_cons, List.map_cons]
          have hi := hq i List.mem_cons_self
          obtain ⟨x, hx⟩ := lt_some (show i < vs.length by omega)
          obtain ⟨tx, ex⟩ := hvs i x hx
          refine .cons ?_ (ih fun j hj => hq j (List.mem_cons_of_mem _ hj))
          rw [List.getD_eq_getElem?_getD, hx]
          exact ⟨tx, ex⟩
      exact go p fun i hi => List.mem_range.mp (hp.mem_iff.mp hi)
end
end Internal

set_option Elab.async false
set_option linter.all false
set_option maxRecDepth 100000
set_option maxHeartbeats 4000000
namespace Internal
open PySem PySem.W PySem.Spec PySem.Calls PyProof.Rows
noncomputable def HO.nt : HO → Bool
  | .tbl _ => false
  | _ => true
set_option genInjectivity false in
set_option genSizeOf false in
structure SameT (H H' : Hp) : Prop where
  keep : ∀ b o, H b = some o → o.nt = true → H' b = some o
  tb : ∀ b ps, H b = some (.tbl ps) → ∃ ps', H' b = some (.tbl ps')
theorem SameT.at {H H' : Hp} (e : SameT H H') {a : Addr} {o : HO} (h : H a = some o) (n : autoParam (o.nt = true) Internal.aut2._auto_1) : H' a = some o := e.keep a o h n
theorem Same.t {H H' : Hp} (e : Same H H') : SameT H H' := ⟨fun b o h _ => e b o h, fun b ps h => ⟨ps, e b _ h⟩⟩
theorem SameT.trans {H H1 H2 : Hp} (a : SameT H H1) (b : SameT H1 H2) : SameT H H2 :=
  ⟨fun c o h n => b.keep c o (a.keep c o h n) n, fun c ps h => by obtain ⟨ps', h'⟩ := a.tb c ps h; exact b.tb c ps' h'⟩
theorem SameT.none {H H' : Hp} {l : Addr} (h : H' l = none) (g : SameT H H') : H l = none := by
  cases q : H l with
  | none => rfl
  | some o =>
    cases hn : o.nt with
    | true => rw [g.keep l o q hn] at h; cases h
    | false =>
      cases o with
      | tbl ps => obtain ⟨ps', e⟩ := g.tb l ps q; rw [e] at h; cases h
      | _ => cases hn
noncomputable def CodeE (c : Addr) (qual : Str) : HO := .ext fun h => h.CodeRec (.ref c) qual
noncomputable def LamE (f : Addr) (ob : Value → Obj) : HO := .ext fun h => ∃ ctv, h.get? f = some (ob ctv)
section
variable {P : Program} {w : World} {H : Hp} {h : Heap}
theorem codeE_ok {c : Addr} {qual : Str} (x : h.CodeRec (.ref c) qual) : ObjOk P w H h c (CodeE c qual) := by
  refine ⟨x, ?_, fun h1 h2 y k => ?_⟩
  · obtain ⟨c2, oc, vs, t, e, ho, _⟩ := x
    cases e
    exact ⟨oc, ho⟩
  · obtain ⟨c2, oc, vs, t, e, ho, r⟩ := y
    cases e
    exact ⟨c, oc, vs, t, rfl, k _ ho, r⟩
theorem lamE_ok {f : Addr} {ob : Value → Obj} {ctv : Value} (x : h.get? f = some (ob ctv)) : ObjOk P w H h f (LamE f ob) :=
  ⟨⟨ctv, x⟩, ⟨_, x⟩, fun h1 h2 y k => by obtain ⟨c, e⟩ := y; exact ⟨c, k _ e⟩⟩
end
noncomputable def Tb (H : Hp) (T : Addr) (pos : Pos) (qual : Str) : Prop := ∃ ps : Array Value, H T = some (.tbl ps) ∧ TriplesOk ps.toList ∧ (codeAmong pos ps.toList = none ∨ ∃ c, codeAmong pos ps.toList = some (.ref c) ∧ H c = some (CodeE c qual))
theorem Tb.same {H H' : Hp} {T : Addr} {pos : Pos} {qual : Str} (h : Tb H T pos qual) (e : Same H H') : Tb H' T pos qual := by
  obtain ⟨ps, h1, h2, h3⟩ := h
  refine ⟨ps, e _ _ h1, h2, ?_⟩
  rcases h3 with h3 | ⟨c, h3, h4⟩
  · exact .inl h3
  · exact .inr ⟨c, h3, e _ _ h4⟩
theorem Tb.but {H H' : Hp} {T l : Addr} {pos : Pos} {qual : Str} (h : Tb H T pos qual) (e : LBut l H H') : Tb H' T pos qual := by
  obtain ⟨ps, h1, h2, h3⟩ := h
  obtain ⟨e1, xs, e2⟩ := e
  refine ⟨ps, by rw [e1 _ (ne_of h1 e2 (by intro z; cases z))]; exact h1, h2, ?_⟩
  rcases h3 with h3 | ⟨c, h3, h4⟩
  · exact .inl h3
  · exact .inr ⟨c, h3, by rw [e1 _ (ne_of h4 e2 (by intro z; cases z))]; exact h4⟩
section
variable {X : Cx} {params : Arguments} {body : Expr} {lsc : Scope} {lpos : Pos} {c T : Addr} {clos : List (Str × Addr)}
noncomputable abbrev lamO (X : Cx) (params : Arguments) (body : Expr) (lsc : Scope) (clos : List (Str × Addr)) (c' : Addr) (ctv : Value) : Obj := kla_obj "<lambda>" (X.env.qual ++ "<lambda>") params body lsc clos ((X.mg "__name__").getD .none) c' ctv
noncomputable def tLam (X : Cx) (params : Arguments) (body : Expr) (lsc : Scope) (clos : List (Str × Addr)) (T : Addr) (lpos : Pos) : TE := fun _ H Q => Tb H T lpos (X.env.qual ++ "<lambda>") ∧
  ∀ f c' H', H f = none → SameT H H' → Tb H' T lpos (X.env.qual ++ "<lambda>") → H' f = some (LamE f (lamO X params body lsc clos c')) → H' c' = some (CodeE c' (X.env.qual ++ "<lambda>")) → Q (.ref f) H'
theorem pe_lam (hdef : defaultsOf params X.env = ([], [])) (hcl : closureFor lsc X.env = pure clos) (hcode : X.env.code = .ref c) (C : CodeHd X.base c T) (B : X.base.BuiltinsAt X.mg T) : PE X (.Lambda params body lsc lpos) (tLam X params body lsc clos T lpos) := by
  intro pins s σ H Q I h
  obtain ⟨⟨ps, hP, ht, hc⟩, k⟩ := h
  refine kla_eval hdef ?_
  have hPo : s.heap.get? T = some (tabObj ps) := I.hok T _ hP
  have hg : s.heap.Ns mainGlobals X.mg := I.mod.glob.keeps I.bk
  have Cs := C.keeps I.bk
  have Bs : s.heap.BuiltinsAt X.mg T := by
    obtain ⟨bm, o, b1, b2, b3, b4, b5, b6⟩ := B
    exact ⟨bm, o, b1, b2, b3, b4, I.bk _ _ b5, b6⟩
  have hgT : mainGlobals ≠ T := fun z => by
    obtain ⟨o, es, ep, e, hd, _⟩ := hg
    rw [z, hPo] at e; cases e; cases hd
  rcases hc with hn | ⟨c', hs, hc'⟩
  · refine kla_makeFunction (mg := X.mg) hcl I.ok.glob hg hcode Cs hPo ht hn hgT Bs fun c' ctv h' tk hx hge hlt hrec htb => ?_
    have hTs : T < s.heap.objs.size := Heap.lt_size hPo
    have hTc : T ≠ c' := Nat.ne_of_lt (Nat.lt_of_lt_of_le hTs hge)
    have hTf : T ≠ h'.objs.size := Nat.ne_of_lt (Nat.lt_of_lt_of_le hTs (Nat.le_trans hge (Nat.le_of_lt hlt)))
    have hcf : c' ≠ h'.objs.size := Nat.ne_of_lt hlt
    have old : ∀ b u, H b = some u → b ≠ c' ∧ b ≠ h'.objs.size := fun b u e => by
      have := I.hok.lt e
      exact ⟨Nat.ne_of_lt (Nat.lt_of_lt_of_le this hge), Nat.ne_of_lt (Nat.lt_of_lt_of_le this (Nat.le_trans hge (Nat.le_of_lt hlt)))⟩
    have olds : ∀ b (u : Obj), s.heap.get? b = some u → b ≠ c' ∧ b ≠ h'.objs.size := fun b u e => by
      have := Heap.lt_size e
      exact ⟨Nat.ne_of_lt (Nat.lt_of_lt_of_le this hge), Nat.ne_of_lt (Nat.lt_of_lt_of_le this (Nat.le_trans hge (Nat.le_of_lt hlt)))⟩
    obtain ⟨H', eH⟩ : ∃ H', H' = upd (upd (upd H T (.tbl (ps ++ #[rawInt lpos.line, rawInt lpos.col, .ref c']))) c' (CodeE c' (X.env.qual ++ "<lambda>"))) h'.objs.size (LamE h'.objs.size (lamO X params body lsc clos c')) := ⟨_, rfl⟩
    have aF : H' h'.objs.size = some (LamE h'.objs.size (lamO X params body lsc clos c')) := by rw [eH]; exact upd_same
    have aC : H' c' = some (CodeE c' (X.env.qual ++ "<lambda>")) := by rw [eH, upd_ne hcf]; exact upd_same
    have aT : H' T = some (.tbl (ps ++ #[rawInt lpos.line, rawInt lpos.col, .ref c'])) := by rw [eH, upd_ne hTf, upd_ne hTc]; exact upd_same
    have aO : ∀ b, b ≠ T → b ≠ c' → b ≠ h'.objs.size → H' b = H b := fun b h1 h2 h3 => by rw [eH, upd_ne h3, upd_ne h2, upd_ne h1]
    have kp : ∀ b u, b ≠ T → s.heap.get? b = some u → (h'.push (lamO X params body lsc clos c' ctv)).get? b = some u := fun b u hb e => Heap.get?_push_of_some _ (hx b u hb e)
    have st : SameT H H' := ⟨fun b o e n => by
        have hb : b ≠ T := fun z => by rw [z, hP] at e; cases e; cases n
        rw [aO b hb (old b o e).1 (old b o e).2]; exact e, fun b qs e => by
        by_cases hb : b = T
        · rw [hb]; exact ⟨_, aT⟩
        · rw [aO b hb (old b _ e).1 (old b _ e).2]; exact ⟨_, e⟩⟩
    have un : Un X.fs [] H H' s.heap (h'.push (lamO X params body lsc clos c' ctv)) := by
      have nT : ∀ b, H b = none → b ≠ T := fun b n z => by rw [z, hP] at n; cases n
      have nTu : ∀ b u, H b = some u → u.nt = true → b ≠ T := fun b u e n z => by rw [z, hP] at e; cases e; cases n
      refine ⟨fun b o e n _ _ => kp b o (nT b n) e, fun b o e n _ _ => ⟨o.slots, kp b o (nT b n) e⟩, fun b o e n _ => ?_, fun b o e _ => ?_, fun b xs e => ?_, fun b o u e => ?_, fun b qs e => ?_⟩
      · rw [aO b (nT b n) (olds b o e).1 (olds b o e).2]; exact n
      · by_cases hb : b = T
        · rw [hb]; exact ⟨_, Heap.get?_push_of_some _ htb⟩
        · exact ⟨o, kp b o hb e⟩
      · exact st.keep b _ e rfl
      · exact st.keep b _ e rfl
      · by_cases hb : b = T
        · subst hb
          rw [hP] at e; cases e
          exact ⟨_, aT⟩
        · rw [aO b hb (old b _ e).1 (old b _ e).2]; exact ⟨#[], by rw [e]; simp⟩
    have hok : HOk X.prog X.w H' (h'.push (lamO X params body lsc clos c' ctv)) := fun b o e => by
      by_cases h1 : b = h'.objs.size
      · subst h1; rw [aF] at e; cases e
        exact lamE_ok (ctv := ctv) (Heap.get?_push_size _ rfl)
      · by_cases h2 : b = c'
        · subst h2; rw [aC] at e; cases e
          obtain ⟨c2, oc, vs, t, e2, ho, r⟩ := hrec
          cases e2
          exact codeE_ok ⟨b, oc, vs, t, rfl, Heap.get?_push_of_some _ ho, r⟩
        · by_cases h3 : b = T
          · subst h3; rw [aT] at e; cases e
            exact (Heap.get?_push_of_some _ htb : (h'.push (lamO X params body lsc clos c' ctv)).get? b = some _)
          · rw [aO b h3 h2 h1] at e
            refine (I.hok b o e).stay (fun d u hd q => kp d u (fun z => ?_) q) (fun d q => ?_) fun d xs q => st.keep d _ q rfl
            · rcases hd with hd | hd
              · exact h3 (hd.symm.trans z)
              · rw [z, hP] at hd; cases hd
            · exact st.keep d _ q rfl
    have J : Inv X pins σ H' { s with heap := h'.push (lamO X params body lsc clos c' ctv), toks := tk } := I.un un hok
    refine ⟨.ref h'.objs.size, H', J, rfl, k _ c' H' ?_ st ⟨_, aT, ?_, .inr ⟨c', ?_, aC⟩⟩ aF aC⟩
    · exact I.hok.fresh (Nat.le_trans hge (Nat.le_of_lt hlt))
    · rw [Array.toList_append]; exact TriplesOk_snoc _ _ _ _ ht
    · rw [Array.toList_append]; exact codeAmong_snoc _ ht hn
  · refine kla_makeFunctionHit (mg := X.mg) hcl I.ok.glob hg hcode Cs hPo ht hs Bs fun ctv h' tk hk hsz => ?_
    have fr : H h'.objs.size = none := I.hok.fresh hsz
    have J : Inv X pins σ (upd H h'.objs.size (LamE h'.objs.size (lamO X params body lsc clos c'))) { s with heap := h'.push (lamO X params body lsc clos c' ctv), toks := tk } :=
      I.laid (fun b u q => Heap.get?_push_of_some _ (hk b u q)) hsz (lamE_ok (ctv := ctv) (Heap.get?_push_size _ rfl))
    have sm := Same.new fr (LamE h'.objs.size (lamO X params body lsc clos c'))
    exact ⟨.ref h'.objs.size, _, J, rfl, k _ c' _ fr sm.t (Tb.same ⟨ps, hP, ht, .inr ⟨c', hs, hc'⟩⟩ sm) upd_same (sm _ _ hc')⟩
end
noncomputable def cxLam (P : Program) (w : World) (K : PySem.W.Frag) (mg : Str → Option Value) (base : Heap) (x y qual : Str) (lsc : Scope) (f c' cc : Addr) (A : Around) (outer : List Env) (s : Shared) (H : Hp) : Cx where
  prog := P
  w := w
  K := K
  mg := mg
  base := base
  A := A.deeper (envX qual lsc s.heap.objs.size f (.ref c') [(y, cc)])
  N := [x, y]
  s₀ := s
  H₀ := H
  env := envX qual lsc s.heap.objs.size f (.ref c') [(y, cc)]
  outer := outer
  stack := envX qual lsc s.heap.objs.size f (.ref c') [(y, cc)] :: outer
  ex := []
  calm := true
  fn := fun _ => false
  pn := []
  xe := fun _ _ => False
theorem lam_run {P : Program} {w : World} {K : PySem.W.Frag} {mg : Str → Option Value} {base : Heap} {x y qual : Str} {lsc : Scope} {params : Arguments} {body : Expr} {f c' cc : Addr} {A : Around} {outer : List Env} {s : Shared} {H : Hp} {Q : VK} {tb : TE} {pm ctv u uy : Value} {v vy : V}
    (hd : A.handled = none) (hdp : A.depth < recursionLimit) (e0 : Env0 P w K mg base A outer s H) (ho : s.heap.get? f = some (kla_obj "<lambda>" qual params body lsc [(y, cc)] pm c' ctv)) (hcd : s.heap.CodeRec (.ref c') qual)
    (hsn : lsc.names = [(x, .local), (y, .free)]) (hxy : (y == x) = false) (hk : lsc.kind = .function) (hco : lsc.isCoroutine = false) (hgen : lsc.isGenerator = false)
    (hb : ∀ u, bindArgs (kla_fn "<lambda>" qual params body lsc [(y, cc)] pm (.ref c') ctv) ⟨[u], []⟩ = pure [(x, u)])
    (hcc : s.heap.IsCell cc (some uy)) (hcn : H cc = none) (rv : RelV v u) (ry : RelV vy uy)
    (hbody : PE (cxLam P w K mg base x y qual lsc f c' cc A outer s H) body tb) (hq : tb [some v, some vy] H Q) :
    wpAny (model P w) A (call (.ref f) [u]) (fun r s' => CE outer P w H s Q r s') (fun _ _ => False) s := by
  have lim : s.heap.NoLimit := e0.mod.nolimit.keeps fun b o e => (e0.bs b o e).1
  have hxb : (x == x) = true := beq_self_eq_true x
  refine wpAny_call (codeAny_mono (R := fun r s' => ∃ v', r = .ok (.ret v') ∧ CE outer P w H s Q v' s') ?_ fun r s' hr => ?_)
  · refine kla_callFunE hdp ho rfl hco hgen rfl hcd ?_
    rw [hb]
    refine wpAny_pure (wpAny_newFunctionEnv (fun z hz => ?_) (fun z hz => ?_) (fun h₁ hns hsb => ⟨lim.fresh _ hsb, ?_⟩) hk)
    · rw [hsn] at hz
      rcases List.mem_cons.mp hz with rfl | hz
      · intro q; cases q
      · rw [List.mem_singleton.mp hz]; intro q; cases q
    · rw [List.mem_singleton.mp hz, hsn, List.lookup_cons, hxb]
    · show codeAny _ _ (.expr body (envX qual lsc s.heap.objs.size f (.ref c') [(y, cc)])) _ _
      have hk₁ : ∀ b o, s.heap.get? b = some o → h₁.get? b = some o := fun b o e => hsb.extBut b o (Nat.ne_of_lt (Heap.lt_size e)) (Heap.get?_push_of_some _ e)
      have lk : ∀ z d, ([(y, cc)] : List (Str × Addr)).lookup z = some d → z = y ∧ d = cc := fun z d e => by
        rw [List.lookup_cons] at e
        cases hz : z == y with
        | true => rw [hz] at e; cases e; exact ⟨eq_of_beq hz, rfl⟩
        | false => rw [hz] at e; cases e
      have kx : lsc.names.lookup x = some .local := by rw [hsn, List.lookup_cons, hxb]
      have ky : lsc.names.lookup y = some .free := by rw [hsn, List.lookup_cons, hxy, List.lookup_cons, beq_self_eq_true]
      have noA : ∀ b : Addr, b ∉ (cxLam P w K mg base x y qual lsc f c' cc A outer s H).ex := fun b z => absurd (show b ∈ ([] : List Addr) from z) (by simp)
      have I : Inv (cxLam P w K mg base x y qual lsc f c' cc A outer s H) [] [some v, some vy] H { s with heap := h₁, toks := s.toks + [(x, u)].length } := by
        refine ⟨⟨e0.mod, hk, rfl, rfl, Nat.le_refl _, fun a b d h1 h2 => ?_, fun z hz => ?_, fun z d h => ?_, fun _ => hd, Around.frames_deeper e0.frames, .inr ⟨rfl, rfl⟩, fun b z => absurd z (noA b), e0.bs, e0.bsz, fun b _ _ => noA b, fun b z => absurd z (noA b), e0.funs, e0.frf⟩,
          rfl, e0.bare, Un.kept hk₁, ⟨_, hns, fun i z vz h1 h2 h3 => ?_⟩, fun z d h => ?_, e0.hok.fresh (Nat.le_refl _), fun z d h => ?_, fun p hp => absurd (show p ∈ ([] : List (Addr × Obj)) from hp) (by simp), e0.hok.kept hk₁, rfl⟩
        · exact (lk a d h1).1.trans (lk b d h2).1.symm
        · have hz' : lsc.names.lookup z = some .cell ∨ lsc.names.lookup z = some .free := hz
          rw [hsn, List.lookup_cons, List.lookup_cons] at hz'
          cases h1 : z == x with
          | true => rw [h1] at hz'; rcases hz' with q | q <;> cases q
          | false =>
            rw [h1] at hz'
            cases h2 : z == y with
            | true => exact ⟨cc, by show ([(y, cc)] : List (Str × Addr)).lookup z = some cc; rw [List.lookup_cons, h2]⟩
            | false => rw [h2] at hz'; rcases hz' with q | q <;> cases q
        · exact absurd (show false = true from h) Bool.false_ne_true
        · match i, h1, h2 with
          | 0, h1, h2 =>
            cases (show some x = some z from h1)
            cases (show some (some v) = some (some vz) from h2)
            exact ⟨u, rv, .inl ⟨kx, by show [(x, u)].reverse.lookup x = some u; rw [show [(x, u)].reverse = [(x, u)] from rfl, List.lookup_cons, hxb]⟩⟩
          | 1, h1, h2 =>
            cases (show some y = some z from h1)
            cases (show some (some vy) = some (some vz) from h2)
            obtain ⟨oc, hoc, hdc⟩ := hcc
            exact ⟨uy, ry, .inr ⟨.inr ky, cc, by show ([(y, cc)] : List (Str × Addr)).lookup y = some cc; rw [List.lookup_cons, beq_self_eq_true], ⟨oc, hk₁ _ _ hoc, hdc⟩⟩⟩
          | n + 2, h1, h2 => exact absurd (show (none : Option (Option V)) = some (some vz) from h2) (by simp)
        · obtain ⟨oc, hoc, hdc⟩ := hcc
          rw [(lk z d h).2]
          exact ⟨_, oc, hk₁ _ _ hoc, hdc⟩
        · rw [(lk z d h).2]; exact hcn
      refine kla_codeExpr (wpAny_mono (hbody [] _ [some v, some vy] H Q I hq) (fun r s' hr => ?_) fun _ _ z => z.elim)
      obtain ⟨v', H', J, r', q⟩ := hr
      exact ⟨r, rfl, v', H', J.os, J.bare, J.base, J.hok, r', q⟩
  · obtain ⟨v', rfl, hr⟩ := hr
    exact hr
theorem clos_of {lsc : Scope} {env : Env} {x y : Str} {cc : Addr} (hn : lsc.names = [(x, .local), (y, .free)]) (hc : env.cells.lookup y = some cc) : closureFor lsc env = pure [(y, cc)] := by
  unfold closureFor cellOf
  rw [hn]
  simp [hc]
theorem kf_iff {g : Nat → Int} {i j : Nat} (hi : i < 64) (hj : j < 64) : decide (g i * 64 + (i : Int) < g j * 64 + (j : Int)) = if g i = g j then decide ((i : Int) < (j : Int)) else decide (g i < g j) := by
  by_cases e : g i = g j
  · rw [if_pos e, e]
    exact decide_eq_decide.mpr (by omega)
  · rw [if_neg e]
    exact decide_eq_decide.mpr (by omega)
end Internal

set_option Elab.async false
set_option linter.all false
set_option maxRecDepth 100000
set_option maxHeartbeats 4000000
namespace Internal
open PySem PySem.W PySem.Spec PySem.Calls PyProof.Rows
noncomputable def Tup2 (h : Heap) (v : Value) (x y : Int) : Prop := ∃ (a : Addr) (ob : Obj) (t u : Tok) (n : Nat), v = .ref a ∧ h.get? a = some ob ∧ ob.cls = .type "tuple" ∧ ob.data = .seq #[.int x t, .int y u] n
theorem tups_of {h : Heap} : ∀ (ks : List Value), (∀ (i : Nat) (v : Value), ks[i]? = some v → ∃ x y, Tup2 h v x y) → ∃ fs, KatTups h ks fs ∧ (∀ v ∈ fs, ∃ i t, v = Value.int i t) ∧ fs.length = ks.length
  | [], _ => ⟨[], .nil, (fun _ z => nomatch z), rfl⟩
  | v :: ks, hk => by
    obtain ⟨x, y, a, ob, t, u, n, rfl, h1, h2, h3⟩ := hk 0 v rfl
    obtain ⟨fs, f1, f2, f3⟩ := tups_of ks fun i v e => hk (i + 1) v e
    refine ⟨.int x t :: fs, .cons h1 h2 h3 rfl f1, fun v hv => ?_, by rw [List.length_cons, List.length_cons, f3]⟩
    rcases List.mem_cons.mp hv with rfl | hv
    · exact ⟨_, _, rfl⟩
    · exact f2 v hv
theorem ask_of {prog : Program} {w : World} {A : Around} {s : Shared} {v v' : Value} {x x' : Int} {i j : Nat} {C : Bool → Shared → Prop} (h1 : Tup2 s.heap v x i) (h2 : Tup2 s.heap v' x' j)
    (h : C (if x = x' then decide ((i : Int) < (j : Int)) else decide (x < x')) s) : wpAny (model prog w) A (keyLt' (tuples' true) v v') C (fun _ _ => False) s := by
  obtain ⟨a, ob, t, u, n, rfl, a1, a2, a3⟩ := h1
  obtain ⟨b, oc, t', u', n', rfl, b1, b2, b3⟩ := h2
  refine kat_lt a1 a3 b1 b3 ?_
  show KatLex prog w A true (decide (2 < 2)) C [(.int x t, .int x' t'), (.int i u, .int j u')] 0 s
  refine kat_cons (wpAny_eqBool_int ?_)
  by_cases e : x = x'
  · rw [if_pos e] at h
    rw [show (x == x') = true from beq_iff_eq.mpr e]
    refine kat_yes (kat_cons (wpAny_eqBool_int ?_))
    by_cases e2 : (i : Int) = (j : Int)
    · rw [show ((i : Int) == (j : Int)) = true from beq_iff_eq.mpr e2]
      refine kat_yes (kat_nil ?_)
      have : decide ((i : Int) < (j : Int)) = decide (2 < 2) := decide_eq_decide.mpr (by omega)
      rw [this] at h
      exact h
    · rw [show ((i : Int) == (j : Int)) = false from beq_eq_false_iff_ne.mpr e2]
      refine kat_no ?_
      show wpAny _ _ (oneLt' false _ _) _ _ _
      exact kat_one _ _ (PyProof.Rows.lt_int h)
  · rw [if_neg e] at h
    rw [show (x == x') = false from beq_eq_false_iff_ne.mpr e]
    refine kat_no ?_
    show wpAny _ _ (oneLt' true _ _) _ _ _
    exact oneLt_int h
noncomputable def tSK (ta : TA) (tb : TE) (j : Nat) (T : Addr) (lpos : Pos) (q : Str) : TE := fun σ H Q => ta σ H fun vs H1 => Tb H1 T lpos q ∧ ∃ (r : Addr) (n : Nat) (u : V) (g : Nat → Int), vs = [.ref r] ∧ H1 r = some (.rng 0 (n : Int)) ∧ 1 ≤ n ∧ n < 64 ∧ σ[j]? = some (some u) ∧
  (∀ (i : Nat) H2, i < n → SameT H1 H2 → tb [some (.int (i : Int)), some u] H2 (fun v H3 => ∃ t, v = .ref t ∧ Same H2 H3 ∧ H3 t = some (.tup [.int (g i), .int (i : Int)]))) ∧
  ∀ l (p : List Nat) H3, H1 l = none → SameT H1 H3 → Tb H3 T lpos q → p.Perm (List.range n) → (∀ a b, a ≤ b → b < n → g (p.getD a 0) * 64 + (p.getD a 0 : Int) ≤ g (p.getD b 0) * 64 + (p.getD b 0 : Int)) → H3 l = some (.lst (p.map fun i : Nat => V.int (i : Int))) → Q (.ref l) H3
theorem pe_sortedK {X : Cx} {p pos kp lpos : Pos} {e : Expr} {ta : TA} {tb : TE} {params : Arguments} {body : Expr} {lsc : Scope} {x y : Str} {c T : Addr} {j k : Nat} (hg : Gl X "sorted") (hm : X.mg "sorted" = none) (hv : bootBuiltins "sorted" = some (.builtin "sorted")) (ha : PA X [e] ta)
    (hcode : X.env.code = .ref c) (C : CodeHd X.base c T) (B : X.base.BuiltinsAt X.mg T) (hN : X.N[j]? = some y) (hy : X.env.kindOf y = some .cell) (hr : Room (k + 1) X.A)
    (hbody : ∀ f c' cc A s H, PE (cxLam X.prog X.w X.K X.mg X.base x y (X.env.qual ++ "<lambda>") lsc f c' cc A X.stack s H) body tb)
    (hdef : autoParam (defaultsOf params X.env = ([], [])) Internal.aut2._auto_1) (hsn : autoParam (lsc.names = [(x, .local), (y, .free)]) Internal.aut2._auto_1) (hxy : autoParam ((y == x) = false) Internal.aut1._auto_1) (hk : autoParam (lsc.kind = .function) Internal.aut2._auto_1) (hco : autoParam (lsc.isCoroutine = false) Internal.aut2._auto_1) (hgen : autoParam (lsc.isGenerator = false) Internal.aut2._auto_1)
    (hb : autoParam (∀ cc pm c' ctv u, bindArgs (kla_fn "<lambda>" (X.env.qual ++ "<lambda>") params body lsc [(y, cc)] pm (.ref c') ctv) ⟨[u], []⟩ = pure [(x, u)]) Internal.aut6._auto_1)
    (he : autoParam (backTo pos (starEach [e] X.env) = (false, eval e X.env) :: backTo pos (starEach [] X.env)) Internal.aut2._auto_1)
    (hplain : autoParam ((backTo pos (starEach [e] X.env)).any (·.1) = false) Internal.aut2._auto_1) : PE X (.Call (.Name "sorted" p) [e] [⟨some "key", .Lambda params body lsc lpos, kp⟩] pos) (tSK ta tb j T lpos (X.env.qual ++ "<lambda>")) := by
  intro pins s σ H Q I h
  refine wpAny_Call_Name_kw (ld_blt I hg hm hv ?_ (by decide) (by decide))
  refine PyProof.Rows.callWith_kw ?_ he hplain
  refine thn (ha pos pins s σ H _ I h) fun us s1 zz => ?_
  obtain ⟨vs, H1, I1, rv, hT, r, n, u, g, rfl, hr1, n1, n64, hu, hkey, kk⟩ := zz
  obtain ⟨u1, rfl, r1⟩ := vals1 rv
  cases r1
  obtain ⟨cc, hcc⟩ := I1.ok.has y (.inl hy)
  have cellY : ∀ {H' : Hp} {s' : Shared}, Inv X pins σ H' s' → ∃ u', RelV u u' ∧ s'.heap.IsCell cc (some u') := fun {H' s'} I' => by
    obtain ⟨m, hn, hl⟩ := I'.loc
    obtain ⟨u', ru, l⟩ := hl j y u hN hu (.inr (.inl hy))
    rcases l with ⟨hk', _⟩ | ⟨_, c2, hc2, hcell⟩
    · rw [hy] at hk'; cases hk'
    · rw [hcc] at hc2; cases hc2
      exact ⟨u', ru, hcell⟩
  refine thn (pk_cons (t := tNil) (nm := some "key") (kpos := kp) (pe_lam (lpos := lpos) (params := params) (body := body) hdef (clos_of hsn hcc) hcode C B) pk_nil pos pins s1 σ H1 (fun ws H2 => ∃ f c', ws = [.ref f] ∧ H1 f = none ∧ SameT H1 H2 ∧ Tb H2 T lpos (X.env.qual ++ "<lambda>") ∧ H2 f = some (LamE f (lamO X params body lsc [(y, cc)] c')) ∧ H2 c' = some (CodeE c' (X.env.qual ++ "<lambda>"))) I1 ⟨hT, fun f c' H' h1 h2 h3 h4 h5 => ⟨f, c', rfl, h1, h2, h3, h4, h5⟩⟩) fun kvs s2 zz => ?_
  obtain ⟨ws, H2, I2, rw2, f, c', rfl, hf0, st, hT2, hF, hC⟩ := zz
  obtain ⟨u2, rfl, r3⟩ := vals1 rw2
  cases r3
  obtain ⟨tr, ur, vr, er⟩ := I2.hok r _ (st.at hr1)
  show wpAny (model X.prog X.w) X.A (call (.builtin "sorted") [.ref r] [(Str.ofString "key", .ref f)]) (EP X pins σ Q) X.xe s2
  have hd := hr.hd
  have hdp : X.A.in1.in1.depth < recursionLimit := by have := hr.dp; show X.A.depth < _; omega
  have nf : ∀ b, s2.heap.objs.size ≤ b → b ∉ frs X.stack := fun b hb z => by
    rcases List.mem_cons.mp (I2.stkSub b z) with q | q
    · exact absurd (show b < s2.heap.objs.size from q ▸ I2.lt) (Nat.not_lt.mpr hb)
    · exact I2.nofs hb q
  have ncell : ∀ b, s2.heap.objs.size ≤ b → ∀ z d, X.env.cells.lookup z = some d → d ≠ b := fun b hb z d hz q => by
    obtain ⟨v, o, ho, _⟩ := I2.cell z d hz
    exact absurd (Heap.lt_size ho) (Nat.not_lt.mpr (q ▸ hb))
  have npin : ∀ b, s2.heap.objs.size ≤ b → ∀ q ∈ X.pn ++ pins, q.1 ≠ b := fun b hb q hq z => by
    exact absurd (Heap.lt_size (I2.pin q hq).1) (Nat.not_lt.mpr (z ▸ hb))
  refine srt_call (kf := fun i => g i * 64 + (i : Int)) (fun D kS e1 ks s' => ∃ H' : Hp, Inv X pins σ H' s' ∧ Same H2 H' ∧ s2.heap.objs.size < D ∧ (D : Nat) < (kS : Nat) ∧ (∃ e, s'.heap.get? kS = some (seqObj "list" (List.toArray ks) e)) ∧ s'.heap.get? D = some (seqObj "list" #[] e1) ∧ H' kS = none ∧ H' D = none ∧
      ∀ (i : Nat) (v : Value), ks[i]? = some v → ∃ a, v = .ref a ∧ H' a = some (.tup [.int (g i), .int (i : Int)])) hd er n1 n64 (fun h' tk D kS e1 hk1 hD hDk hoD hoK => ?_) (fun D kS e1 ks tk s' hlt hJ => ?_) fun D kS e1 ks s' hl hJ => ?_
  · exact ⟨H2, I2.kept hk1, Same.refl _, hD, hDk, ⟨0, hoK⟩, hoD, I2.hok.fresh (by omega), I2.hok.fresh (by omega), fun i v z => by simp at z⟩
  · obtain ⟨H', I', sm, d1, d2, ⟨e0, hkS⟩, hoD, nk, nd, hks⟩ := hJ
    have d3 : s2.heap.objs.size < kS := Nat.lt_trans d1 d2
    obtain ⟨⟨ctv, hfo⟩, _⟩ := I'.hok f _ (sm _ _ hF)
    obtain ⟨hcd, _⟩ := I'.hok c' _ (sm _ _ hC)
    obtain ⟨uy, ry, hcell⟩ := cellY I'
    refine wpAny_mono (lam_run (A := X.A.in1.in1) (v := .int (ks.length : Int)) hd hdp I'.env0.in1.in1 hfo hcd hsn hxy hk hco hgen (fun u => hb cc _ c' ctv u) hcell (I'.freeC y cc hcc) ⟨tk, rfl⟩ ry (hbody f c' cc _ _ _) (hkey ks.length H' hlt (st.trans sm.t))) (fun kv s'' hce => ?_) fun _ _ z => z
    obtain ⟨v', H'', os, bare, un, hok, rv', t, rfl, sm2, ht⟩ := hce
    cases rv'
    have kK := un.keep kS _ hkS nk (nf kS (by omega)) (by simp)
    have kD := un.keep D _ hoD nd (nf D (by omega)) (by simp)
    have fK := un.free kS _ hkS nk (by simp)
    have fD := un.free D _ hoD nd (by simp)
    obtain ⟨hh, gg, dd, tt, os'⟩ := s''
    obtain rfl : os' = s'.os := os
    have J1 : Inv X pins σ H'' ⟨hh, gg, dd, tt, s'.os⟩ := I'.call (h' := hh) (g' := gg) (d' := dd) (t' := tt) (ch := []) un hok bare (fun b z => absurd z (by simp))
    refine ⟨⟨e0, kK⟩, fun h' cN sb hcN => ⟨H'', ?_, sm.trans sm2, d1, d2, ⟨cN, hcN⟩, (sb.2 D (Nat.ne_of_lt d2)).trans kD, fK, fD, fun i v hv => ?_⟩⟩
    · exact J1.turned (t' := tt) (fun b o hb q => (sb.2 b hb).trans q) fK (fun z => absurd (show kS < s2.heap.objs.size from z ▸ I2.lt) (Nat.not_lt.mpr (by omega))) (.inr (Nat.le_trans I2.sz (by omega))) (ncell kS (by omega)) (npin kS (by omega))
    · rw [List.getElem?_append] at hv
      split at hv
      · obtain ⟨a, e1, e2⟩ := hks i v hv
        exact ⟨a, e1, sm2 _ _ e2⟩
      · rename_i hi
        have e0' : i - ks.length = 0 := by
          cases e : i - ks.length with
          | zero => rfl
          | succ m => rw [e] at hv; cases hv
        rw [e0'] at hv; cases hv
        obtain rfl : i = ks.length := by omega
        exact ⟨t, rfl, ht⟩
  · obtain ⟨H', I', sm, d1, d2, ⟨e0, hkS⟩, hoD, nk, nd, hks⟩ := hJ
    have d3 : s2.heap.objs.size < kS := Nat.lt_trans d1 d2
    have tup : ∀ (i : Nat) (v : Value), ks[i]? = some v → Tup2 s'.heap v (g i) (i : Int) := fun i v hv => by
      obtain ⟨a, rfl, ha⟩ := hks i v hv
      obtain ⟨_, its, rI, ob, ho, hc, m, hd'⟩ := I'.hok a _ ha
      obtain ⟨w1, w2, e1, ⟨t1, rfl⟩, ⟨t2, rfl⟩⟩ := vals2 rI
      subst e1
      exact ⟨a, ob, t1, t2, m, rfl, ho, hc, hd'⟩
    refine ⟨⟨e0, hkS⟩, hoD, Nat.ne_of_gt d2, tups_of ks fun i v hv => ⟨_, _, tup i v hv⟩, fun i j' Cc hi hj hc => ?_, fun q out h' cN hq hs kp hvo hD' hK' => ?_⟩
    · obtain ⟨v1, e1⟩ := lt_some (show i < ks.length by omega)
      obtain ⟨v2, e2⟩ := lt_some (show j' < ks.length by omega)
      rw [List.getD_eq_getElem?_getD, e1, List.getD_eq_getElem?_getD, e2]
      refine ask_of (tup i v1 e1) (tup j' v2 e2) ?_
      rw [← kf_iff (by omega) (by omega)]
      exact hc
    · have hql : q.length = n := by have := hq.length_eq; rwa [List.length_range] at this
      have nTr : ∀ b o, H' b = some o → b ≠ kS ∧ b ≠ D := fun b o e => ⟨ne_of_none e nk, ne_of_none e nd⟩
      have oT : ∀ b o, H' b = some o → upd H' D (.lst (q.map fun i : Nat => V.int (i : Int))) b = some o := fun b o e => by rw [upd_ne (nTr b o e).2]; exact e
      have J2 : Inv X pins σ (upd H' D (.lst (q.map fun i : Nat => V.int (i : Int)))) { s' with heap := h' } := by
        refine I'.step (g' := s'.gens) (d' := s'.drawn) (t' := s'.toks) (ch := [kS, D]) (fun b hb => ?_) (fun b o _ _ hc e _ => ?_) (fun b o _ _ hc e _ => ⟨o.slots, ?_⟩) (fun b o hc _ nb => ?_) (fun b o hc e => ⟨o, ?_⟩) (fun b xs e => oT b _ e) (fun b o u e => oT b _ e) (fun b ps e => ⟨#[], by rw [oT b _ e]; simp⟩) (fun m hm => ?_) (fun b o e => ?_) I'.bare
        · have hb' : b = kS ∨ b = D := by simpa using hb
          have hb2 : s2.heap.objs.size ≤ b := by
            rcases hb' with z | z
            · rw [z]; omega
            · rw [z]; omega
          exact ⟨.inr (Nat.le_trans I2.sz hb2), (fun z => absurd (show b < s2.heap.objs.size from z ▸ I2.lt) (Nat.not_lt.mpr hb2)), ncell b hb2, npin b hb2⟩
        · exact kp b o (fun z => hc (by simp [z])) (fun z => hc (by simp [z])) e
        · exact kp b o (fun z => hc (by simp [z])) (fun z => hc (by simp [z])) e
        · rw [upd_ne (fun z => hc (by simp [z]))]; exact nb
        · exact kp b o (fun z => hc (by simp [z])) (fun z => hc (by simp [z])) e
        · obtain ⟨o, es, ep, ho, rr⟩ := hm
          have hL : X.env.locals < s2.heap.objs.size := I2.lt
          exact ⟨o, es, ep, kp _ o (Nat.ne_of_lt (Nat.lt_trans hL (by omega))) (Nat.ne_of_lt (Nat.lt_trans hL (by omega))) ho, rr⟩
        · by_cases hb : b = D
          · subst hb
            rw [upd_same] at e; cases e
            exact ⟨by rw [List.length_map]; exact small_le (by omega), out, cN, hvo, hD'⟩
          · rw [upd_ne hb] at e
            refine (I'.hok b o e).stay (fun d u' hd' q' => kp d u' ?_ ?_ q') (fun d q' => oT d _ q') fun d xs q' => oT d _ q'
            · rcases hd' with z | z
              · rw [z]; exact (nTr b o e).1
              · exact (nTr d _ z).1
            · rcases hd' with z | z
              · rw [z]; exact (nTr b o e).2
              · exact (nTr d _ z).2
      have sm3 : Same H' (upd H' D (.lst (q.map fun i : Nat => V.int (i : Int)))) := fun b o e => oT b o e
      exact ⟨.ref D, _, J2, rfl, kk D q _ (st.none (sm.none nd)) (st.trans (sm.trans sm3).t) ((hT2.same sm).same sm3) hq hs upd_same⟩
end Internal

set_option Elab.async false
set_option linter.all false
set_option maxRecDepth 100000
set_option maxHeartbeats 4000000
namespace Internal
open PySem PySem.W PySem.Spec PySem.Calls PyProof.Rows
theorem law_callT {P : Program} {w : World} {K : PySem.W.Frag} {mg mb : Str → Option Value} {CX : CXT} {k : Nat} {fa a c T : Addr} {fd : FuncData} {x : Str} {sp : Sp} {s₁ : Shared} {vs : List Value} {ns : List Int}
    (KX : K.In s₁.heap) (hns : s₁.heap.Ns mainGlobals mg) (hb : s₁.heap.Ns builtinsNs mb) (hbb : ∀ x : Str, x ≠ "__name__" → mb x = bootBuiltins x) (hlim : s₁.heap.NoLimit) (hg : s₁.gens = #[])
    (ha : s₁.heap.get? a = some { cls := .type "list", data := .seq vs.toArray }) (hi : IntsAre vs ns) (hl : ns.length ≤ sizeLine) (hr : Room k callerA)
    (hC : CodeHd s₁.heap c T) (hT : s₁.heap.get? T = some (tabObj #[])) (hKT : K.lookup T = none) (hB : s₁.heap.BuiltinsAt mg T)
    (F : ∀ base : Heap, K.In base → base.Ns mainGlobals mg → CodeHd base c T → base.BuiltinsAt mg T → FnOk P w K mg base CX k fa fd [x] sp) (hbind : ∀ (s : Shared) (u : Value), BindsTo s fd ⟨[u], []⟩ [(x, u)])
    (hsp : ∀ H : Hp, SqL K H a (ns.map V.int) → H T = some (.tbl #[]) → sp [.ref a] H (fun v _ => v = .bl true) fun _ _ _ => False)
    (hCX : ∀ H e s', CX [] H s₁ (fun _ _ _ => False) e s' → False) :
    codeAny (model P w) callerA (.call (.ref fa) ⟨[.ref a], []⟩) (fun r s' => r = .ok (.ret (.bool true)) ∧ OldK s₁.heap s'.heap ∧ s'.os = s₁.os ∧ AllBare s'.gens) s₁ := by
  have rv := vals_ints hi
  have lenV := hi.length
  have neTa : T ≠ a := fun z => by rw [z, ha] at hT; cases hT
  have core : ∀ Hs : Hp, Only Hs → SqL K Hs a (ns.map V.int) → HOk P w Hs s₁.heap → (∀ b, Hs b ≠ none → b = a) → (Hs a ≠ none → K.lookup a = none) →
      codeAny (model P w) callerA (.call (.ref fa) ⟨[.ref a], []⟩) (fun r s' => r = .ok (.ret (.bool true)) ∧ OldK s₁.heap s'.heap ∧ s'.os = s₁.os ∧ AllBare s'.gens) s₁ := by
    intro Hs hO hS hoks hA hK
    have hsT : Hs T = none := by
      cases q : Hs T with
      | none => rfl
      | some u => exact absurd (hA T (by rw [q]; simp)) neTa
    obtain ⟨H, eH⟩ : ∃ H, H = upd Hs T (.tbl #[]) := ⟨_, rfl⟩
    have aT : H T = some (.tbl #[]) := by rw [eH]; exact upd_same
    have aO : ∀ b, b ≠ T → H b = Hs b := fun b h => by rw [eH, upd_ne h]
    have hok : HOk P w H s₁.heap := fun b o e => by
      by_cases h : b = T
      · subst h; rw [aT] at e; cases e
        exact hT
      · rw [aO b h] at e
        exact (hoks b o e).stay (fun d u _ q => q) (fun d q => by rw [aO d (ne_of_none q hsT)]; exact q) fun d xs q => by rw [aO d (ne_of_none q hsT)]; exact q
    have hSH : SqL K H a (ns.map V.int) := by
      rcases hS with (h | ⟨o, h⟩) | h
      · exact .inl (.inl (by rw [aO a neTa.symm]; exact h))
      · exact .inl (.inr ⟨o, by rw [aO a neTa.symm]; exact h⟩)
      · exact .inr h
    have base_of : ∀ {b : Addr} {o : Obj}, s₁.heap.get? b = some o → H b = none → (hidT s₁.heap H).get? b = some o := fun e n => hidT_get e n
    have noH : ∀ {b : Addr} {o : Obj}, s₁.heap.get? b = some o → o.cls ≠ .none → o.cls ≠ .type "list" → H b = none := fun {b o} e d1 d2 => by
      have hbT : b ≠ T := fun z => by rw [z, hT] at e; cases e; exact d1 rfl
      rw [aO b hbT]
      cases q : Hs b with
      | none => rfl
      | some u =>
        have e' : b = a := hA b (by rw [q]; simp)
        subst e'
        rw [ha] at e; cases e
        exact absurd rfl d2
    have noA : ∀ {b : Addr} {o : Obj} {es : Array DictEntry} {ep : Nat}, s₁.heap.get? b = some o → o.data = .dict es ep → H b = none := fun {b o es ep} e d => by
      have hbT : b ≠ T := fun z => by rw [z, hT] at e; cases e; cases d
      rw [aO b hbT]
      cases q : Hs b with
      | none => rfl
      | some u =>
        have e' : b = a := hA b (by rw [q]; simp)
        subst e'
        rw [ha] at e; cases e
        cases d
    have nsK : ∀ {b : Addr} {m : Str → Option Value}, s₁.heap.Ns b m → (hidT s₁.heap H).Ns b m := fun {b m} ⟨o, es, ep, e, d, r⟩ => ⟨o, es, ep, base_of e (noA e d), d, r⟩
    have hKb : K.In (hidT s₁.heap H) := fun b o e => base_of (KX b o e) (by
      have hbT : b ≠ T := fun z => by rw [z, hKT] at e; cases e
      rw [aO b hbT]
      cases q : Hs b with
      | none => rfl
      | some u =>
        have e' : b = a := hA b (by rw [q]; simp)
        subst e'
        rw [hK (by rw [q]; simp)] at e; cases e)
    have hM : Mod K mg (hidT s₁.heap H) := ⟨hKb, nsK hns, ⟨mb, nsK hb, hbb⟩, let ⟨mc, h1, h2⟩ := hlim; ⟨mc, nsK h1, h2⟩⟩
    have hCb : CodeHd (hidT s₁.heap H) c T := by
      obtain ⟨o, us, file, tf, flags, tg, inF, text, tt, e1, e2, r⟩ := hC
      exact ⟨o, us, file, tf, flags, tg, inF, text, tt, base_of e1 (noH e1 (by rw [e2]; decide) (by rw [e2]; decide)), e2, r⟩
    have hBb : (hidT s₁.heap H).BuiltinsAt mg T := by
      obtain ⟨bm, o, b1, b2, b3, b4, b5, b6, r⟩ := hB
      exact ⟨bm, o, b1, b2, b3, b4, base_of b5 (noH b5 (by rw [b6]; decide) (by rw [b6]; decide)), b6, r⟩
    have e0 : Env0 P w K mg (hidT s₁.heap H) callerA [] s₁ H := ⟨rfl, hM, fun b o e => of_hidT e, Nat.le_of_eq (hidT_size _ _), trivial, fun b hb => absurd (show b ∈ ([] : List Addr) from hb) (by simp), hok, .of_eq hg⟩
    refine codeAny_mono ((F _ hKb (nsK hns) hCb hBb).run callerA [] s₁ H ⟨[.ref a], []⟩ [.ref a] [.ref a] _ _ hr e0 (hbind s₁ (.ref a)) (.cons rfl .nil) (hsp H hSH aT)) fun r s' h => ?_
    cases r with
    | error e => exact (hCX H e s' h).elim
    | ok fl =>
      cases fl with
      | next => exact False.elim h
      | brk => exact False.elim h
      | cont => exact False.elim h
      | ret u =>
        obtain ⟨v, H', os, bare, un, hok', r', q⟩ := h
        have q' : v = .bl true := q
        subst q'
        obtain rfl : u = Value.bool true := r'
        have hgrown : ∃ more, s'.heap.get? T = some (tabObj more) := by
          obtain ⟨more, e⟩ := un.tbls T #[] aT
          exact ⟨_, hok' T _ e⟩
        have keep : ∀ b o, b ≠ T → s₁.heap.get? b = some o → s'.heap.get? b = some o := fun b o hbT e => by
          cases q : Hs b with
          | none => exact un.keep b o e (by rw [aO b hbT]; exact q) (by intro z; exact absurd (show b ∈ ([] : List Addr) from z) (by simp)) (by simp)
          | some u =>
            rcases hO b with z | ⟨ob, xs, z⟩
            · rw [q] at z; cases z
            · have z1 : H b = some (.frz ob (.lst xs)) := by rw [aO b hbT]; exact z
              have z2 := un.frzs b ob _ z1
              obtain ⟨e1, _⟩ := hok b _ z1
              obtain ⟨e2, _⟩ := hok' b _ z2
              rw [e] at e1; cases e1
              exact e2
        refine ⟨rfl, ⟨fun b o e => ?_, fun b o e => ?_⟩, os, bare⟩
        · by_cases hbT : b = T
          · subst hbT
            rw [hT] at e; cases e
            obtain ⟨more, hm⟩ := hgrown
            exact .inr (.inl ⟨(hC.tab hT).isCodeTable, rfl, #[], more, rfl, by rw [Array.empty_append]; exact hm⟩)
          · exact .inl (keep b o hbT e)
        · by_cases hbT : b = T
          · subst hbT
            obtain ⟨more, hm⟩ := hgrown
            exact ⟨_, hm⟩
          · exact ⟨o, keep b o hbT e⟩
  cases hk : K.lookup a with
  | some o =>
    have e := KX a o hk
    rw [ha] at e
    cases e
    refine core (fun _ => none) (fun _ => .inl rfl) (.inr ⟨_, vs.toArray, _, hk, rfl, rfl, rfl, by rw [List.size_toArray, lenV]; exact hl, by simpa using rv⟩) (fun b u z => by have z' : (none : Option HO) = some u := z; cases z') (fun b z => absurd rfl z) fun z => absurd rfl z
  | none =>
    refine core (fun b => if b = a then some (.frz { cls := .type "list", data := .seq vs.toArray } (.lst (ns.map V.int))) else none) (fun b => ?_) (.inl (.inr ⟨{ cls := .type "list", data := .seq vs.toArray }, if_pos rfl⟩)) (fun b u z => ?_) (fun b z => ?_) fun _ => hk
    · by_cases hb : b = a
      · exact .inr ⟨_, _, if_pos hb⟩
      · exact .inl (if_neg hb)
    · by_cases hb : b = a
      · have z' := (if_pos hb).symm.trans z
        cases z'
        subst hb
        exact ⟨ha, by rw [List.length_map]; exact hl, vs, _, rv, ha⟩
      · have z' := (if_neg hb).symm.trans z
        cases z'
    · by_cases hb : b = a
      · exact hb
      · exact absurd (if_neg hb) z
noncomputable def tabP (K : PySem.W.Frag) (x : Str) : Addr := match tabIn K x with
  | some q => q.2
  | none => 0
class TabX (K : PySem.W.Frag) (mg : Str → Option Value) (base : Heap) (x : outParam Str) : Prop where
  ex : ∀ c T, tabIn K x = some (c, T) → CodeHd base c T ∧ base.BuiltinsAt mg T
theorem lookup_noTabs {K : PySem.W.Frag} {h : Heap} {T : Addr} (hK : noTabs K = true) (X : K.In h) (hT : h.get? T = some (tabObj #[])) : K.lookup T = none := by
  cases q : K.lookup T with
  | none => rfl
  | some o =>
    have e := X T o q
    rw [hT] at e
    cases e
    have h2 := List.all_eq_true.mp hK (T, tabObj #[]) (mem_of_lookupK q)
    exact absurd (show false = true from h2) Bool.false_ne_true
theorem walk_ofT {l : PySem.W.OpenLaw} {n k : Nat} {q : Program} {loose : List Str} {XP : (Str → Option Value) → Heap → Prop} {YP : World → Heap → Prop} {d d' : DefRec} {K : Params → PySem.W.Frag} {CX : World → CXT} {sp : World → Sp} {x y : Str}
    (hn : l.most = some n) (hn2 : n ≤ sizeLine) (hdf : d.params.defaults = []) (hr : Room k callerA)
    (hY : ∀ (w : World) (h : Heap), YP w h → (K w.params).In h)
    (hrec : (recsOf q).find? (fun e => e.name == y) = some d') (hnt : ∀ w : World, noTabs (K w.params) = true)
    (F : ∀ (w : World) (mg : Str → Option Value) (fa : Addr) (h : Heap), (K w.params).In h → h.Ns mainGlobals mg → mg d.name = some (.ref fa) →
      ∃ fd : FuncData, (∀ (s : Shared) (u : Value), BindsTo s fd ⟨[u], []⟩ [(x, u)]) ∧ (∃ p, tabIn (K w.params) y = some p) ∧
        ∀ base : Heap, (K w.params).In base → base.Ns mainGlobals mg → TabX (K w.params) mg base y → FnOk l.prog w (K w.params) mg base (CX w) k fa fd [x] (sp w))
    (hsp : ∀ (w : World) (H : Hp) (a : Addr) (ns : List Int), ns.length ≤ n → Light ns → SqL (K w.params) H a (ns.map V.int) → (∀ pos qual, Tb H (tabP (K w.params) y) pos qual) → sp w [.ref a] H (fun v _ => v = .bl true) fun _ _ _ => False)
    (hCX : ∀ (w : World) (H : Hp) (s : Shared) (e : Value) (s' : Shared), CX w [] H s (fun _ _ _ => False) e s' → False) :
    PySem.W.WalkO q loose XP YP l.row.toRowW d [] (fun f vs => PySem.call f vs) := by
  refine attach_callZ hn hdf fun w s₀ s₁ mg mb fa a vs ns G Y hmg hobj hints hlen hz hg => ?_
  have KX := hY w _ Y
  obtain ⟨fd, hb, ⟨⟨c, T⟩, hcT⟩, hF⟩ := F w mg fa _ KX G.T.g hmg
  obtain ⟨hC, hT⟩ := tab_of G.T KX hrec hcT
  have hB : s₁.heap.BuiltinsAt mg T := by
    obtain ⟨bm, ob, b1, b2, b3, b4, b5, b6⟩ := G.T.bmain
    refine ⟨bm, ob, b1, b2, fun z => ?_, fun z => ?_, b3, b4, b5, b6⟩
    · obtain ⟨o, es, ep, e, hd, _⟩ := G.T.g
      rw [z, e] at b3; cases b3; rw [hd] at b6; cases b6
    · rw [z, hT] at b3; cases b3; cases b4
  have eP : tabP (K w.params) y = T := by unfold tabP; rw [hcT]
  refine law_callT KX G.T.g G.T.b G.T.builtins G.T.nolimit hg hobj hints (Nat.le_trans hlen hn2) hr hC hT (lookup_noTabs (hnt w) KX hT) hB
    (fun base kb nb cb bb => hF base kb nb ⟨fun c' T' e => by rw [hcT] at e; cases e; exact ⟨cb, bb⟩⟩) hb (fun H hS hTb => hsp w H a ns hlen hz hS fun pos qual => ?_) fun H e s' => hCX w H s₁ e s'
  rw [eP]
  exact ⟨#[], hTb, trivial, .inl rfl⟩
theorem tab_mk {K : PySem.W.Frag} {x : Str} {f c T : Addr} {oc ocw : Value} {od odw : Option Addr} {fd : FuncData} {sl slw : Array (Option Value)} {vs : Array Value} (a : nsIn K mainGlobals x = some (some (.ref f))) (l : K.lookup f = some ⟨oc, od, .func fd, sl⟩) (cq : fd.code = .ref c) (lc : K.lookup c = some ⟨ocw, odw, .fields vs, slw⟩) (v : vs[11]? = some (.ref T)) : tabIn K x = some (c, T) := by
  unfold tabIn
  simp only [a, l, cq, lc, v]
theorem Fun.okC {P : Program} {w : World} {K : PySem.W.Frag} {mg : Str → Option Value} {base : Heap} {CX : CXT} {x qual : Str} {st : Stmt} {f c : Addr} {fd : FuncData} {N ps : List Str} {k : Nat} {sp : Sp} (F : Fun K x qual st f fd) (hc : fd.code = .ref c) (S : FnScope N ps (defScope st)) (len : ∀ vs H Q E, sp vs H Q E → vs.length = ps.length)
    (hbody : ∀ (A : Around) (outer : List Env) (s : Shared) (H : Hp) (vs : List V) (Q : VK) (E : XK), Room k (A.deeper (envOfC qual (defScope st) s.heap.objs.size f (.ref c))) → sp vs H Q E →
      ∃ t, PSs (cxOf CX P w K mg base N qual (defScope st) f (.ref c) A outer s H E).nox (defBody st) t ∧ t { nx := fun _ H' => Q .non H', rt := Q } (start N vs) H) : FnOk P w K mg base CX (k + 1) f fd ps sp := by
  obtain ⟨oc, od, kV, doc, pm, an, cdv, ct, osl, rfl, lk, hcd⟩ := F.ex
  have e : cdv = .ref c := hc
  subst e
  refine fn_of lk hcd S len fun A outer s H vs Q E hr hsp => ?_
  obtain ⟨t, h, q⟩ := hbody A outer s H vs Q E hr hsp
  exact ⟨t, h.nox, q⟩
section
variable {H H' : Hp}
theorem SameT.lst (e : SameT H H') {a : Addr} {xs : List V} (h : H a = some (.lst xs)) : H' a = some (.lst xs) := e.keep _ _ h rfl
theorem SameT.tup (e : SameT H H') {a : Addr} {xs : List V} (h : H a = some (.tup xs)) : H' a = some (.tup xs) := e.keep _ _ h rfl
theorem SameT.ins (e : SameT H H') {a C dx : Addr} {fs : List (Str × V)} (h : H a = some (.ins C dx fs)) : H' a = some (.ins C dx fs) := e.keep _ _ h rfl
theorem SameT.seq {K : PySem.W.Frag} (e : SameT H H') {a : Addr} {xs : List V} (h : SqL K H a xs) : SqL K H' a xs := by
  rcases h with (h | ⟨o, h⟩) | h
  · exact .inl (.inl (e.keep _ _ h rfl))
  · exact .inl (.inr ⟨o, e.keep _ _ h rfl⟩)
  · exact .inr h
theorem SameT.rows (e : SameT H H') {as : List Addr} {k : Nat} {F : Nat → Nat → Int} (h : Rows H as k F) : Rows H' as k F := ⟨h.1, fun i a q => e.keep _ _ (h.2 i a q) rfl⟩
theorem LBut.sameT {l : Addr} {H0 : Hp} (g : LBut l H H') (e : SameT H0 H) (h : H0 l = none) : SameT H0 H' :=
  ⟨fun b o q n => by rw [g.1 b (ne_of_none q h)]; exact e.keep b o q n, fun b ps q => by obtain ⟨ps', q'⟩ := e.tb b ps q; exact ⟨ps', by rw [g.1 b (ne_of_none q h)]; exact q'⟩⟩
end
noncomputable def TbW (K : PySem.W.Frag) (x : Str) (pos : Pos) (qual : Str) (H : Hp) : Prop := Tb H (tabP K x) pos qual
section
variable {K : PySem.W.Frag} {x qual : Str} {pos : Pos} {H H' : Hp}
theorem TbW.same (e : Same H H') (h : TbW K x pos qual H) : TbW K x pos qual H' := Tb.same h e
theorem TbW.but {l : Addr} (e : LBut l H H') (h : TbW K x pos qual H) : TbW K x pos qual H' := Tb.but h e
end
end Internal

set_option Elab.async false
set_option linter.all false
set_option maxRecDepth 100000
namespace Internal
open PySem PySem.Spec PyProof.Rows
set_option genInjectivity false in
set_option genSizeOf false in
structure Line (L : Nat → Int) (n : Nat) (q : List Nat) : Prop where
  perm : q.Perm (List.range n)
  up : ∀ a b, a ≤ b → b < n → -L (q.getD a 0) * 64 + (q.getD a 0 : Int) ≤ -L (q.getD b 0) * 64 + (q.getD b 0 : Int)
section
variable {L : Nat → Int} {n : Nat} {q : List Nat}
theorem Line.len (h : Line L n q) : q.length = n := by have := h.perm.length_eq; rwa [List.length_range] at this
theorem Line.lt (h : Line L n q) {i : Nat} (hi : i ∈ q) : i < n := List.mem_range.mp (h.perm.mem_iff.mp hi)
theorem Line.getLt (h : Line L n q) (hn : 0 < n) (a : Nat) : q.getD a 0 < n := by
  rw [List.getD_eq_getElem?_getD]
  cases e : q[a]? with
  | none => exact hn
  | some i => exact h.lt (List.mem_of_getElem? e)
end
theorem natI_at {q : List Nat} {i : Nat} (h : i < q.length) : (natI q)[i]? = some ((q.getD i 0 : Nat) : Int) := by
  unfold natI
  rw [List.getElem?_map, List.getD_eq_getElem?_getD, List.getElem?_eq_getElem h]; rfl
theorem natI_take {q : List Nat} {k : Nat} : (natI q).take k = natI (q.take k) := by unfold natI; rw [List.map_take]
theorem cut_takeI {ms : List Int} {k : Nat} : cutV (ms.map V.int) none (some (k : Int)) = (ms.take k).map V.int := by rw [cut_take, List.map_take]
theorem x_sk {ta : TA} {tb : TE} {j : Nat} {T : Addr} {lpos : Pos} {qu : Str} {σ : St} {H : Hp} {Q : VK} (h : ta σ H fun vs H1 => Tb H1 T lpos qu ∧ ∃ (r : Addr) (n : Nat) (u : V) (g : Nat → Int), vs = [.ref r] ∧ H1 r = some (.rng 0 (n : Int)) ∧ 1 ≤ n ∧ n < 64 ∧ σ[j]? = some (some u) ∧
  (∀ (i : Nat) H2, i < n → SameT H1 H2 → tb [some (.int (i : Int)), some u] H2 (fun v H3 => ∃ t, v = .ref t ∧ Same H2 H3 ∧ H3 t = some (.tup [.int (g i), .int (i : Int)]))) ∧
  ∀ l (p : List Nat) H3, H1 l = none → SameT H1 H3 → Tb H3 T lpos qu → p.Perm (List.range n) → (∀ a b, a ≤ b → b < n → g (p.getD a 0) * 64 + (p.getD a 0 : Int) ≤ g (p.getD b 0) * 64 + (p.getD b 0 : Int)) → H3 l = some (.lst (p.map fun i : Nat => V.int (i : Int))) → Q (.ref l) H3) : tSK ta tb j T lpos qu σ H Q := h
noncomputable def spWorst (K : PySem.W.Frag) (lP : Pos) (lQ : Str) : Sp := fun vs H Q _ => ∃ (p l : Addr) (as : List Addr) (k : Nat) (f : Nat → Int) (F : Nat → Nat → Int) (m n : Int), vs = [.ref p, .ref l, .int n] ∧ H p = some (.lst ((vec k f).map V.int)) ∧ H l = some (.lst (as.map V.ref)) ∧ Rows H as k F ∧ Within m k f ∧ WithinR m as.length k F ∧ m ≤ 999999999999 ∧ k ≤ 1000 ∧ 1 ≤ as.length ∧ as.length < 64 ∧ 0 ≤ n ∧ TbW K "worst_days" lP lQ H ∧
  ∀ r H' q, H r = none → SameT H H' → TbW K "worst_days" lP lQ H' → Line (fun i => lossF k f (F i)) as.length q → H' r = some (.lst ((natI (q.take n.toNat)).map V.int)) → Q (.ref r) H'
theorem spWorst_i {K : PySem.W.Frag} {lP : Pos} {lQ : Str} {p l : Addr} {as : List Addr} {k : Nat} {f : Nat → Int} {F : Nat → Nat → Int} {m n : Int} {H : Hp} {Q : VK} {E : XK} (h1 : H p = some (.lst ((vec k f).map V.int))) (h2 : H l = some (.lst (as.map V.ref))) (h3 : Rows H as k F) (h4 : Within m k f) (h5 : WithinR m as.length k F) (hm : m ≤ 999999999999) (hk : k ≤ 1000) (hl : 1 ≤ as.length) (hl' : as.length < 64) (hn : 0 ≤ n) (hT : TbW K "worst_days" lP lQ H)
  (q : ∀ r H' q, H r = none → SameT H H' → TbW K "worst_days" lP lQ H' → Line (fun i => lossF k f (F i)) as.length q → H' r = some (.lst ((natI (q.take n.toNat)).map V.int)) → Q (.ref r) H') : spWorst K lP lQ [.ref p, .ref l, .int n] H Q E := ⟨p, l, as, k, f, F, m, n, rfl, h1, h2, h3, h4, h5, hm, hk, hl, hl', hn, hT, q⟩
end Internal

set_option Elab.async false
set_option linter.all false
set_option maxRecDepth 100000
namespace Internal
open PySem PySem.Spec PyProof.Rows
noncomputable def lsum (g : Nat → Int) : List Nat → Int
  | [] => 0
  | d :: S => g d + lsum g S
theorem lsum_app {g : Nat → Int} : ∀ {S M : List Nat}, lsum g (S ++ M) = lsum g S + lsum g M
  | [], M => by show lsum g M = 0 + _; omega
  | d :: S, M => by show g d + lsum g (S ++ M) = g d + lsum g S + _; rw [lsum_app]; omega
theorem lsum_le {f g : Nat → Int} : ∀ {S : List Nat}, (∀ d ∈ S, f d ≤ g d) → lsum f S ≤ lsum g S
  | [], _ => Int.le_refl _
  | d :: S, h => by
    have h1 := h d (.head _)
    have h2 := lsum_le (S := S) fun x hx => h x (.tail _ hx)
    show f d + _ ≤ g d + _; omega
theorem lsum_const {v : Int} : ∀ {S : List Nat}, lsum (fun _ => v) S = (S.length : Int) * v
  | [] => by rw [List.length_nil]; show (0 : Int) = (0 : Int) * v; rw [Int.zero_mul]
  | d :: S => by
    show v + lsum _ S = ((S.length + 1 : Nat) : Int) * v
    rw [lsum_const, Int.natCast_add, Int.add_mul]
    show v + _ = _ + 1 * v
    omega
section
variable {L : Nat → Int} {n : Nat} {q : List Nat}
theorem lsum_take (L : Nat → Int) (q : List Nat) : ∀ k, k ≤ q.length → lsum L (q.take k) = My.sumTo (fun i => L (q.getD i 0)) k
  | 0, _ => by rw [List.take_zero]; rfl
  | k + 1, h => by
    rw [List.take_succ, lsum_app, lsum_take L q k (by omega), List.getElem?_eq_getElem (by omega)]
    show _ + (L q[k] + 0) = _ + L (q.getD k 0)
    rw [List.getD_eq_getElem?_getD, List.getElem?_eq_getElem (by omega)]
    show _ + (L q[k] + 0) = _ + L q[k]
    omega
end
noncomputable def rawN (m : Bool) (L : Nat → Int) (q : List Nat) (k : Nat) : Rat := if m then Rat.divInt (lsum L (q.take k)) (k : Int) else ((L (q.getD (k - 1) 0) : Int) : Rat)
noncomputable def pos0 (r : Rat) : Rat := if 0 < r then r else 0
section
variable {L L1 Internal' : Nat → Int} {n k : Nat} {q q1 q2 : List Nat}
theorem Line.ltT (h : Line L n q) : ∀ d ∈ q.take k, d < n := fun d hd => h.lt (List.mem_of_mem_take hd)
theorem Line.lenT (h : Line L n q) (hk : k ≤ n) : (q.take k).length = k := by rw [List.length_take, h.len]; omega
end
end Internal

set_option Elab.async false
set_option linter.all false
set_option maxRecDepth 100000
namespace Internal
open PySem PySem.Spec PyProof.Rows
theorem lossF_bd {m : Int} {f g : Nat → Int} (hm : m ≤ 999999999999) : ∀ {k : Nat}, Within m k f → Within m k g → -((k : Int) * 1000000000000000000000000) ≤ lossF k f g ∧ lossF k f g ≤ (k : Int) * 1000000000000000000000000
  | 0, _, _ => by
    show -((0 : Int) * _) ≤ 0 ∧ (0 : Int) ≤ (0 : Int) * _
    omega
  | k + 1, h1, h2 => by
    have ih := lossF_bd hm (k := k) (fun j hj => h1 j (by omega)) (fun j hj => h2 j (by omega))
    obtain ⟨a1, a2⟩ := h1 k (by omega)
    obtain ⟨b1, b2⟩ := h2 k (by omega)
    have c : (f k * g k).natAbs ≤ 1000000000000 * 1000000000000 := by
      rw [Int.natAbs_mul]
      exact Nat.mul_le_mul (by omega) (by omega)
    rw [lossF_succ]
    generalize f k * g k = y at *
    omega
theorem lsum_bd {L : Nat → Int} {B : Int} {S : List Nat} (h : ∀ d ∈ S, -B ≤ L d ∧ L d ≤ B) : -((S.length : Int) * B) ≤ lsum L S ∧ lsum L S ≤ (S.length : Int) * B := by
  have h1 := lsum_le (f := L) (g := fun _ => B) (S := S) fun d hd => (h d hd).2
  have h2 := lsum_le (f := fun _ => -B) (g := L) (S := S) fun d hd => (h d hd).1
  rw [lsum_const] at h1 h2
  rw [Int.mul_neg] at h2
  exact ⟨h2, h1⟩
theorem raw_sz {mn : Bool} {L : Nat → Int} {q : List Nat} {n k : Nat} (h : Line L n q) (hk : 0 < k) (hkn : k ≤ n) (hn : n < 64) (hB : ∀ d, d < n → -9000000000000000000000000 ≤ L d ∧ L d ≤ 9000000000000000000000000) : SzQ (rawN mn L q k) 100 10 := by
  unfold rawN
  cases mn
  · rw [if_neg (by decide)]
    have := hB _ (h.getLt (by omega) (k - 1))
    exact ⟨sz_of (by show (L (q.getD (k - 1) 0)).natAbs < 2 ^ 100; omega), sz_of (by show (1 : Int).natAbs < 2 ^ 10; decide)⟩
  · rw [if_pos rfl]
    have hb := lsum_bd (S := q.take k) fun d hd => hB d (h.ltT d hd)
    rw [h.lenT hkn] at hb
    have h1 : (k : Int) * 9000000000000000000000000 ≤ 64 * 9000000000000000000000000 := Int.mul_le_mul_of_nonneg_right (by omega) (by decide)
    exact szQ_div (by omega) (sz_of (by omega)) (sz_of (by omega))
theorem pos0_sz {r : Rat} {a b : Nat} (h : SzQ r a b) (hb : 1 ≤ b) : SzQ (pos0 r) a b := by
  unfold pos0
  split
  · exact h
  · exact ⟨sz_of (by show (0 : Int).natAbs < _; exact Nat.two_pow_pos _), Nat.le_trans (sz_of (n := 1) (by show (1 : Int).natAbs < 2 ^ 1; decide)) hb⟩
theorem nump {q : Rat} : 0 < q.num ↔ 0 < q := by
  constructor
  · intro h
    have h1 : 0 ≤ q := Rat.num_nonneg.mp (Int.le_of_lt h)
    have h2 : q ≠ 0 := fun z => by rw [z] at h; exact absurd h (by decide)
    grind
  · intro h
    have h1 : 0 ≤ q.num := Rat.num_nonneg.mpr (Rat.le_of_lt h)
    have h2 : q.num ≠ 0 := fun z => by rw [Rat.num_eq_zero.mp z] at h; exact absurd h (by decide)
    omega
noncomputable def OkRule (w : Str) (c : Int) (n : Nat) : Prop := (w = "worst" ∨ w = "mean") ∧ 1 ≤ c ∧ c ≤ n
noncomputable def spCheckR (K : PySem.W.Frag) (C : Addr) : Sp := fun vs H Q E => ∃ (ru l : Addr) (w : Str) (c : Int) (xs : List V), vs = [.ref ru, .ref l] ∧ H ru = some (.tup [.str w, .int c]) ∧ H l = some (.lst xs) ∧ (OkRule w c xs.length → ∀ H', Same H H' → Q .non H') ∧ (¬ OkRule w c xs.length → ∀ H', Same H H' → E (.ref C) none H')
theorem spCheckR_i {K : PySem.W.Frag} {C ru l : Addr} {w : Str} {c : Int} {xs : List V} {H : Hp} {Q : VK} {E : XK} (h1 : H ru = some (.tup [.str w, .int c])) (h2 : H l = some (.lst xs)) (q1 : OkRule w c xs.length → ∀ H', Same H H' → Q .non H') (q2 : ¬ OkRule w c xs.length → ∀ H', Same H H' → E (.ref C) none H') : spCheckR K C [.ref ru, .ref l] H Q E := ⟨ru, l, w, c, xs, rfl, h1, h2, q1, q2⟩
set_option genInjectivity false in
set_option genSizeOf false in
structure NeedIn (K : PySem.W.Frag) (lP : Pos) (lQ : Str) (H : Hp) (p l : Addr) (as : List Addr) (k : Nat) (f : Nat → Int) (F : Nat → Nat → Int) (m : Int) : Prop where
  pos : H p = some (.lst ((vec k f).map V.int))
  mov : H l = some (.lst (as.map V.ref))
  rows : Rows H as k F
  w1 : Within m k f
  w2 : WithinR m as.length k F
  hm : m ≤ 999999999999
  hk : k ≤ 9
  n1 : 1 ≤ as.length
  n2 : as.length < 64
  tb : TbW K "worst_days" lP lQ H
noncomputable def needQ (w : Str) (L : Nat → Int) (q : List Nat) (c : Int) : Rat := pos0 (rawN (decide (w = "mean")) L q c.toNat)
noncomputable def spNeed (K : PySem.W.Frag) (C : Addr) (lP : Pos) (lQ : Str) : Sp := fun vs H Q E => ∃ (ru p l : Addr) (w : Str) (c : Int) (as : List Addr) (k : Nat) (f : Nat → Int) (F : Nat → Nat → Int) (m : Int), vs = [.ref ru, .ref p, .ref l] ∧ H ru = some (.tup [.str w, .int c]) ∧ NeedIn K lP lQ H p l as k f F m ∧
  (OkRule w c as.length → ∀ r H' q, SameT H H' → TbW K "worst_days" lP lQ H' → Line (fun i => lossF k f (F i)) as.length q → IsQ H' r (needQ w (fun i => lossF k f (F i)) q c) → SzQ (needQ w (fun i => lossF k f (F i)) q c) 100 10 → Q (.ref r) H') ∧
  (¬ OkRule w c as.length → ∀ H', Same H H' → E (.ref C) none H')
theorem spNeed_i {K : PySem.W.Frag} {C : Addr} {lP : Pos} {lQ : Str} {ru p l : Addr} {w : Str} {c : Int} {as : List Addr} {k : Nat} {f : Nat → Int} {F : Nat → Nat → Int} {m : Int} {H : Hp} {Q : VK} {E : XK} (h1 : H ru = some (.tup [.str w, .int c])) (h2 : NeedIn K lP lQ H p l as k f F m) (h3 : OkRule w c as.length)
  (q : ∀ r H' q, SameT H H' → TbW K "worst_days" lP lQ H' → Line (fun i => lossF k f (F i)) as.length q → IsQ H' r (needQ w (fun i => lossF k f (F i)) q c) → SzQ (needQ w (fun i => lossF k f (F i)) q c) 100 10 → Q (.ref r) H') : spNeed K C lP lQ [.ref ru, .ref p, .ref l] H Q E := ⟨ru, p, l, w, c, as, k, f, F, m, rfl, h1, h2, fun _ => q, fun z => absurd h3 z⟩
set_option genInjectivity false in
set_option genSizeOf false in
structure LawIn (K : PySem.W.Frag) (lP : Pos) (lQ : Str) (H : Hp) (p mv : Addr) (as : List Addr) (k : Nat) (f : Nat → Int) (F : Nat → Nat → Int) (m : Int) : Prop where
  pos : H p = some (.lst ((vec k f).map V.int))
  mov : H mv = some (.lst (as.map V.ref))
  rows : Rows H as k F
  w1 : Within m k f
  w2 : WithinR m as.length k F
  hm : m ≤ 99999999999
  k0 : 1 ≤ k
  hk : k ≤ 9
  n1 : 2 ≤ as.length
  n2 : as.length < 60
  tb : TbW K "worst_days" lP lQ H
end Internal

set_option Elab.async false
set_option linter.all false
set_option maxRecDepth 100000
namespace Internal
open PySem PySem.Spec PyProof.Rows
set_option genInjectivity false in
set_option genSizeOf false in
structure HA where
  pu : Addr
  pl : Addr
  sh : Addr
  mv : Addr
  ru : Addr
  od : Addr
  bk : Addr
  ou : Addr
  re : Addr
noncomputable def hfl3 (pu pl sh : Addr) : List (Str × V) := putF "shares" (.ref sh) (putF "pledges" (.ref pl) (putF "purses" (.ref pu) []))
noncomputable def hfl (A : HA) (own : Int) : List (Str × V) := putF "reports" (.ref A.re) (putF "outs" (.ref A.ou) (putF "book" (.ref A.bk) (putF "order" (.ref A.od) (putF "rule" (.ref A.ru) (putF "moves" (.ref A.mv) (putF "kept" (.int own) (hfl3 A.pu A.pl A.sh)))))))
section
variable {A : HA} {own : Int}
theorem hfl_book : (hfl A own).lookup ("book" : Str) = some (.ref A.bk) := by unfold hfl hfl3; rw [lookup_putF, if_neg (by decide +kernel), lookup_putF, if_neg (by decide +kernel), lookup_putF, if_pos rfl]
theorem hfl_rule : (hfl A own).lookup ("rule" : Str) = some (.ref A.ru) := by unfold hfl hfl3; rw [lookup_putF, if_neg (by decide +kernel), lookup_putF, if_neg (by decide +kernel), lookup_putF, if_neg (by decide +kernel), lookup_putF, if_neg (by decide +kernel), lookup_putF, if_pos rfl]
theorem hfl_moves : (hfl A own).lookup ("moves" : Str) = some (.ref A.mv) := by unfold hfl hfl3; rw [lookup_putF, if_neg (by decide +kernel), lookup_putF, if_neg (by decide +kernel), lookup_putF, if_neg (by decide +kernel), lookup_putF, if_neg (by decide +kernel), lookup_putF, if_neg (by decide +kernel), lookup_putF, if_pos rfl]
theorem hfl_kept : (hfl A own).lookup ("kept" : Str) = some (.int own) := by unfold hfl hfl3; rw [lookup_putF, if_neg (by decide +kernel), lookup_putF, if_neg (by decide +kernel), lookup_putF, if_neg (by decide +kernel), lookup_putF, if_neg (by decide +kernel), lookup_putF, if_neg (by decide +kernel), lookup_putF, if_neg (by decide +kernel), lookup_putF, if_pos rfl]
theorem hfl_shares : (hfl A own).lookup ("shares" : Str) = some (.ref A.sh) := by unfold hfl hfl3; rw [lookup_putF, if_neg (by decide +kernel), lookup_putF, if_neg (by decide +kernel), lookup_putF, if_neg (by decide +kernel), lookup_putF, if_neg (by decide +kernel), lookup_putF, if_neg (by decide +kernel), lookup_putF, if_neg (by decide +kernel), lookup_putF, if_neg (by decide +kernel), lookup_putF, if_pos rfl]
theorem hfl_pledges : (hfl A own).lookup ("pledges" : Str) = some (.ref A.pl) := by unfold hfl hfl3; rw [lookup_putF, if_neg (by decide +kernel), lookup_putF, if_neg (by decide +kernel), lookup_putF, if_neg (by decide +kernel), lookup_putF, if_neg (by decide +kernel), lookup_putF, if_neg (by decide +kernel), lookup_putF, if_neg (by decide +kernel), lookup_putF, if_neg (by decide +kernel), lookup_putF, if_neg (by decide +kernel), lookup_putF, if_pos rfl]
theorem hfl_purses : (hfl A own).lookup ("purses" : Str) = some (.ref A.pu) := by unfold hfl hfl3; rw [lookup_putF, if_neg (by decide +kernel), lookup_putF, if_neg (by decide +kernel), lookup_putF, if_neg (by decide +kernel), lookup_putF, if_neg (by decide +kernel), lookup_putF, if_neg (by decide +kernel), lookup_putF, if_neg (by decide +kernel), lookup_putF, if_neg (by decide +kernel), lookup_putF, if_neg (by decide +kernel), lookup_putF, if_neg (by decide +kernel), lookup_putF, if_pos rfl]
noncomputable def hno (n : Str) : Bool := !decide (n = "reports") && !decide (n = "outs") && !decide (n = "book") && !decide (n = "order") && !decide (n = "rule") && !decide (n = "moves") && !decide (n = "kept") && !decide (n = "shares") && !decide (n = "pledges") && !decide (n = "purses")
theorem hfl_no {n : Str} (h : hno n = true) : (hfl A own).lookup n = none := by
  unfold hno at h
  simp only [Bool.and_eq_true, Bool.not_eq_true', decide_eq_false_iff_not] at h
  obtain ⟨⟨⟨⟨⟨⟨⟨⟨⟨h1, h2⟩, h3⟩, h4⟩, h5⟩, h6⟩, h7⟩, h8⟩, h9⟩, h10⟩ := h
  unfold hfl hfl3
  rw [lookup_putF, if_neg h1, lookup_putF, if_neg h2, lookup_putF, if_neg h3, lookup_putF, if_neg h4, lookup_putF, if_neg h5, lookup_putF, if_neg h6, lookup_putF, if_neg h7, lookup_putF, if_neg h8, lookup_putF, if_neg h9, lookup_putF, if_neg h10]
  rfl
end
noncomputable def NB (p : Addr) (H H' : Hp) : Prop := ∀ b o, b ≠ p → H b = some o → H' b = some o
section
variable {p : Addr} {H H1 H2 : Hp}
theorem NB.at (e : NB p H H1) {a : Addr} {o : HO} (h : H a = some o) (n : a ≠ p) : H1 a = some o := e a o n h
theorem NB.trans (e : NB p H H1) (f : NB p H1 H2) : NB p H H2 := fun b o n h => f b o n (e b o n h)
theorem Same.nb (e : Same H H1) : NB p H H1 := fun b o _ h => e b o h
theorem But.nb (e : But p H H1) : NB p H H1 := fun b o n h => e.at h n
theorem NB.no (e : NB p H H1) {x : Addr} (h : H1 x = none) (n : x ≠ p) : H x = none := by
  cases z : H x with
  | none => rfl
  | some o => rw [e x o n z] at h; cases h
theorem NB.same {H0 : Hp} (g : NB p H H1) (e : Same H0 H) (h : H0 p = none) : Same H0 H1 := fun b o q => g b o (ne_of_none q h) (e b o q)
end
noncomputable def posD (t : T7 × Str) (m : Int) (j : Nat) : Int := if t.2 = ("standing" : Str) ∧ t.1.w = (j : Int) then (if t.1.p = m then t.1.u else if t.1.q = m then -t.1.u else 0) else 0
noncomputable def posF : List (T7 × Str) → Int → Nat → Int
  | [], _, _ => 0
  | t :: ts, m, j => posD t m j + posF ts m j
theorem posF_app (ts us : List (T7 × Str)) (m : Int) (j : Nat) : posF (ts ++ us) m j = posF ts m j + posF us m j := by
  induction ts with
  | nil => show posF us m j = 0 + posF us m j; omega
  | cons t ts ih => show posD t m j + posF (ts ++ us) m j = posD t m j + posF ts m j + posF us m j; rw [ih]; omega
theorem posF_take {ts : List (T7 × Str)} {i : Nat} {t : T7 × Str} (h : ts[i]? = some t) (m : Int) (j : Nat) : posF (ts.take (i + 1)) m j = posF (ts.take i) m j + posD t m j := by
  rw [List.take_succ, h, posF_app]
  show _ + (posD t m j + 0) = _
  omega
theorem posD_bd {t : T7 × Str} (u0 : 1 ≤ t.1.u) (u1 : t.1.u ≤ 1000000) (m : Int) (j : Nat) : -1000000 ≤ posD t m j ∧ posD t m j ≤ 1000000 := by
  unfold posD
  split
  · split
    · omega
    · split <;> omega
  · omega
theorem posF_bd : ∀ {ts : List (T7 × Str)}, (∀ t ∈ ts, 1 ≤ t.1.u ∧ t.1.u ≤ 1000000) → ∀ (m : Int) (j : Nat), -((ts.length : Int) * 1000000) ≤ posF ts m j ∧ posF ts m j ≤ (ts.length : Int) * 1000000
  | [], _, m, j => by show -(0 * _) ≤ (0 : Int) ∧ (0 : Int) ≤ 0 * _; omega
  | t :: ts, h, m, j => by
    have ih := posF_bd (ts := ts) (fun t ht => h t (List.mem_cons_of_mem _ ht)) m j
    have h1 := h t List.mem_cons_self
    have h2 := posD_bd h1.1 h1.2 m j
    show -(((ts.length + 1 : Nat) : Int) * 1000000) ≤ posD t m j + posF ts m j ∧ posD t m j + posF ts m j ≤ ((ts.length + 1 : Nat) : Int) * 1000000
    omega
noncomputable def spPosition (C : Addr) : Sp := fun vs H Q _ => ∃ (b d : Addr) (m y n : Int) (w : Nat) (ts : List (T7 × Str)), vs = [.ref b, .int n] ∧ Bk C H b d m (w : Int) y ts ∧ (∀ t ∈ ts, 0 ≤ t.1.w ∧ t.1.w < (w : Int)) ∧ w ≤ 1000 ∧ ∀ p H', H p = none → Same H H' → H' p = some (.lst ((vec w (posF ts n)).map V.int)) → Q (.ref p) H'
theorem Bk.sameT {C : Addr} {H H' : Hp} {b d : Addr} {m w y : Int} {ts : List (T7 × Str)} (h : Bk C H b d m w y ts) (e : SameT H H') : Bk C H' b d m w y ts := by
  obtain ⟨⟨dx, h1⟩, xs, h2, h3⟩ := h
  exact ⟨⟨dx, e.ins h1⟩, xs, e.lst h2, IsTs.keep (fun a ys z => e.tup z) h3⟩
set_option genInjectivity false in
set_option genSizeOf false in
structure HN (K : PySem.W.Frag) (CB : Addr) (lP : Pos) (lQ : Str) (H : Hp) (A : HA) (d : Addr) (m y : Int) (ts : List (T7 × Str)) (bs : List Addr) (k : Nat) (F : Nat → Nat → Int) (w : Str) (c : Int) : Prop where
  bk : Bk CB H A.bk d m (k : Int) y ts
  tok : ∀ t ∈ ts, 0 ≤ t.1.w ∧ t.1.w < (k : Int)
  tu : ∀ t ∈ ts, 1 ≤ t.1.u ∧ t.1.u ≤ 1000000
  tl : ts.length ≤ 1000
  ru : H A.ru = some (.tup [.str w, .int c])
  mv : H A.mv = some (.lst (bs.map V.ref))
  rows : Rows H bs k F
  fw : WithinR 1000000 bs.length k F
  ok : OkRule w c bs.length
  k9 : k ≤ 9
  n64 : bs.length < 64
  tb : TbW K "worst_days" lP lQ H
section
variable {K : PySem.W.Frag} {CB : Addr} {lP : Pos} {lQ : Str} {H H' : Hp} {A : HA} {d : Addr} {m y : Int} {ts : List (T7 × Str)} {bs : List Addr} {k : Nat} {F : Nat → Nat → Int} {w : Str} {c : Int}
theorem HN.sameT (h : HN K CB lP lQ H A d m y ts bs k F w c) (e : SameT H H') (t : TbW K "worst_days" lP lQ H') : HN K CB lP lQ H' A d m y ts bs k F w c :=
  ⟨h.bk.sameT e, h.tok, h.tu, h.tl, e.tup h.ru, e.lst h.mv, e.rows h.rows, h.fw, h.ok, h.k9, h.n64, t⟩
theorem HN.same (h : HN K CB lP lQ H A d m y ts bs k F w c) (e : Same H H') : HN K CB lP lQ H' A d m y ts bs k F w c := h.sameT e.t (TbW.same e h.tb)
theorem HN.but {l : Addr} (h : HN K CB lP lQ H A d m y ts bs k F w c) (g : LBut l H H') (n1 : d ≠ l) (n2 : A.mv ≠ l) (n3 : l ∉ bs) : HN K CB lP lQ H' A d m y ts bs k F w c :=
  ⟨h.bk.but g n1, h.tok, h.tu, h.tl, g.tup h.ru, g.lst h.mv n2, h.rows.but g n3, h.fw, h.ok, h.k9, h.n64, TbW.but g h.tb⟩
end
noncomputable def lossH (ts : List (T7 × Str)) (m : Int) (k : Nat) (F : Nat → Nat → Int) (i : Nat) : Int := lossF k (posF ts m) (F i)
noncomputable def spNeedH (K : PySem.W.Frag) (C CB : Addr) (lP : Pos) (lQ : Str) : Sp := fun vs H Q _ => ∃ (h dx d : Addr) (A : HA) (own m y n : Int) (ts : List (T7 × Str)) (bs : List Addr) (k : Nat) (F : Nat → Nat → Int) (w : Str) (c : Int), vs = [.ref h, .int n] ∧ H h = some (.ins C dx (hfl A own)) ∧ HN K CB lP lQ H A d m y ts bs k F w c ∧
  ∀ r H' q, SameT H H' → TbW K "worst_days" lP lQ H' → Line (lossH ts n k F) bs.length q → IsQ H' r (needQ w (lossH ts n k F) q c) → SzQ (needQ w (lossH ts n k F) q c) 100 10 → Q (.ref r) H'
noncomputable def spHPurse (C : Addr) : Sp := fun vs H Q _ => ∃ (h dx : Addr) (A : HA) (own k : Int) (n : Nat) (f : Nat → Int), vs = [.ref h, .int k] ∧ H h = some (.ins C dx (hfl A own)) ∧ H A.pu = some (.lst ((vec n f).map V.int)) ∧ 0 ≤ k ∧ k < (n : Int) ∧ Q (.int (f k.toNat)) H
noncomputable def spHPledge (C : Addr) : Sp := fun vs H Q _ => ∃ (h dx : Addr) (A : HA) (own k : Int) (n : Nat) (f : Nat → Int), vs = [.ref h, .int k] ∧ H h = some (.ins C dx (hfl A own)) ∧ H A.pl = some (.lst ((vec n f).map V.int)) ∧ 0 ≤ k ∧ k < (n : Int) ∧ Q (.int (f k.toNat)) H
noncomputable def spHShare (C : Addr) : Sp := fun vs H Q _ => ∃ (h dx : Addr) (A : HA) (own k : Int) (n : Nat) (f : Nat → Int), vs = [.ref h, .int k] ∧ H h = some (.ins C dx (hfl A own)) ∧ H A.sh = some (.lst ((vec n f).map V.int)) ∧ 0 ≤ k ∧ k < (n : Int) ∧ Q (.int (f k.toNat)) H
noncomputable def spHOwn (C : Addr) : Sp := fun vs H Q _ => ∃ (h dx : Addr) (A : HA) (own : Int), vs = [.ref h] ∧ H h = some (.ins C dx (hfl A own)) ∧ Q (.int own) H
noncomputable def spHCoins (C : Addr) : Sp := fun vs H Q _ => ∃ (h dx : Addr) (A : HA) (own : Int) (p l s : List Int), vs = [.ref h] ∧ H h = some (.ins C dx (hfl A own)) ∧ H A.pu = some (.lst (p.map V.int)) ∧ H A.pl = some (.lst (l.map V.int)) ∧ H A.sh = some (.lst (s.map V.int)) ∧ Q (.int (sumI p + sumI l + sumI s + own)) H
noncomputable def spHToday (C CB : Addr) : Sp := fun vs H Q _ => ∃ (h dx d : Addr) (A : HA) (own m w y : Int) (ts : List (T7 × Str)), vs = [.ref h] ∧ H h = some (.ins C dx (hfl A own)) ∧ Bk CB H A.bk d m w y ts ∧ Q (.int y) H
set_option genInjectivity false in
set_option genSizeOf false in
structure Stk (p : Addr) (H0 H : Hp) (l : List Addr) : Prop where
  nb : NB p H0 H
  hp : H p ≠ none
  nd : l.Nodup
  ex : ∀ y ∈ l, H y ≠ none ∧ y ≠ p ∧ H0 y = none
section
variable {p : Addr} {H0 H H' : Hp} {l : List Addr}
theorem NB.some (e : NB p H H') {y : Addr} (h : H y ≠ none) (n : y ≠ p) : H' y ≠ none := fun z => h (e.no z n)
theorem Stk.nil (h : H p ≠ none) : Stk p H H [] := ⟨fun _ _ _ h => h, h, List.nodup_nil, fun y hy => nomatch hy⟩
theorem Stk.keep (s : Stk p H0 H l) (e : NB p H H') (hp : H' p ≠ none) : Stk p H0 H' l := ⟨s.nb.trans e, hp, s.nd, fun y hy => ⟨e.some (s.ex y hy).1 (s.ex y hy).2.1, (s.ex y hy).2⟩⟩
theorem Stk.same (s : Stk p H0 H l) (e : Same H H') : Stk p H0 H' l := s.keep e.nb fun z => s.hp (Same.none z e)
theorem Stk.fresh (s : Stk p H0 H l) {x : Addr} (h : H x = none) : x ≠ p ∧ x ∉ l ∧ H0 x = none :=
  have hp : x ≠ p := fun z => s.hp (z ▸ h)
  ⟨hp, fun hx => (s.ex x hx).1 h, s.nb.no h hp⟩
theorem Stk.new (s : Stk p H0 H l) {x : Addr} (h : H x = none) (e : Same H H') (hx : H' x ≠ none) : Stk p H0 H' (x :: l) := by
  obtain ⟨n1, n2, n3⟩ := s.fresh h
  have s' := s.same e
  refine ⟨s'.nb, s'.hp, List.nodup_cons.mpr ⟨n2, s.nd⟩, fun y hy => ?_⟩
  rcases List.mem_cons.mp hy with rfl | hy
  · exact ⟨hx, n1, n3⟩
  · exact s'.ex y hy
theorem Stk.more (s : Stk p H0 H l) {bs : List Addr} (h : ∀ b ∈ bs, H b = none) (nd : bs.Nodup) (e : Same H H') (hx : ∀ b ∈ bs, H' b ≠ none) : Stk p H0 H' (bs ++ l) := by
  have s' := s.same e
  refine ⟨s'.nb, s'.hp, List.nodup_append.mpr ⟨nd, s.nd, fun a ha b hb z => (s.fresh (h a ha)).2.1 (z ▸ hb)⟩, fun y hy => ?_⟩
  rcases List.mem_append.mp hy with hy | hy
  · obtain ⟨n1, n2, n3⟩ := s.fresh (h y hy)
    exact ⟨hx y hy, n1, n3⟩
  · exact s'.ex y hy
theorem some_ne {H : Hp} {a : Addr} {o : HO} (h : H a = some o) : H a ≠ none := fun z => by rw [h] at z; cases z
end
noncomputable def m3V (x : Int × Int × Int) : List V := [.int x.1, .int x.2.1, .int x.2.2]
set_option genInjectivity false in
set_option genSizeOf false in
structure HNew (CB p : Addr) (H H' : Hp) (A : HA) (d : Addr) (bs : List Addr) (xs : List (Int × Int × Int)) (k : Nat) (F : Nat → Nat → Int) (w : Str) (c : Int) (ws : List Str) : Prop where
  pu : H' A.pu = some (.lst ((vec xs.length fun i => (xs.getD i (0, 0, 0)).1).map V.int))
  pl : H' A.pl = some (.lst ((vec xs.length fun i => (xs.getD i (0, 0, 0)).2.1).map V.int))
  sh : H' A.sh = some (.lst ((vec xs.length fun i => (xs.getD i (0, 0, 0)).2.2).map V.int))
  mv : H' A.mv = some (.lst (bs.map V.ref))
  rows : Rows H' bs k F
  ru : H' A.ru = some (.tup [.str w, .int c])
  od : H' A.od = some (.lst (ws.map V.str))
  bk : Bk CB H' A.bk d xs.length k 0 []
  ou : H' A.ou = some (.lst ((List.replicate xs.length false).map V.bl))
  re : H' A.re = some (.lst [])
  st : Stk p H H' (A.re :: A.ou :: d :: A.bk :: A.od :: A.ru :: (bs ++ [A.mv, A.sh, A.pl, A.pu]))
noncomputable def spHInit (K : PySem.W.Frag) (C CB CR CL : Addr) : Sp := fun vs H Q E => ∃ (p dx ms mo ru od : Addr) (us : List V) (xs : List (Int × Int × Int)) (as : List Addr) (k : Nat) (F : Nat → Nat → Int) (w : Str) (c : Int) (ws : List Str) (own : Int),
  vs = [.ref p, .ref ms, .ref mo, .ref ru, .ref od, .int own] ∧ H p = some (.ins C dx []) ∧ H ms = some (.lst us) ∧ IsTs m3V H us xs ∧ xs.length ≤ 1000 ∧ H mo = some (.lst (as.map V.ref)) ∧ Rows H as k F ∧ 1 ≤ as.length ∧ as.length ≤ 1000 ∧ 0 < k ∧ k ≤ 1000 ∧ H ru = some (.tup [.str w, .int c]) ∧ H od = some (.lst (ws.map V.str)) ∧ ws.length ≤ 100 ∧
  (OkRule w c as.length → OkO ws → ∀ A d bs H', NB p H H' → H' p = some (.ins C dx (hfl A own)) → bs.length = as.length → HNew CB p H H' A d bs xs k F w c ws → Q .non H') ∧ (¬ OkRule w c as.length → ∀ H', Same H H' → E (.ref CR) none H') ∧ (OkRule w c as.length → ¬ OkO ws → ∀ H', Same H H' → E (.ref CL) none H')
noncomputable def mOk (n : Nat) (m : Int) : Prop := 0 ≤ m ∧ m < (n : Int)
noncomputable def tOk (c : Int) : Prop := 0 ≤ c ∧ c ≤ 1000000000
set_option genInjectivity false in
set_option genSizeOf false in
structure HC (C : Addr) (H : Hp) (h : Addr) (A : HA) (own : Int) (n : Nat) (P L : Nat → Int) : Prop where
  ob : ∃ dx, H h = some (.ins C dx (hfl A own))
  pu : H A.pu = some (.lst ((vec n P).map V.int))
  pl : H A.pl = some (.lst ((vec n L).map V.int))
  ne : A.pu ≠ A.pl
noncomputable def addF (f : Nat → Int) (m : Int) (c : Int) : Nat → Int := fun i => if i = m.toNat then f m.toNat + c else f i
noncomputable def spChkC (C CM CT : Addr) : Sp := fun vs H Q E => ∃ (h : Addr) (A : HA) (own m c : Int) (n : Nat) (P L : Nat → Int), vs = [.ref h, .int m, .int c] ∧ HC C H h A own n P L ∧ (mOk n m → tOk c → Q .non H) ∧ (¬ mOk n m → E (.ref CM) none H) ∧ (mOk n m → ¬ tOk c → E (.ref CT) none H)
noncomputable def spEnough (CP : Addr) : Sp := fun vs H Q E => ∃ x y : Int, vs = [.int x, .int y] ∧ (y ≤ x → Q .non H) ∧ (x < y → E (.ref CP) none H)
noncomputable def spCovered (CB : Addr) : Sp := fun vs H Q E => ∃ (x : Int) (r : Addr) (q : Rat), vs = [.int x, .ref r] ∧ IsQ H r q ∧ SzQ q 60000 60000 ∧ sz x ≤ 60000 ∧ (¬ (x : Rat) < q → ∀ H', Same H H' → Q .non H') ∧ ((x : Rat) < q → ∀ H', Same H H' → E (.ref CB) none H')
noncomputable def spHPut (C CM CT : Addr) : Sp := fun vs H Q E => ∃ (h : Addr) (A : HA) (own m c : Int) (n : Nat) (P L : Nat → Int), vs = [.ref h, .int m, .int c] ∧ HC C H h A own n P L ∧ (mOk n m → tOk c → ∀ H', LBut A.pu H H' → H' A.pu = some (.lst ((vec n (addF P m c)).map V.int)) → Q .non H') ∧ (¬ mOk n m → E (.ref CM) none H) ∧ (mOk n m → ¬ tOk c → E (.ref CT) none H)
noncomputable def spHTake (C CM CT CP : Addr) : Sp := fun vs H Q E => ∃ (h : Addr) (A : HA) (own m c : Int) (n : Nat) (P L : Nat → Int), vs = [.ref h, .int m, .int c] ∧ HC C H h A own n P L ∧ (mOk n m → tOk c → c ≤ P m.toNat → ∀ H', LBut A.pu H H' → H' A.pu = some (.lst ((vec n (addF P m (-c))).map V.int)) → Q .non H') ∧ (¬ mOk n m → E (.ref CM) none H) ∧ (mOk n m → ¬ tOk c → E (.ref CT) none H) ∧ (mOk n m → tOk c → P m.toNat < c → E (.ref CP) none H)
noncomputable def spHLay (C CM CT CP : Addr) : Sp := fun vs H Q E => ∃ (h : Addr) (A : HA) (own m c : Int) (n : Nat) (P L : Nat → Int), vs = [.ref h, .int m, .int c] ∧ HC C H h A own n P L ∧ (mOk n m → tOk c → c ≤ P m.toNat → ∀ H1 H', LBut A.pu H H1 → H1 A.pu = some (.lst ((vec n (addF P m (-c))).map V.int)) → LBut A.pl H1 H' → H' A.pl = some (.lst ((vec n (addF L m c)).map V.int)) → Q .non H') ∧ (¬ mOk n m → E (.ref CM) none H) ∧ (mOk n m → ¬ tOk c → E (.ref CT) none H) ∧ (mOk n m → tOk c → P m.toNat < c → E (.ref CP) none H)
noncomputable def spHFree (K : PySem.W.Frag) (C CB : Addr) (lP : Pos) (lQ : Str) (CM CT CP CR : Addr) : Sp := fun vs H Q E => ∃ (h d : Addr) (A : HA) (own m c mm y : Int) (n : Nat) (P L : Nat → Int) (ts : List (T7 × Str)) (bs : List Addr) (k : Nat) (F : Nat → Nat → Int) (w : Str) (cr : Int), vs = [.ref h, .int m, .int c] ∧ HC C H h A own n P L ∧ HN K CB lP lQ H A d mm y ts bs k F w cr ∧ (mOk n m → tOk c → sz (L m.toNat - c) ≤ 60000) ∧
  (mOk n m → tOk c → c ≤ L m.toNat → ∀ H1 q, SameT H H1 → TbW K "worst_days" lP lQ H1 → Line (lossH ts m k F) bs.length q → (((L m.toNat - c : Int) : Rat) < needQ w (lossH ts m k F) q cr → E (.ref CR) none H1) ∧ (¬ ((L m.toNat - c : Int) : Rat) < needQ w (lossH ts m k F) q cr → ∀ H2 H', LBut A.pl H1 H2 → H2 A.pl = some (.lst ((vec n (addF L m (-c))).map V.int)) → LBut A.pu H2 H' → H' A.pu = some (.lst ((vec n (addF P m c)).map V.int)) → Q .non H')) ∧
  (¬ mOk n m → E (.ref CM) none H) ∧ (mOk n m → ¬ tOk c → E (.ref CT) none H) ∧ (mOk n m → tOk c → L m.toNat < c → E (.ref CP) none H)
end Internal

set_option Elab.async false
set_option linter.all false
set_option maxRecDepth 100000
namespace Internal
open PySem PySem.Spec PyProof.Rows
noncomputable instance (n : Nat) (m : Int) : Decidable (mOk n m) := inferInstanceAs (Decidable (_ ∧ _))
noncomputable instance (c : Int) : Decidable (tOk c) := inferInstanceAs (Decidable (_ ∧ _))
noncomputable def words4 : List Str := ["put", "take", "lay", "free"]
noncomputable def dK (wd : Str) (n : Nat) (P L : Nat → Int) (m c : Int) : Nat := if ¬ mOk n m then 1 else if ¬ tOk c then 2 else if (wd = "free" ∧ L m.toNat < c) ∨ ((wd = "take" ∨ wd = "lay") ∧ P m.toNat < c) then 3 else 0
noncomputable def wordH (k : Nat) : Str := if k = 1 then "member" else if k = 2 then "terms" else "poor"
noncomputable def outV (k : Nat) : List V := if k = 0 then [.str "told", .non] else [.str "refused", .str (wordH k)]
noncomputable def pC (wd : Str) (c : Int) : Int := if wd = "put" ∨ wd = "free" then c else -c
noncomputable def lC (wd : Str) (c : Int) : Int := if wd = "lay" then c else if wd = "free" then -c else 0
noncomputable def newP (wd : Str) (n : Nat) (P L : Nat → Int) (m c : Int) : Nat → Int := if dK wd n P L m c = 0 then addF P m (pC wd c) else P
noncomputable def newL (wd : Str) (n : Nat) (P L : Nat → Int) (m c : Int) : Nat → Int := if dK wd n P L m c = 0 then addF L m (lC wd c) else L
noncomputable def rowN (P L : Nat → Int) (R : Nat → Nat → Int) : Nat → Nat → Int := fun i j => if j = 0 then P i else if j = 1 then L i else R i j
theorem addF_zero (f : Nat → Int) (m : Int) : addF f m 0 = f := by
  funext i
  unfold addF
  split
  · rename_i h; rw [h]; omega
  · rfl
section
variable {wd : Str} {n : Nat} {P L : Nat → Int} {m c : Int}
theorem dK1 (h : ¬ mOk n m) : dK wd n P L m c = 1 := if_pos h
theorem dK2 (h : mOk n m) (h2 : ¬ tOk c) : dK wd n P L m c = 2 := by unfold dK; rw [if_neg (fun z => z h), if_pos h2]
theorem dK3 (h : mOk n m) (h2 : tOk c) (h3 : (wd = "free" ∧ L m.toNat < c) ∨ ((wd = "take" ∨ wd = "lay") ∧ P m.toNat < c)) : dK wd n P L m c = 3 := by unfold dK; rw [if_neg (fun z => z h), if_neg (fun z => z h2), if_pos h3]
theorem dK0 (h : mOk n m) (h2 : tOk c) (h3 : ¬ ((wd = "free" ∧ L m.toNat < c) ∨ ((wd = "take" ∨ wd = "lay") ∧ P m.toNat < c))) : dK wd n P L m c = 0 := by unfold dK; rw [if_neg (fun z => z h), if_neg (fun z => z h2), if_neg h3]
theorem dK_of0 (h : dK wd n P L m c = 0) : mOk n m ∧ tOk c ∧ ¬ ((wd = "free" ∧ L m.toNat < c) ∨ ((wd = "take" ∨ wd = "lay") ∧ P m.toNat < c)) := by
  unfold dK at h
  split at h
  · cases h
  · split at h
    · cases h
    · split at h
      · cases h
      · rename_i h1 h2 h3
        exact ⟨Classical.not_not.mp h1, Classical.not_not.mp h2, h3⟩
theorem newP0 (h : dK wd n P L m c = 0) : newP wd n P L m c = addF P m (pC wd c) := if_pos h
theorem newP1 (h : ¬ dK wd n P L m c = 0) : newP wd n P L m c = P := if_neg h
theorem newL0 (h : dK wd n P L m c = 0) : newL wd n P L m c = addF L m (lC wd c) := if_pos h
theorem newL1 (h : ¬ dK wd n P L m c = 0) : newL wd n P L m c = L := if_neg h
noncomputable def BdF (n : Nat) (f : Nat → Int) (B : Int) : Prop := ∀ i, i < n → 0 ≤ f i ∧ f i ≤ B
theorem new_bd {B : Int} (hw : wd ∈ words4) (h1 : BdF n P B) (h2 : BdF n L B) (B0 : 0 ≤ B) : BdF n (newP wd n P L m c) (B + 1000000000) ∧ BdF n (newL wd n P L m c) (B + 1000000000) := by
  by_cases h : dK wd n P L m c = 0
  · rw [newP0 h, newL0 h]
    obtain ⟨⟨m0, m1⟩, ⟨c0, c1⟩, hn⟩ := dK_of0 h
    have hm : m.toNat < n := by omega
    have a1 := h1 _ hm
    have a2 := h2 _ hm
    have e1 : ¬ ("take" : Str) = "put" := by decide
    have e2 : ¬ ("take" : Str) = "free" := by decide
    have e3 : ¬ ("lay" : Str) = "put" := by decide
    have e4 : ¬ ("lay" : Str) = "free" := by decide
    have e5 : ¬ ("put" : Str) = "lay" := by decide
    have e6 : ¬ ("put" : Str) = "free" := by decide
    have e7 : ¬ ("take" : Str) = "lay" := by decide
    have e8 : ¬ ("free" : Str) = "lay" := by decide
    have key : (0 ≤ P m.toNat + pC wd c ∧ P m.toNat + pC wd c ≤ B + 1000000000) ∧ (0 ≤ L m.toNat + lC wd c ∧ L m.toNat + lC wd c ≤ B + 1000000000) := by
      simp only [words4, List.mem_cons, List.not_mem_nil, or_false] at hw
      rcases hw with rfl | rfl | rfl | rfl
      · rw [show pC "put" c = c from if_pos (.inl rfl), show lC "put" c = 0 by unfold lC; rw [if_neg e5, if_neg e6]]; omega
      · rw [show pC "take" c = -c from if_neg (fun z => z.elim e1 e2), show lC "take" c = 0 by unfold lC; rw [if_neg e7, if_neg e2]]
        have : ¬ P m.toNat < c := fun z => hn (.inr ⟨.inl rfl, z⟩)
        omega
      · rw [show pC "lay" c = -c from if_neg (fun z => z.elim e3 e4), show lC "lay" c = c from if_pos rfl]
        have : ¬ P m.toNat < c := fun z => hn (.inr ⟨.inr rfl, z⟩)
        omega
      · rw [show pC "free" c = c from if_pos (.inr rfl), show lC "free" c = -c by unfold lC; rw [if_neg e8, if_pos rfl]]
        have : ¬ L m.toNat < c := fun z => hn (.inl ⟨rfl, z⟩)
        omega
    constructor
    · intro i hi
      unfold addF
      split
      · exact key.1
      · have := h1 i hi; omega
    · intro i hi
      unfold addF
      split
      · exact key.2
      · have := h2 i hi; omega
  · rw [newP1 h, newL1 h]
    exact ⟨fun i hi => by have := h1 i hi; omega, fun i hi => by have := h2 i hi; omega⟩
end
set_option genInjectivity false in
set_option genSizeOf false in
structure HX where
  h : Addr
  ro : Addr
  d : Addr
  mr : Addr
  A : HA
  as : List Addr
  own : Int
  n : Nat
  S : Nat → Int
  zs : List (Addr × List V)
noncomputable def mvF : Nat → Nat → Int := fun _ j => if j = 0 then 1 else -1
set_option genInjectivity false in
set_option genSizeOf false in
structure HD (H0 : Hp) (X : HX) : Prop where
  n1 : X.A.pu ≠ X.A.pl
  n2 : ∀ x ∈ [X.A.sh, X.d, X.A.mv, X.mr, X.ro], x ≠ X.A.pu ∧ x ≠ X.A.pl
  n3 : ∀ c ∈ X.as, c ≠ X.A.pu ∧ c ≠ X.A.pl ∧ c ∉ [X.A.sh, X.d, X.A.mv, X.mr, X.ro]
  f1 : H0 X.A.pu = none
  f2 : H0 X.A.pl = none
  f3 : ∀ c ∈ X.as, H0 c = none
  n4 : ∀ z ∈ X.zs, z.1 ≠ X.A.pu ∧ z.1 ≠ X.A.pl ∧ z.1 ∉ X.as
set_option genInjectivity false in
set_option genSizeOf false in
structure HW (K : PySem.W.Frag) (C CB : Addr) (lP : Pos) (lQ : Str) (H0 : Hp) (X : HX) (H : Hp) (P L : Nat → Int) (R : Nat → Nat → Int) : Prop where
  hd : HD H0 X
  e0 : SameT H0 H
  hc : HC C H X.h X.A X.own X.n P L
  sh : H X.A.sh = some (.lst ((vec X.n X.S).map V.int))
  hn : HN K CB lP lQ H X.A X.d X.n 0 [] [X.mr] 2 mvF "mean" 1
  ro : H X.ro = some (.lst (X.as.map V.ref))
  rw : Rows H X.as 3 R
  al : X.as.length = X.n
  zl : ∀ z ∈ X.zs, H z.1 = some (.lst z.2)
section
variable {K : PySem.W.Frag} {C CB : Addr} {lP : Pos} {lQ : Str} {H0 : Hp} {X : HX} {H H' : Hp} {P L P' L' : Nat → Int} {R : Nat → Nat → Int}
theorem HW.sameT (h : HW K C CB lP lQ H0 X H P L R) (e : SameT H H') (t : TbW K "worst_days" lP lQ H') : HW K C CB lP lQ H0 X H' P L R := by
  obtain ⟨⟨dx, h1⟩, h2, h3, h4⟩ := h.hc
  exact ⟨h.hd, h.e0.trans e, ⟨⟨dx, e.ins h1⟩, e.lst h2, e.lst h3, h4⟩, e.lst h.sh, h.hn.sameT e t, e.lst h.ro, e.rows h.rw, h.al, fun z hz => e.lst (h.zl z hz)⟩
theorem HW.same (h : HW K C CB lP lQ H0 X H P L R) (e : Same H H') : HW K C CB lP lQ H0 X H' P L R := h.sameT e.t (TbW.same e h.hn.tb)
theorem HW.pu (h : HW K C CB lP lQ H0 X H P L R) (g : LBut X.A.pu H H') (q : H' X.A.pu = some (.lst ((vec X.n P').map V.int))) : HW K C CB lP lQ H0 X H' P' L R := by
  obtain ⟨⟨dx, h1⟩, h2, h3, h4⟩ := h.hc
  have n2 := h.hd.n2
  refine ⟨h.hd, g.sameT h.e0 h.hd.f1, ⟨⟨dx, g.ins h1⟩, q, g.lst h3 h4.symm, h4⟩, g.lst h.sh (n2 _ (by simp)).1, h.hn.but g (n2 _ (by simp)).1 (n2 _ (by simp)).1 ?_, g.lst h.ro (n2 _ (by simp)).1, h.rw.but g fun z => (h.hd.n3 _ z).1 rfl, h.al, fun z hz => g.lst (h.zl z hz) (h.hd.n4 z hz).1⟩
  rw [List.mem_singleton]
  exact fun z => (n2 X.mr (by simp)).1 z.symm
theorem HW.pl (h : HW K C CB lP lQ H0 X H P L R) (g : LBut X.A.pl H H') (q : H' X.A.pl = some (.lst ((vec X.n L').map V.int))) : HW K C CB lP lQ H0 X H' P L' R := by
  obtain ⟨⟨dx, h1⟩, h2, h3, h4⟩ := h.hc
  have n2 := h.hd.n2
  refine ⟨h.hd, g.sameT h.e0 h.hd.f2, ⟨⟨dx, g.ins h1⟩, g.lst h2 h4, q, h4⟩, g.lst h.sh (n2 _ (by simp)).2, h.hn.but g (n2 _ (by simp)).2 (n2 _ (by simp)).2 ?_, g.lst h.ro (n2 _ (by simp)).2, h.rw.but g fun z => (h.hd.n3 _ z).2.1 rfl, h.al, fun z hz => g.lst (h.zl z hz) (h.hd.n4 z hz).2.1⟩
  rw [List.mem_singleton]
  exact fun z => (n2 X.mr (by simp)).2 z.symm
theorem HW.row {j : Nat} {c : Addr} {f : Nat → Int} (h : HW K C CB lP lQ H0 X H P L R) (g : LBut c H H') (hj : X.as[j]? = some c) (q : H' c = some (.lst ((vec 3 f).map V.int))) : HW K C CB lP lQ H0 X H' P L (fun i => if i = j then f else R i) := by
  obtain ⟨⟨dx, h1⟩, h2, h3, h4⟩ := h.hc
  have hm := List.mem_of_getElem? hj
  obtain ⟨m1, m2, m3⟩ := h.hd.n3 c hm
  have ne : ∀ x ∈ [X.A.sh, X.d, X.A.mv, X.mr, X.ro], x ≠ c := fun x hx z => m3 (z ▸ hx)
  refine ⟨h.hd, g.sameT h.e0 (h.hd.f3 c hm), ⟨⟨dx, g.ins h1⟩, g.lst h2 m1.symm, g.lst h3 m2.symm, h4⟩, g.lst h.sh (ne _ (by simp)), h.hn.but g (ne _ (by simp)) (ne _ (by simp)) ?_, g.lst h.ro (ne _ (by simp)), h.rw.set g hj q, h.al, fun z hz => g.lst (h.zl z hz) fun e => (h.hd.n4 z hz).2.2 (by rw [e]; exact hm)⟩
  rw [List.mem_singleton]
  exact fun z => ne X.mr (by simp) z.symm
theorem HW.congr {R' : Nat → Nat → Int} (h : HW K C CB lP lQ H0 X H P L R) (e : ∀ i, i < X.n → ∀ j, j < 3 → R i j = R' i j) : HW K C CB lP lQ H0 X H P L R' :=
  ⟨h.hd, h.e0, h.hc, h.sh, h.hn, h.ro, h.rw.congr (fun i hi j hj => e i (by rw [← h.al]; exact hi) j hj), h.al, h.zl⟩
end
noncomputable def HX.on (X : HX) (z : Addr) (xs : List V) : HX := { X with zs := [(z, xs)] }
theorem HW.on {K : PySem.W.Frag} {C CB : Addr} {lP : Pos} {lQ : Str} {H0 : Hp} {X : HX} {H H' : Hp} {P L : Nat → Int} {R : Nat → Nat → Int} {z : Addr} {xs : List V} (h : HW K C CB lP lQ H0 X H P L R) (fz : H z = none) (e : Same H H') (hz : H' z = some (.lst xs)) : HW K C CB lP lQ H0 (X.on z xs) H' P L R := by
  have h' := h.same e
  refine ⟨⟨h.hd.n1, h.hd.n2, h.hd.n3, h.hd.f1, h.hd.f2, h.hd.f3, fun y hy => ?_⟩, h'.e0, h'.hc, h'.sh, h'.hn, h'.ro, h'.rw, h'.al, fun y hy => ?_⟩
  · rw [List.mem_singleton.mp hy]
    refine ⟨fun q => ?_, fun q => ?_, fun q => ?_⟩
    · have q' : z = X.A.pu := q
      have := h.hc.pu; rw [← q', fz] at this; cases this
    · have q' : z = X.A.pl := q
      have := h.hc.pl; rw [← q', fz] at this; cases this
    · have q' : z ∈ X.as := q
      obtain ⟨j, _, _, hj⟩ := h.rw.mem q'
      rw [fz] at hj; cases hj
  · rw [List.mem_singleton.mp hy]; exact hz
theorem HW.off {K : PySem.W.Frag} {C CB : Addr} {lP : Pos} {lQ : Str} {H0 : Hp} {X : HX} {H : Hp} {P L : Nat → Int} {R : Nat → Nat → Int} {z : Addr} {xs : List V} (h : HW K C CB lP lQ H0 (X.on z xs) H P L R) (hx : X.zs = []) : HW K C CB lP lQ H0 X H P L R :=
  ⟨⟨h.hd.n1, h.hd.n2, h.hd.n3, h.hd.f1, h.hd.f2, h.hd.f3, fun y hy => by rw [hx] at hy; cases hy⟩, h.e0, h.hc, h.sh, h.hn, h.ro, h.rw, h.al, fun y hy => by rw [hx] at hy; cases hy⟩
noncomputable def TieR (P L S : Nat → Int) (R : Nat → Nat → Int) : Prop := ∀ i, R i 0 = P i ∧ R i 1 = L i ∧ R i 2 = S i
theorem lossF_zero (g : Nat → Int) : ∀ k, lossF k (fun _ => 0) g = 0
  | 0 => rfl
  | k + 1 => by rw [lossF_succ, lossF_zero g k]; omega
theorem needQ_zero {w : Str} {L : Nat → Int} {q : List Nat} {c : Int} (h : ∀ i, L i = 0) : needQ w L q c = 0 := by
  have e : L = fun _ => 0 := funext h
  unfold needQ pos0
  rw [if_neg]
  unfold rawN
  subst e
  have h1 : lsum (fun _ => 0) (q.take c.toNat) = 0 := by rw [lsum_const]; omega
  split
  · rw [h1, Rat.zero_divInt]; decide
  · show ¬ (0 : Rat) < ((0 : Int) : Rat); decide
theorem need_none {m : Int} {F : Nat → Nat → Int} {w : Str} {k : Nat} {q : List Nat} {c : Int} : needQ w (lossH [] m k F) q c = 0 := needQ_zero fun i => lossF_zero (F i) k
section
variable (K : PySem.W.Frag) (C CB : Addr) (lP : Pos) (lQ : Str)
noncomputable def spDoneH (CM CT CP : Addr) : Sp := fun vs H Q E => ∃ (H0 : Hp) (X : HX) (P L : Nat → Int) (R : Nat → Nat → Int) (wd : Str) (m c B : Int), vs = [.ref X.h, .str wd, .int m, .int c] ∧ wd ∈ words4 ∧ HW K C CB lP lQ H0 X H P L R ∧ BdF X.n L B ∧ B ≤ 1000000000000000000000000000000 ∧
  (dK wd X.n P L m c = 0 → ∀ H', Tups H H' → HW K C CB lP lQ H0 X H' (addF P m (pC wd c)) (addF L m (lC wd c)) R → Q .non H') ∧ (dK wd X.n P L m c = 1 → E (.ref CM) none H) ∧ (dK wd X.n P L m c = 2 → E (.ref CT) none H) ∧ (dK wd X.n P L m c = 3 → E (.ref CP) none H)
noncomputable def spFoundH : Sp := fun vs H Q _ => ∃ (H0 : Hp) (X : HX) (P L : Nat → Int) (R : Nat → Nat → Int) (wd : Str) (m c B : Int), vs = [.ref X.h, .str wd, .int m, .int c] ∧ wd ∈ words4 ∧ HW K C CB lP lQ H0 X H P L R ∧ BdF X.n L B ∧ B ≤ 1000000000000000000000000000000 ∧
  ∀ p H', Tups H H' → HW K C CB lP lQ H0 X H' (newP wd X.n P L m c) (newL wd X.n P L m c) R → H' p = some (.tup (outV (dK wd X.n P L m c))) → Q (.ref p) H'
noncomputable def spDueH : Sp := fun vs H Q _ => ∃ (H0 : Hp) (X : HX) (P L : Nat → Int) (R : Nat → Nat → Int) (wd : Str) (m c : Int), vs = [.ref X.ro, .str wd, .int m, .int c] ∧ wd ∈ words4 ∧ HW K C CB lP lQ H0 X H P L R ∧ TieR P L X.S R ∧ X.n ≤ 100 ∧
  ∀ p H', HW K C CB lP lQ H0 X H' P L (rowN (newP wd X.n P L m c) (newL wd X.n P L m c) R) → H' p = some (.tup (outV (dK wd X.n P L m c))) → Q (.ref p) H'
noncomputable def spStandsH : Sp := fun vs H Q _ => ∃ (H0 : Hp) (X : HX) (P L : Nat → Int) (R : Nat → Nat → Int), vs = [.ref X.h, .ref X.ro, .int X.own] ∧ HW K C CB lP lQ H0 X H P L R ∧ TieR P L X.S R ∧ X.n ≤ 100 ∧ ∀ H', Same H H' → Q (.bl true) H'
noncomputable def spTriedH : Sp := fun vs H Q _ => ∃ (H0 : Hp) (X : HX) (P L : Nat → Int) (R : Nat → Nat → Int) (wd : Str) (m c B : Int), vs = [.ref X.h, .ref X.ro, .int X.own, .str wd, .int m, .int c] ∧ wd ∈ words4 ∧ HW K C CB lP lQ H0 X H P L R ∧ TieR P L X.S R ∧ X.n ≤ 100 ∧ BdF X.n L B ∧ B ≤ 1000000000000000000000000000000 ∧
  ∀ H' R', HW K C CB lP lQ H0 X H' (newP wd X.n P L m c) (newL wd X.n P L m c) R' → TieR (newP wd X.n P L m c) (newL wd X.n P L m c) X.S R' → Q (.bl true) H'
end
noncomputable def spNameH (CM CT CP : Addr) : Sp := fun vs H Q _ => ∃ (er C : Addr) (n : Nat), vs = [.ref er] ∧ H er = some (ExcAt er C) ∧ ((C = CM ∧ n = 1) ∨ (C = CT ∧ n = 2) ∨ (C = CP ∧ n = 3)) ∧ ∀ H', Same H H' → Q (.str (wordH n)) H'
noncomputable def spCoinsH (K : PySem.W.Frag) : Sp := fun vs H Q _ => ∃ (a : Addr) (ns : List Int) (k s : Int), vs = [.ref a, .int k, .int s] ∧ SqL K H a (ns.map V.int) ∧ 0 ≤ k ∧ k ≤ 5000 ∧ 0 ≤ s ∧ ∀ x, Q (.int x) H
theorem spCoinsH_i {K : PySem.W.Frag} {a : Addr} {ns : List Int} {k s : Int} {H : Hp} {Q : VK} {E : XK} (hS : SqL K H a (ns.map V.int)) (h0 : 0 ≤ k) (h1 : k ≤ 5000) (s0 : 0 ≤ s) (q : ∀ x, Q (.int x) H) : spCoinsH K [.ref a, .int k, .int s] H Q E := ⟨a, ns, k, s, rfl, hS, h0, h1, s0, q⟩
noncomputable def spMemberH (K : PySem.W.Frag) : Sp := fun vs H Q _ => ∃ (a : Addr) (ns : List Int) (k s : Int), vs = [.ref a, .int k, .int s] ∧ SqL K H a (ns.map V.int) ∧ 0 ≤ k ∧ k ≤ 5000 ∧ 1 ≤ s ∧ s ≤ 1000 ∧ ∀ x, Q (.int x) H
theorem spMemberH_i {K : PySem.W.Frag} {a : Addr} {ns : List Int} {k s : Int} {H : Hp} {Q : VK} {E : XK} (hS : SqL K H a (ns.map V.int)) (h0 : 0 ≤ k) (h1 : k ≤ 5000) (s0 : 1 ≤ s) (s1 : s ≤ 1000) (q : ∀ x, Q (.int x) H) : spMemberH K [.ref a, .int k, .int s] H Q E := ⟨a, ns, k, s, rfl, hS, h0, h1, s0, s1, q⟩
theorem wordH_lay (n : Nat) : PyData.canLay0 (.str (wordH n)) = true := by
  unfold wordH
  split
  · decide +kernel
  · split <;> decide +kernel
theorem x_eqOut {K : PySem.W.Frag} {H : Hp} {Q : VK} {a b : Addr} {n : Nat} (h1 : H a = some (.tup (outV n))) (h2 : H b = some (.tup (outV n))) (q : Q (.bl true) H) : rEqU K (.ref a) (.ref b) H Q := by
  unfold outV at h1 h2
  by_cases hn : n = 0
  · rw [if_pos hn] at h1 h2
    have rep : RepAll K H [.str "told", .non] [.str "told", .none] := .cons (.str _ (by decide +kernel)) (.cons .non .nil)
    refine x_eqD (.tup (.of h1) rep) (.tup (.of h2) rep) (by simp [PyData.depth, PyData.depthAll]) ?_
    rw [PySem.SeqAt.eqv_refl _ (by rw [PyData.canLay0]; exact rep.lay)]
    exact q
  · rw [if_neg hn] at h1 h2
    have rep : RepAll K H [.str "refused", .str (wordH n)] [.str "refused", .str (wordH n)] := .cons (.str _ (by decide +kernel)) (.cons (.str _ (wordH_lay n)) .nil)
    refine x_eqD (.tup (.of h1) rep) (.tup (.of h2) rep) (by simp [PyData.depth, PyData.depthAll]) ?_
    rw [PySem.SeqAt.eqv_refl _ (by rw [PyData.canLay0]; exact rep.lay)]
    exact q
theorem sum3 (P L S : Nat → Int) : ∀ n, sumI (vec n P) + sumI (vec n L) + sumI (vec n S) = sumI (vec n fun i => P i + L i + S i)
  | 0 => rfl
  | n + 1 => by
    rw [vec_succ, vec_succ, vec_succ, vec_succ, sumI_snoc, sumI_snoc, sumI_snoc, sumI_snoc, ← sum3 P L S n]
    omega
noncomputable def val4 (wd : Str) (v1 v2 v3 v4 : V) : V := if wd = "put" then v1 else if wd = "take" then v2 else if wd = "lay" then v3 else v4
theorem x_disp4 {σ : St} {H : Hp} {Q : VK} {t1 t2 t3 t4 : TE} {i : Nat} {wd : Str} {v1 v2 v3 v4 : V} (h1 : ∀ H Q, Q v1 H → t1 σ H Q) (h2 : ∀ H Q, Q v2 H → t2 σ H Q) (h3 : ∀ H Q, Q v3 H → t3 σ H Q) (h4 : ∀ H Q, Q v4 H → t4 σ H Q) (hi : ∀ H Q, Q (.str wd) H → tVar i σ H Q) (hw : wd ∈ words4) (q : ∀ H', Same H H' → Q (val4 wd v1 v2 v3 v4) H') :
    tDGet (tDisp [(tC (.str "put"), t1), (tC (.str "take"), t2), (tC (.str "lay"), t3), (tC (.str "free"), t4)]) (tVar i) σ H Q := by
  intro p fp
  refine h1 _ _ (h2 _ _ (h3 _ _ (h4 _ _ ?_)))
  refine ⟨upd_same, [(.inr "put", v1), (.inr "take", v2), (.inr "lay", v3), (.inr "free", v4)], rfl, by show 4 ≤ 15; decide, ?_⟩
  refine hi _ _ ?_
  refine ⟨p, val4 wd v1 v2 v3 v4, rfl, .inl ⟨_, .inr wd, .inl upd_same, rfl, ?_⟩, q _ fun e o z => by rw [upd_ne (ne_of_none z fp), upd_ne (ne_of_none z fp)]; exact z⟩
  simp only [words4, List.mem_cons, List.not_mem_nil, or_false] at hw
  rcases hw with rfl | rfl | rfl | rfl
  · rfl
  · rfl
  · rfl
  · rfl
theorem val4_p {wd : Str} {c : Int} (hw : wd ∈ words4) : val4 wd (.int c) (.int (0 - c)) (.int (0 - c)) (.int c) = .int (pC wd c) := by
  simp only [words4, List.mem_cons, List.not_mem_nil, or_false] at hw
  rcases hw with rfl | rfl | rfl | rfl
  · rfl
  · show V.int (0 - c) = .int (-c); rw [Int.zero_sub]
  · show V.int (0 - c) = .int (-c); rw [Int.zero_sub]
  · rfl
theorem val4_l {wd : Str} {c : Int} (hw : wd ∈ words4) : val4 wd (.int 0) (.int 0) (.int c) (.int (0 - c)) = .int (lC wd c) := by
  simp only [words4, List.mem_cons, List.not_mem_nil, or_false] at hw
  rcases hw with rfl | rfl | rfl | rfl
  · rfl
  · rfl
  · rfl
  · show V.int (0 - c) = .int (-c); rw [Int.zero_sub]
theorem row_done {P L S : Nat → Int} {R R' : Nat → Nat → Int} {m x y : Int} (hT : TieR P L S R) (h0 : R' m.toNat 0 = R m.toNat 0 + x) (h1 : R' m.toNat 1 = R m.toNat 1 + y) (h2 : R' m.toNat 2 = R m.toNat 2) (hn : ∀ i, i ≠ m.toNat → R' i = R i) (i j : Nat) (hj : j < 3) : R' i j = rowN (addF P m x) (addF L m y) R i j := by
  obtain ⟨t0, t1, t2⟩ := hT i
  unfold rowN addF
  by_cases hi : i = m.toNat
  · subst hi
    rw [if_pos rfl, if_pos rfl, ← t0, ← t1]
    obtain rfl | rfl | rfl : j = 0 ∨ j = 1 ∨ j = 2 := by omega
    · exact h0
    · exact h1
    · exact h2
  · rw [if_neg hi, if_neg hi, hn i hi, ← t0, ← t1]
    obtain rfl | rfl | rfl : j = 0 ∨ j = 1 ∨ j = 2 := by omega
    · rfl
    · rfl
    · rfl
theorem HW.done {K : PySem.W.Frag} {C CB : Addr} {lP : Pos} {lQ : Str} {H0 : Hp} {X : HX} {H : Hp} {P L : Nat → Int} {R R' : Nat → Nat → Int} {m x y : Int} (h : HW K C CB lP lQ H0 X H P L R') (hT : TieR P L X.S R) (h0 : R' m.toNat 0 = R m.toNat 0 + x) (h1 : R' m.toNat 1 = R m.toNat 1 + y) (h2 : R' m.toNat 2 = R m.toNat 2) (hn : ∀ i, i ≠ m.toNat → R' i = R i) : HW K C CB lP lQ H0 X H P L (rowN (addF P m x) (addF L m y) R) :=
  h.congr fun i _ j hj => row_done hT h0 h1 h2 hn i j hj
theorem apart {re ou d bk od ru mr mv sh pl pu : Addr} (nd : ([re, ou, d, bk, od, ru] ++ ([mr] ++ [mv, sh, pl, pu]) : List Addr).Nodup) : pu ≠ pl ∧ ∀ x ∈ [sh, d, mv, mr], x ≠ pu ∧ x ≠ pl := by
  simp only [List.cons_append, List.nil_append, List.nodup_cons, List.mem_cons, List.not_mem_nil, or_false, not_or] at nd
  obtain ⟨_, _, hd, _, _, _, hmr, hmv, hsh, hpl, _⟩ := nd
  refine ⟨fun z => hpl z.symm, fun x hx => ?_⟩
  simp only [List.mem_cons, List.not_mem_nil, or_false] at hx
  rcases hx with rfl | rfl | rfl | rfl
  · exact ⟨hsh.2, hsh.1⟩
  · obtain ⟨_, _, _, _, _, _, h1, h2⟩ := hd
    exact ⟨h2, h1⟩
  · exact ⟨hmv.2.2, hmv.2.1⟩
  · exact ⟨hmr.2.2.2, hmr.2.2.1⟩
theorem BdF.mono {n : Nat} {f : Nat → Int} {B B' : Int} (h : BdF n f B) (hb : B ≤ B') : BdF n f B' := fun i hi => by have := h i hi; omega
end Internal

set_option Elab.async false
set_option linter.all false
set_option maxRecDepth 100000
set_option maxHeartbeats 4000000
namespace Internal.K
open PySem Internal
local macro_rules | `(tactic| walk_at "z") => `(tactic| first
  | assumption
  | exact sz200 (by omega) (by omega)
  | exact szL (by decide) (by omega) (by omega)
  | ((with_reducible apply Nat.le_trans (m := _)); (focus assumption); omega))
local macro_rules | `(tactic| walk_at "h") => `(tactic| first
  | assumption
  | (with_reducible exact Same.refl _)
  | ((with_reducible apply Same.isQ); (focus assumption); walk_at "h")
  | ((with_reducible apply Same.at); (focus assumption); walk_at "h")
  | ((with_reducible apply LBut.tup); (focus assumption); walk_at "h")
  | ((with_reducible apply LBut.lst); (focus assumption); (focus walk_at "h"); walk_at "h")
  | ((with_reducible apply SqL.keep); (focus (show SqL _ _ _ _; assumption)); walk_at "h")
  | ((with_reducible apply SqL.of); walk_at "h")
  | ((with_reducible apply Same.after); (focus assumption); walk_at "h")
  | ((with_reducible apply LBut.same); (focus assumption); (focus walk_at "h"); walk_at "h")
  | ((with_reducible apply Same.none); (focus assumption); walk_at "h")
  | ((with_reducible apply TbW.same); (focus assumption); walk_at "h")
  | ((with_reducible apply TbW.but); (focus assumption); walk_at "h")
  | ((with_reducible apply SameT.lst); (focus assumption); walk_at "h")
  | ((with_reducible apply SameT.tup); (focus assumption); walk_at "h")
  | ((with_reducible apply SameT.ins); (focus assumption); walk_at "h")
  | ((with_reducible apply SameT.seq); (focus assumption); walk_at "h")
  | ((with_reducible apply SameT.rows); (focus assumption); walk_at "h")
  | ((with_reducible apply LBut.isTs); (focus assumption); walk_at "h")
  | ((with_reducible apply Same.rows); (focus assumption); walk_at "h")
  | ((with_reducible apply LBut.ins); (focus assumption); walk_at "h")
  | ((with_reducible apply ne_new'); (focus assumption); walk_at "h"))
local macro_rules | `(tactic| walk_at "x1") => `(tactic| first
  | ((with_reducible apply x_var); (focus (exact rfl)))
  | (with_reducible (first
      | apply x_bl
      | apply x_truB
      | apply x_eqI
      | apply x_neI
      | apply x_add
      | apply x_i0
      | apply x_neg
      | apply x_call
      | apply x_abs
      | apply x_max
      | apply x_min
      | apply x_andV
      | apply x_chain
      | apply x_iteT
      | apply x_iteF
      | apply x_iteNT
      | apply x_iteNF))
  | (with_reducible refine x_iteY (by assumption) ?_)
  | (with_reducible refine x_iteZ (by assumption) ?_)
  | (with_reducible refine x_ite (fun _ => ?_) (fun _ => ?_))
  | (with_reducible refine x_iteN (fun _ => ?_) (fun _ => ?_))
  | (with_reducible (first
      | apply x_tup
      | apply x_lst))
  | ((with_reducible show rIx _ (V.ref _) (V.int _) _ _); first
      | refine x_ixTs (by assumption) (by rfl) ?_
      | refine x_ixVec (by assumption) (by omega) (by omega) ?_
      | refine x_ixRow (by assumption) (by omega) (by assumption) ?_
      | refine x_ixTs (by walk_at "h") (by rfl) ?_
      | refine x_ixVec (by walk_at "h") (by omega) (by omega) ?_
      | refine x_ixLs (by walk_at "h") (by assumption) ?_
      | refine x_ixL (by walk_at "h") (by assumption) ?_
      | refine x_ixLs (by walk_at "h") (by rfl) ?_)
  | ((with_reducible show rIsiU _ [V.int _, _] _ _); refine x_isU ?_)
  | ((with_reducible show rIsiU _ [V.bl _, _] _ _); refine x_isU ?_)
  | (with_reducible (first
      | apply x_isII
      | apply x_isIB))
  | ((with_reducible show rIsiU _ [V.ref _, V.ty "tuple"] _ _); refine x_isU ?_; first | refine IsQ.isT (by walk_at "h") ?_ | refine x_isTT (by walk_at "h") ?_ | refine x_isLT (by walk_at "h") ?_)
  | ((with_reducible show rIsiU _ [V.ref _, V.ty "list"] _ _); refine x_isU ?_; first | refine x_isLL (by walk_at "h") ?_ | refine x_isTL (by walk_at "h") ?_)
  | ((with_reducible show rIsiU _ [V.ref _, V.ref _] _ _); refine x_isE (by walk_at "h") (by assumption) rfl (by assumption) ?_)
  | ((with_reducible show rIsiU _ [V.ref _, V.ty "ValueError"] _ _); refine x_isE (by walk_at "h") (by assumption) rfl (by assumption) ?_)
  | (with_reducible refine x_catch (by assumption) (fun _ _ _ _ _ => ?_))
  | ((with_reducible show rTup _ [] _); refine x_tupN (by first | decide | simp) (fun _ _ _ _ _ => ?_))
  | ((with_reducible show rTup _ [_] _); refine x_tupN (by first | decide | simp) (fun _ _ _ _ _ => ?_))
  | ((with_reducible show rTup _ (_ :: _ :: _ :: _) _); refine x_tupN (by first | decide | simp) (fun _ _ _ _ _ => ?_))
  | (with_reducible (first
      | apply x_raise
      | apply x_tryG
      | apply x_callR))
  | ((with_reducible show rLen _ [V.ref _] _ _); first | refine IsQ.len (by walk_at "h") ?_ | refine x_lenL (by walk_at "h") ?_ | refine x_lenT' (by walk_at "h") ?_)
  | (with_reducible (first
      | apply spDiv_i
      | apply x_for
      | apply x_comp
      | apply x_augS
      | apply x_ip
      | apply x_gNil
      | apply x_gCons))
  | ((with_reducible show gTup _ _ _ (V.ref _) _ _ _); refine x_gTup (by assumption) rfl ?_)
  | ((with_reducible show rIxL _ (V.ref _) (V.int _) _ _); first
      | refine x_getVec (by walk_at "h") (by omega) (by omega) ?_
      | refine x_getL (by walk_at "h") (by assumption) ?_)
  | ((with_reducible show rSetL (V.ref _) (V.int _) (V.int _) _ _); refine x_setVec (by walk_at "h") (by omega) (by omega) (fun _ _ _ => ?_))
  | ((with_reducible show rMulU (V.ref _) (V.int _) _ _); first | refine x_repVec (by walk_at "h") (by omega) (by omega) (fun _ _ _ _ _ => ?_) | refine x_repOpt (by walk_at "h") (by omega) (by omega) (fun _ _ _ _ _ => ?_) | refine x_repBl (by walk_at "h") (by omega) (by omega) (fun _ _ _ _ _ => ?_))
  | ((with_reducible show rRange [V.int _] _ _); refine x_rangeN (fun _ _ _ _ _ => ?_))
  | ((with_reducible show spLosses _ _ _ _ _); refine spLosses_i (by walk_at "h") (by walk_at "h") (by walk_at "h") (by assumption) (by assumption) (by assumption) (by omega) (by omega) (fun _ _ _ _ _ => ?_))
  | ((with_reducible show spWorst _ _ _ _ _ _ _); refine spWorst_i (by walk_at "h") (by walk_at "h") (by walk_at "h") (by assumption) (by assumption) (by assumption) (by omega) (by omega) (by omega) (by omega) (by walk_at "h") (fun _ _ _ _ _ _ _ _ => ?_))
  | (with_reducible (first
      | apply x_fld
      | apply x_sfld
      | apply x_meth
      | apply x_make
      | apply x_eqS
      | apply x_neS))
  | ((with_reducible show rFld _ _ _ (V.ref _) _); refine x_fldk (by walk_at "h") (by assumption) (by assumption) (by with_reducible first | exact bfl_many | exact bfl_wares | exact bfl_day | exact bfl_deals) ?_)
  | ((with_reducible show rMeth _ _ _ _ _ _ _ (V.ref _) _); refine x_methk (by walk_at "h") (bfl_no (by decide +kernel) (by decide +kernel) (by decide +kernel) (by decide +kernel)) ?_)
  | ((with_reducible show rFld _ _ _ (V.ref _) _); refine x_fldk (by walk_at "h") (by assumption) (by assumption) (by with_reducible first | exact hfl_purses | exact hfl_pledges | exact hfl_shares | exact hfl_kept | exact hfl_moves | exact hfl_rule | exact hfl_order | exact hfl_book | exact hfl_outs | exact hfl_reports) ?_)
  | ((with_reducible show rMeth _ _ _ _ _ _ _ (V.ref _) _); refine x_methk (by walk_at "h") (hfl_no (by decide +kernel)) ?_)
  | ((with_reducible show spToday _ _ _ _ _); refine ⟨_, _, _, _, _, _, rfl, (by walk_at "h"), ?_⟩)
  | ((with_reducible show spCoinsH _ _ _ _ _); refine spCoinsH_i (by walk_at "h") (by omega) (by omega) (by omega) (fun _ => ?_))
  | ((with_reducible show spMemberH _ _ _ _ _); refine spMemberH_i (by walk_at "h") (by omega) (by omega) (by omega) (by omega) (fun _ => ?_))
  | ((with_reducible show spHPurse _ _ _ _ _); refine ⟨_, _, _, _, _, _, _, rfl, (by walk_at "h"), (by walk_at "h"), (by omega), (by omega), ?_⟩)
  | ((with_reducible show spHPledge _ _ _ _ _); refine ⟨_, _, _, _, _, _, _, rfl, (by walk_at "h"), (by walk_at "h"), (by omega), (by omega), ?_⟩)
  | ((with_reducible show spHShare _ _ _ _ _); refine ⟨_, _, _, _, _, _, _, rfl, (by walk_at "h"), (by walk_at "h"), (by omega), (by omega), ?_⟩)
  | ((with_reducible show spHOwn _ _ _ _ _); refine ⟨_, _, _, _, rfl, (by walk_at "h"), ?_⟩)
  | ((with_reducible show spHCoins _ _ _ _ _); refine ⟨_, _, _, _, _, _, _, rfl, (by walk_at "h"), (by walk_at "h"), (by walk_at "h"), (by walk_at "h"), ?_⟩)
  | ((with_reducible show rSum _ [V.ref _] _ _); refine x_sum (by walk_at "h") ?_)
  | ((with_reducible show rRng1 _ [V.int _] _); refine x_rngk1 (by omega) (by omega) ?_)
  | ((with_reducible show rItL _ _ (V.ref _) _); refine x_itk (by walk_at "h") ?_)
  | ((with_reducible show rEnum _ _ [V.ref _] _); refine x_enumk (by walk_at "h") ?_)
  | ((with_reducible show rZip _ _ [V.ref _, V.ref _] _); refine x_zipk (by walk_at "h") (by walk_at "h") ?_)
  | ((with_reducible show spCellM _ _ _ _ _); refine spCellM_i (by walk_at "h") (by omega) (fun _ => ?_))
  | ((with_reducible show spDrawM _ _ _ _ _); refine spDrawM_i (by walk_at "h") (by omega) (by omega) (by omega) (fun _ _ _ => ?_))
  | ((with_reducible show spGreatM _ _ _ _ _); refine spGreatM_i (by walk_at "h") (by omega) (by omega) (by omega) (by omega) (fun _ _ _ => ?_))
  | ((with_reducible show spAmountM _ _ _ _ _); refine spAmountM_i (by walk_at "h") (by omega) (by omega) (by omega) (by omega) (fun _ _ _ => ?_))
  | ((with_reducible show rNeU _ (V.ref _) (V.ref _) _ _); first | refine x_neInts (by walk_at "h") (by walk_at "h") rfl ?_ | refine x_neRows (by walk_at "h") (by walk_at "h") (by walk_at "h") (by walk_at "h") (by omega) (fun _ _ _ _ => rfl) ?_ | refine x_neSh (by walk_at "h") (by walk_at "h") rfl ?_ | refine x_neQs (by walk_at "h") (by walk_at "h") (by walk_at "h") (by walk_at "h") ?_)
  | (with_reducible (first
      | apply x_rng1
      | apply x_itL
      | apply x_bm
      | apply x_part
      | apply x_partI))
  | ((with_reducible show tyV _ "list" (V.ref _) _ ∧ _); refine x_tyL (by walk_at "h") ?_)
  | ((with_reducible show rAppend (V.ref _) [_] _ _); refine x_appN (by walk_at "h") (by omega) (fun _ _ _ => ?_))
  | ((with_reducible show NewQ _ _ _); intro _ _ _ _)
  | ((with_reducible show rLst _ _ _); refine x_lstN (by first | decide | simp) (fun _ _ _ _ _ => ?_))
  | ((with_reducible show rListOf _ _ _ _); refine x_listOfN (by walk_at "h") (fun _ _ _ _ _ => ?_))
  | ((with_reducible show rSlL _ _ _ _ _ _); refine x_cutN (by walk_at "h") (fun _ _ _ _ _ => ?_))
  | ((with_reducible show spUnder _ _ _ _ _); refine spUnder_i (by walk_at "h") (by walk_at "h") (by walk_at "h") (by walk_at "h") ?_)
  | ((with_reducible show rModU _ _ _ _); refine x_mod (by first | decide | omega) ?_)
  | ((with_reducible show rMulU _ _ _ _); refine x_mul (by first | assumption | (apply CMulS.of; (focus walk_at "z"); (focus walk_at "z"); first | decide | omega)) ?_)
  | ((with_reducible show rDivU _ _ _ _); refine x_div (by first | walk_at "h" | decide) (by first | walk_at "h" | exact szL (by decide) (by decide) (by decide)) ?_)
  | ((with_reducible show rI CPow _ _ _ _ _); refine x_pow ⟨by decide, by decide, by decide⟩ rfl ?_; (try simp only [Int.reduceToNat, Int.reducePow]))
  | ((with_reducible show Ends.nx _ _ _); dsimp only [List.set, Ends.gone]))
local macro_rules | `(tactic| walk_at "x") => `(tactic| repeat' (walk_at "x1"))

noncomputable def top (i : Nat) : Stmt := PySem.Challenge.pw_quits_k77_coins_moved.main.body.getD i (.Pass ⟨0, 0, 0, 0⟩)
noncomputable abbrev s_Book___init__ : Stmt := inClass (top 23) 0
noncomputable abbrev s_Book_today : Stmt := inClass (top 23) 12
noncomputable abbrev s_Book_position : Stmt := inClass (top 23) 18
noncomputable abbrev s_House___init__ : Stmt := inClass (top 101) 0
noncomputable abbrev s_House_put : Stmt := inClass (top 101) 1
noncomputable abbrev s_House_take : Stmt := inClass (top 101) 2
noncomputable abbrev s_House_lay : Stmt := inClass (top 101) 3
noncomputable abbrev s_House_free : Stmt := inClass (top 101) 4
noncomputable abbrev s_House_check_coins : Stmt := inClass (top 101) 5
noncomputable abbrev s_House_purse : Stmt := inClass (top 101) 14
noncomputable abbrev s_House_pledge : Stmt := inClass (top 101) 15
noncomputable abbrev s_House_share : Stmt := inClass (top 101) 16
noncomputable abbrev s_House_own : Stmt := inClass (top 101) 17
noncomputable abbrev s_House_coins : Stmt := inClass (top 101) 18
noncomputable abbrev s_House_need : Stmt := inClass (top 101) 19
noncomputable abbrev s_House_today : Stmt := inClass (top 101) 22
noncomputable abbrev s_check_order : Stmt := top 40
noncomputable abbrev s_divisor : Stmt := top 45
noncomputable abbrev s_part : Stmt := top 47
noncomputable abbrev s_under : Stmt := top 52
noncomputable abbrev s_losses_of : Stmt := top 57
noncomputable abbrev s_worst_days : Stmt := top 58
noncomputable abbrev s_need_of : Stmt := top 60
noncomputable abbrev s_check_rule : Stmt := top 61
noncomputable abbrev s_check_enough : Stmt := top 102
noncomputable abbrev s_check_covered : Stmt := top 103
noncomputable abbrev s__law_cell : Stmt := top 106
noncomputable abbrev s__law_draw : Stmt := top 107
noncomputable abbrev s__law_great : Stmt := top 108
noncomputable abbrev s__law_amount : Stmt := top 109
noncomputable abbrev s__law_coins : Stmt := top 110
noncomputable abbrev s__law_member : Stmt := top 111
noncomputable abbrev s__law_name : Stmt := top 112
noncomputable abbrev s__law_done : Stmt := top 113
noncomputable abbrev s__law_found : Stmt := top 114
noncomputable abbrev s__law_due : Stmt := top 115
noncomputable abbrev s__law_stands : Stmt := top 116
noncomputable abbrev s__law_tried : Stmt := top 117
noncomputable abbrev s_law : Stmt := top 118
theorem sc_Book___init__ : FnScope ["self", "many", "wares"] ["self", "many", "wares"] (defScope s_Book___init__) := ⟨rfl, rfl, rfl, by decide +kernel, rfl, by decide +kernel, by decide +kernel⟩
theorem sc_Book_today : FnScope ["self"] ["self"] (defScope s_Book_today) := ⟨rfl, rfl, rfl, by decide +kernel, rfl, by decide +kernel, by decide +kernel⟩
theorem sc_Book_position : FnScope ["self", "member", "made", "one"] ["self", "member"] (defScope s_Book_position) := ⟨rfl, rfl, rfl, by decide +kernel, rfl, by decide +kernel, by decide +kernel⟩
theorem sc_House___init__ : FnScope ["self", "members", "moves", "rule", "order", "own"] ["self", "members", "moves", "rule", "order", "own"] (defScope s_House___init__) := ⟨rfl, rfl, rfl, by decide +kernel, rfl, by decide +kernel, by decide +kernel⟩
theorem sc_House_put : FnScope ["self", "member", "coins"] ["self", "member", "coins"] (defScope s_House_put) := ⟨rfl, rfl, rfl, by decide +kernel, rfl, by decide +kernel, by decide +kernel⟩
theorem sc_House_take : FnScope ["self", "member", "coins"] ["self", "member", "coins"] (defScope s_House_take) := ⟨rfl, rfl, rfl, by decide +kernel, rfl, by decide +kernel, by decide +kernel⟩
theorem sc_House_lay : FnScope ["self", "member", "coins"] ["self", "member", "coins"] (defScope s_House_lay) := ⟨rfl, rfl, rfl, by decide +kernel, rfl, by decide +kernel, by decide +kernel⟩
theorem sc_House_free : FnScope ["self", "member", "coins"] ["self", "member", "coins"] (defScope s_House_free) := ⟨rfl, rfl, rfl, by decide +kernel, rfl, by decide +kernel, by decide +kernel⟩
theorem sc_House_check_coins : FnScope ["self", "member", "coins"] ["self", "member", "coins"] (defScope s_House_check_coins) := ⟨rfl, rfl, rfl, by decide +kernel, rfl, by decide +kernel, by decide +kernel⟩
theorem sc_House_purse : FnScope ["self", "member"] ["self", "member"] (defScope s_House_purse) := ⟨rfl, rfl, rfl, by decide +kernel, rfl, by decide +kernel, by decide +kernel⟩
theorem sc_House_pledge : FnScope ["self", "member"] ["self", "member"] (defScope s_House_pledge) := ⟨rfl, rfl, rfl, by decide +kernel, rfl, by decide +kernel, by decide +kernel⟩
theorem sc_House_share : FnScope ["self", "member"] ["self", "member"] (defScope s_House_share) := ⟨rfl, rfl, rfl, by decide +kernel, rfl, by decide +kernel, by decide +kernel⟩
theorem sc_House_own : FnScope ["self"] ["self"] (defScope s_House_own) := ⟨rfl, rfl, rfl, by decide +kernel, rfl, by decide +kernel, by decide +kernel⟩
theorem sc_House_coins : FnScope ["self"] ["self"] (defScope s_House_coins) := ⟨rfl, rfl, rfl, by decide +kernel, rfl, by decide +kernel, by decide +kernel⟩
theorem sc_House_need : FnScope ["self", "member"] ["self", "member"] (defScope s_House_need) := ⟨rfl, rfl, rfl, by decide +kernel, rfl, by decide +kernel, by decide +kernel⟩
theorem sc_House_today : FnScope ["self"] ["self"] (defScope s_House_today) := ⟨rfl, rfl, rfl, by decide +kernel, rfl, by decide +kernel, by decide +kernel⟩
theorem sc_check_order : FnScope ["order", "place", "word"] ["order"] (defScope s_check_order) := ⟨rfl, rfl, rfl, by decide +kernel, rfl, by decide +kernel, by decide +kernel⟩
theorem sc_divisor : FnScope ["one", "other", "kept", "rest", "further"] ["one", "other"] (defScope s_divisor) := ⟨rfl, rfl, rfl, by decide +kernel, rfl, by decide +kernel, by decide +kernel⟩
theorem sc_part : FnScope ["top", "bottom", "common"] ["top", "bottom"] (defScope s_part) := ⟨rfl, rfl, rfl, by decide +kernel, rfl, by decide +kernel, by decide +kernel⟩
theorem sc_under : FnScope ["one", "other"] ["one", "other"] (defScope s_under) := ⟨rfl, rfl, rfl, by decide +kernel, rfl, by decide +kernel, by decide +kernel⟩
theorem sc_losses_of : FnScope ["position", "moves"] ["position", "moves"] (defScope s_losses_of) := ⟨rfl, rfl, rfl, by decide +kernel, rfl, by decide +kernel, by decide +kernel⟩
theorem sc_worst_days : FnScope ["position", "moves", "k", "losses"] ["position", "moves", "k"] (defScope s_worst_days) := ⟨rfl, rfl, rfl, by decide +kernel, rfl, by decide +kernel, by decide +kernel⟩
theorem sc_need_of : FnScope ["rule", "position", "moves", "losses", "worst", "need"] ["rule", "position", "moves"] (defScope s_need_of) := ⟨rfl, rfl, rfl, by decide +kernel, rfl, by decide +kernel, by decide +kernel⟩
theorem sc_check_rule : FnScope ["rule", "moves"] ["rule", "moves"] (defScope s_check_rule) := ⟨rfl, rfl, rfl, by decide +kernel, rfl, by decide +kernel, by decide +kernel⟩
theorem sc_check_enough : FnScope ["coins", "wanted"] ["coins", "wanted"] (defScope s_check_enough) := ⟨rfl, rfl, rfl, by decide +kernel, rfl, by decide +kernel, by decide +kernel⟩
theorem sc_check_covered : FnScope ["pledge", "need"] ["pledge", "need"] (defScope s_check_covered) := ⟨rfl, rfl, rfl, by decide +kernel, rfl, by decide +kernel, by decide +kernel⟩
theorem sc__law_cell : FnScope ["_law_script", "_law_k"] ["_law_script", "_law_k"] (defScope s__law_cell) := ⟨rfl, rfl, rfl, by decide +kernel, rfl, by decide +kernel, by decide +kernel⟩
theorem sc__law_draw : FnScope ["_law_script", "_law_k", "_law_many"] ["_law_script", "_law_k", "_law_many"] (defScope s__law_draw) := ⟨rfl, rfl, rfl, by decide +kernel, rfl, by decide +kernel, by decide +kernel⟩
theorem sc__law_great : FnScope ["_law_script", "_law_k", "_law_many"] ["_law_script", "_law_k", "_law_many"] (defScope s__law_great) := ⟨rfl, rfl, rfl, by decide +kernel, rfl, by decide +kernel, by decide +kernel⟩
theorem sc__law_amount : FnScope ["_law_script", "_law_k", "_law_most", "_law_way"] ["_law_script", "_law_k", "_law_most"] (defScope s__law_amount) := ⟨rfl, rfl, rfl, by decide +kernel, rfl, by decide +kernel, by decide +kernel⟩
theorem sc__law_coins : FnScope ["_law_script", "_law_k", "_law_stock", "_law_way"] ["_law_script", "_law_k", "_law_stock"] (defScope s__law_coins) := ⟨rfl, rfl, rfl, by decide +kernel, rfl, by decide +kernel, by decide +kernel⟩
theorem sc__law_member : FnScope ["_law_script", "_law_k", "_law_many", "_law_way"] ["_law_script", "_law_k", "_law_many"] (defScope s__law_member) := ⟨rfl, rfl, rfl, by decide +kernel, rfl, by decide +kernel, by decide +kernel⟩
theorem sc__law_name : FnScope ["_law_e", "_law_found_here"] ["_law_e"] (defScope s__law_name) := ⟨rfl, rfl, rfl, by decide +kernel, rfl, by decide +kernel, by decide +kernel⟩
theorem sc__law_done : FnScope ["_law_house", "_law_word", "_law_member_here", "_law_coins_here"] ["_law_house", "_law_word", "_law_member_here", "_law_coins_here"] (defScope s__law_done) := ⟨rfl, rfl, rfl, by decide +kernel, rfl, by decide +kernel, by decide +kernel⟩
theorem sc__law_found : FnScope ["_law_house", "_law_word", "_law_member_here", "_law_coins_here", "_law_found_here", "_law_e"] ["_law_house", "_law_word", "_law_member_here", "_law_coins_here"] (defScope s__law_found) := ⟨rfl, rfl, rfl, by decide +kernel, rfl, by decide +kernel, by decide +kernel⟩
theorem sc__law_due : FnScope ["_law_rows", "_law_word", "_law_member_here", "_law_coins_here", "_law_row"] ["_law_rows", "_law_word", "_law_member_here", "_law_coins_here"] (defScope s__law_due) := ⟨rfl, rfl, rfl, by decide +kernel, rfl, by decide +kernel, by decide +kernel⟩
theorem sc__law_stands : FnScope ["_law_house", "_law_rows", "_law_own", "_law_k", "_law_told", "_law_one"] ["_law_house", "_law_rows", "_law_own"] (defScope s__law_stands) := ⟨rfl, rfl, rfl, by decide +kernel, rfl, by decide +kernel, by decide +kernel⟩
theorem sc__law_tried : FnScope ["_law_house", "_law_rows", "_law_own", "_law_word", "_law_member_here", "_law_coins_here", "_law_due_here"] ["_law_house", "_law_rows", "_law_own", "_law_word", "_law_member_here", "_law_coins_here"] (defScope s__law_tried) := ⟨rfl, rfl, rfl, by decide +kernel, rfl, by decide +kernel, by decide +kernel⟩
theorem sc_law : FnScope ["_law_script", "_law_rows", "_law_k", "_law_purse", "_law_pledge", "_law_own", "_law_house", "_law_at", "_law_word", "_law_member_here", "_law_stock", "_law_coins_here", "_law_ahead"] ["_law_script"] (defScope s_law) := ⟨rfl, rfl, rfl, by decide +kernel, rfl, by decide +kernel, by decide +kernel⟩
theorem lenZ {α : Type} {us : List α} (h : us.length = 0) : us = [] := List.eq_nil_of_length_eq_zero h
theorem lenS {α : Type} {us : List α} {n : Nat} (h : us.length = n + 1) : ∃ a vs, us = a :: vs ∧ vs.length = n := by
  cases us with
  | nil => cases h
  | cons a vs => exact ⟨a, vs, rfl, Nat.succ.inj h⟩
theorem len1 {α : Type} {us : List α} (h : us.length = 1) : ∃ a0, us = [a0] := by
  obtain ⟨a0, us0, rfl, h0⟩ := lenS h
  obtain rfl := lenZ h0
  exact ⟨a0, rfl⟩
theorem len2 {α : Type} {us : List α} (h : us.length = 2) : ∃ a0 a1, us = [a0, a1] := by
  obtain ⟨a0, us0, rfl, h0⟩ := lenS h
  obtain ⟨a1, us1, rfl, h1⟩ := lenS h0
  obtain rfl := lenZ h1
  exact ⟨a0, a1, rfl⟩
theorem len3 {α : Type} {us : List α} (h : us.length = 3) : ∃ a0 a1 a2, us = [a0, a1, a2] := by
  obtain ⟨a0, us0, rfl, h0⟩ := lenS h
  obtain ⟨a1, us1, rfl, h1⟩ := lenS h0
  obtain ⟨a2, us2, rfl, h2⟩ := lenS h1
  obtain rfl := lenZ h2
  exact ⟨a0, a1, a2, rfl⟩
theorem len4 {α : Type} {us : List α} (h : us.length = 4) : ∃ a0 a1 a2 a3, us = [a0, a1, a2, a3] := by
  obtain ⟨a0, us0, rfl, h0⟩ := lenS h
  obtain ⟨a1, us1, rfl, h1⟩ := lenS h0
  obtain ⟨a2, us2, rfl, h2⟩ := lenS h1
  obtain ⟨a3, us3, rfl, h3⟩ := lenS h2
  obtain rfl := lenZ h3
  exact ⟨a0, a1, a2, a3, rfl⟩
theorem len6 {α : Type} {us : List α} (h : us.length = 6) : ∃ a0 a1 a2 a3 a4 a5, us = [a0, a1, a2, a3, a4, a5] := by
  obtain ⟨a0, us0, rfl, h0⟩ := lenS h
  obtain ⟨a1, us1, rfl, h1⟩ := lenS h0
  obtain ⟨a2, us2, rfl, h2⟩ := lenS h1
  obtain ⟨a3, us3, rfl, h3⟩ := lenS h2
  obtain ⟨a4, us4, rfl, h4⟩ := lenS h3
  obtain ⟨a5, us5, rfl, h5⟩ := lenS h4
  obtain rfl := lenZ h5
  exact ⟨a0, a1, a2, a3, a4, a5, rfl⟩
set_option genInjectivity false in
set_option genSizeOf false in
set_option genInjectivity false in
set_option genSizeOf false in
structure Dfn (K : PySem.W.Frag) (mg : Str → Option Value) (x qual : Str) (st : Stmt) (ps : List Str) where
  a : Addr
  fd : FuncData
  F : Fun K x qual st a fd
  b : Binds K fd ps []
  m : mg x = some (.ref a)
set_option genInjectivity false in
set_option genSizeOf false in
set_option genInjectivity false in
set_option genSizeOf false in
structure DfnM (K : PySem.W.Frag) (C : Addr) (x qual : Str) (st : Stmt) (ps : List Str) where
  a : Addr
  fd : FuncData
  F : Fun K x qual st a fd
  b : Binds K fd ps []
  mt : Meth K C x a
set_option genInjectivity false in
set_option genSizeOf false in
set_option genInjectivity false in
set_option genSizeOf false in
structure Txt (K : PySem.W.Frag) (mg : Str → Option Value) where
  c_Bare : Addr
  m_Bare : mg "Bare" = some (.ref c_Bare)
  c_NoDeal : Addr
  m_NoDeal : mg "NoDeal" = some (.ref c_NoDeal)
  c_NoLayer : Addr
  m_NoLayer : mg "NoLayer" = some (.ref c_NoLayer)
  c_NoMember : Addr
  m_NoMember : mg "NoMember" = some (.ref c_NoMember)
  c_NoPart : Addr
  m_NoPart : mg "NoPart" = some (.ref c_NoPart)
  c_NoRule : Addr
  m_NoRule : mg "NoRule" = some (.ref c_NoRule)
  c_NoTerms : Addr
  m_NoTerms : mg "NoTerms" = some (.ref c_NoTerms)
  c_Out : Addr
  m_Out : mg "Out" = some (.ref c_Out)
  c_Poor : Addr
  m_Poor : mg "Poor" = some (.ref c_Poor)
  c_QuitsError : Addr
  m_QuitsError : mg "QuitsError" = some (.ref c_QuitsError)
  e_Bare : errOk K c_Bare = true
  i_Bare_Bare : PySem.W.kitOne K (.ref c_Bare) (.ref c_Bare) = some true
  i_Bare_NoDeal : PySem.W.kitOne K (.ref c_Bare) (.ref c_NoDeal) = some false
  i_Bare_NoLayer : PySem.W.kitOne K (.ref c_Bare) (.ref c_NoLayer) = some false
  i_Bare_NoMember : PySem.W.kitOne K (.ref c_Bare) (.ref c_NoMember) = some false
  i_Bare_NoPart : PySem.W.kitOne K (.ref c_Bare) (.ref c_NoPart) = some false
  i_Bare_NoRule : PySem.W.kitOne K (.ref c_Bare) (.ref c_NoRule) = some false
  i_Bare_NoTerms : PySem.W.kitOne K (.ref c_Bare) (.ref c_NoTerms) = some false
  i_Bare_Out : PySem.W.kitOne K (.ref c_Bare) (.ref c_Out) = some false
  i_Bare_Poor : PySem.W.kitOne K (.ref c_Bare) (.ref c_Poor) = some false
  i_Bare_QuitsError : PySem.W.kitOne K (.ref c_Bare) (.ref c_QuitsError) = some true
  i_Bare_ValueError : PySem.W.kitOne K (.ref c_Bare) (.type "ValueError") = some true
  q_Bare_QuitsError : PySem.W.exmOne K (.ref c_Bare) (.ref c_QuitsError) = some true
  e_NoLayer : errOk K c_NoLayer = true
  i_NoLayer_Bare : PySem.W.kitOne K (.ref c_NoLayer) (.ref c_Bare) = some false
  i_NoLayer_NoDeal : PySem.W.kitOne K (.ref c_NoLayer) (.ref c_NoDeal) = some false
  i_NoLayer_NoLayer : PySem.W.kitOne K (.ref c_NoLayer) (.ref c_NoLayer) = some true
  i_NoLayer_NoMember : PySem.W.kitOne K (.ref c_NoLayer) (.ref c_NoMember) = some false
  i_NoLayer_NoPart : PySem.W.kitOne K (.ref c_NoLayer) (.ref c_NoPart) = some false
  i_NoLayer_NoRule : PySem.W.kitOne K (.ref c_NoLayer) (.ref c_NoRule) = some false
  i_NoLayer_NoTerms : PySem.W.kitOne K (.ref c_NoLayer) (.ref c_NoTerms) = some false
  i_NoLayer_Out : PySem.W.kitOne K (.ref c_NoLayer) (.ref c_Out) = some false
  i_NoLayer_Poor : PySem.W.kitOne K (.ref c_NoLayer) (.ref c_Poor) = some false
  i_NoLayer_QuitsError : PySem.W.kitOne K (.ref c_NoLayer) (.ref c_QuitsError) = some true
  i_NoLayer_ValueError : PySem.W.kitOne K (.ref c_NoLayer) (.type "ValueError") = some true
  q_NoLayer_QuitsError : PySem.W.exmOne K (.ref c_NoLayer) (.ref c_QuitsError) = some true
  e_NoMember : errOk K c_NoMember = true
  i_NoMember_Bare : PySem.W.kitOne K (.ref c_NoMember) (.ref c_Bare) = some false
  i_NoMember_NoDeal : PySem.W.kitOne K (.ref c_NoMember) (.ref c_NoDeal) = some false
  i_NoMember_NoLayer : PySem.W.kitOne K (.ref c_NoMember) (.ref c_NoLayer) = some false
  i_NoMember_NoMember : PySem.W.kitOne K (.ref c_NoMember) (.ref c_NoMember) = some true
  i_NoMember_NoPart : PySem.W.kitOne K (.ref c_NoMember) (.ref c_NoPart) = some false
  i_NoMember_NoRule : PySem.W.kitOne K (.ref c_NoMember) (.ref c_NoRule) = some false
  i_NoMember_NoTerms : PySem.W.kitOne K (.ref c_NoMember) (.ref c_NoTerms) = some false
  i_NoMember_Out : PySem.W.kitOne K (.ref c_NoMember) (.ref c_Out) = some false
  i_NoMember_Poor : PySem.W.kitOne K (.ref c_NoMember) (.ref c_Poor) = some false
  i_NoMember_QuitsError : PySem.W.kitOne K (.ref c_NoMember) (.ref c_QuitsError) = some true
  i_NoMember_ValueError : PySem.W.kitOne K (.ref c_NoMember) (.type "ValueError") = some true
  q_NoMember_QuitsError : PySem.W.exmOne K (.ref c_NoMember) (.ref c_QuitsError) = some true
  e_NoPart : errOk K c_NoPart = true
  i_NoPart_Bare : PySem.W.kitOne K (.ref c_NoPart) (.ref c_Bare) = some false
  i_NoPart_NoDeal : PySem.W.kitOne K (.ref c_NoPart) (.ref c_NoDeal) = some false
  i_NoPart_NoLayer : PySem.W.kitOne K (.ref c_NoPart) (.ref c_NoLayer) = some false
  i_NoPart_NoMember : PySem.W.kitOne K (.ref c_NoPart) (.ref c_NoMember) = some false
  i_NoPart_NoPart : PySem.W.kitOne K (.ref c_NoPart) (.ref c_NoPart) = some true
  i_NoPart_NoRule : PySem.W.kitOne K (.ref c_NoPart) (.ref c_NoRule) = some false
  i_NoPart_NoTerms : PySem.W.kitOne K (.ref c_NoPart) (.ref c_NoTerms) = some false
  i_NoPart_Out : PySem.W.kitOne K (.ref c_NoPart) (.ref c_Out) = some false
  i_NoPart_Poor : PySem.W.kitOne K (.ref c_NoPart) (.ref c_Poor) = some false
  i_NoPart_QuitsError : PySem.W.kitOne K (.ref c_NoPart) (.ref c_QuitsError) = some true
  i_NoPart_ValueError : PySem.W.kitOne K (.ref c_NoPart) (.type "ValueError") = some true
  q_NoPart_QuitsError : PySem.W.exmOne K (.ref c_NoPart) (.ref c_QuitsError) = some true
  e_NoRule : errOk K c_NoRule = true
  i_NoRule_Bare : PySem.W.kitOne K (.ref c_NoRule) (.ref c_Bare) = some false
  i_NoRule_NoDeal : PySem.W.kitOne K (.ref c_NoRule) (.ref c_NoDeal) = some false
  i_NoRule_NoLayer : PySem.W.kitOne K (.ref c_NoRule) (.ref c_NoLayer) = some false
  i_NoRule_NoMember : PySem.W.kitOne K (.ref c_NoRule) (.ref c_NoMember) = some false
  i_NoRule_NoPart : PySem.W.kitOne K (.ref c_NoRule) (.ref c_NoPart) = some false
  i_NoRule_NoRule : PySem.W.kitOne K (.ref c_NoRule) (.ref c_NoRule) = some true
  i_NoRule_NoTerms : PySem.W.kitOne K (.ref c_NoRule) (.ref c_NoTerms) = some false
  i_NoRule_Out : PySem.W.kitOne K (.ref c_NoRule) (.ref c_Out) = some false
  i_NoRule_Poor : PySem.W.kitOne K (.ref c_NoRule) (.ref c_Poor) = some false
  i_NoRule_QuitsError : PySem.W.kitOne K (.ref c_NoRule) (.ref c_QuitsError) = some true
  i_NoRule_ValueError : PySem.W.kitOne K (.ref c_NoRule) (.type "ValueError") = some true
  q_NoRule_QuitsError : PySem.W.exmOne K (.ref c_NoRule) (.ref c_QuitsError) = some true
  e_NoTerms : errOk K c_NoTerms = true
  i_NoTerms_Bare : PySem.W.kitOne K (.ref c_NoTerms) (.ref c_Bare) = some false
  i_NoTerms_NoDeal : PySem.W.kitOne K (.ref c_NoTerms) (.ref c_NoDeal) = some false
  i_NoTerms_NoLayer : PySem.W.kitOne K (.ref c_NoTerms) (.ref c_NoLayer) = some false
  i_NoTerms_NoMember : PySem.W.kitOne K (.ref c_NoTerms) (.ref c_NoMember) = some false
  i_NoTerms_NoPart : PySem.W.kitOne K (.ref c_NoTerms) (.ref c_NoPart) = some false
  i_NoTerms_NoRule : PySem.W.kitOne K (.ref c_NoTerms) (.ref c_NoRule) = some false
  i_NoTerms_NoTerms : PySem.W.kitOne K (.ref c_NoTerms) (.ref c_NoTerms) = some true
  i_NoTerms_Out : PySem.W.kitOne K (.ref c_NoTerms) (.ref c_Out) = some false
  i_NoTerms_Poor : PySem.W.kitOne K (.ref c_NoTerms) (.ref c_Poor) = some false
  i_NoTerms_QuitsError : PySem.W.kitOne K (.ref c_NoTerms) (.ref c_QuitsError) = some true
  i_NoTerms_ValueError : PySem.W.kitOne K (.ref c_NoTerms) (.type "ValueError") = some true
  q_NoTerms_QuitsError : PySem.W.exmOne K (.ref c_NoTerms) (.ref c_QuitsError) = some true
  e_Poor : errOk K c_Poor = true
  i_Poor_Bare : PySem.W.kitOne K (.ref c_Poor) (.ref c_Bare) = some false
  i_Poor_NoDeal : PySem.W.kitOne K (.ref c_Poor) (.ref c_NoDeal) = some false
  i_Poor_NoLayer : PySem.W.kitOne K (.ref c_Poor) (.ref c_NoLayer) = some false
  i_Poor_NoMember : PySem.W.kitOne K (.ref c_Poor) (.ref c_NoMember) = some false
  i_Poor_NoPart : PySem.W.kitOne K (.ref c_Poor) (.ref c_NoPart) = some false
  i_Poor_NoRule : PySem.W.kitOne K (.ref c_Poor) (.ref c_NoRule) = some false
  i_Poor_NoTerms : PySem.W.kitOne K (.ref c_Poor) (.ref c_NoTerms) = some false
  i_Poor_Out : PySem.W.kitOne K (.ref c_Poor) (.ref c_Out) = some false
  i_Poor_Poor : PySem.W.kitOne K (.ref c_Poor) (.ref c_Poor) = some true
  i_Poor_QuitsError : PySem.W.kitOne K (.ref c_Poor) (.ref c_QuitsError) = some true
  i_Poor_ValueError : PySem.W.kitOne K (.ref c_Poor) (.type "ValueError") = some true
  q_Poor_QuitsError : PySem.W.exmOne K (.ref c_Poor) (.ref c_QuitsError) = some true
  c_Book : Addr
  m_Book : mg "Book" = some (.ref c_Book)
  cl_Book : Cls K c_Book
  na_Book_day : NoAttr K c_Book "day"
  na_Book_deals : NoAttr K c_Book "deals"
  na_Book_many : NoAttr K c_Book "many"
  na_Book_wares : NoAttr K c_Book "wares"
  c_House : Addr
  m_House : mg "House" = some (.ref c_House)
  cl_House : Cls K c_House
  na_House_book : NoAttr K c_House "book"
  na_House_kept : NoAttr K c_House "kept"
  na_House_moves : NoAttr K c_House "moves"
  na_House_order : NoAttr K c_House "order"
  na_House_outs : NoAttr K c_House "outs"
  na_House_pledges : NoAttr K c_House "pledges"
  na_House_purses : NoAttr K c_House "purses"
  na_House_reports : NoAttr K c_House "reports"
  na_House_rule : NoAttr K c_House "rule"
  na_House_shares : NoAttr K c_House "shares"
  t_MOST_COINS : Tok
  g_MOST_COINS : mg "MOST_COINS" = some (.int 1000000000 t_MOST_COINS)
  t_PAYEE : Tok
  g_PAYEE : mg "PAYEE" = some (.int 1 t_PAYEE)
  t_PAYER : Tok
  g_PAYER : mg "PAYER" = some (.int 0 t_PAYER)
  t_STATE : Tok
  g_STATE : mg "STATE" = some (.int 7 t_STATE)
  t_UNITS : Tok
  g_UNITS : mg "UNITS" = some (.int 3 t_UNITS)
  t_WARE : Tok
  g_WARE : mg "WARE" = some (.int 2 t_WARE)
  a_WORDS : Addr
  g_WORDS : mg "WORDS" = some (.ref a_WORDS)
  q_WORDS : ∀ H : Hp, SqT K H a_WORDS [.str "pledge", .str "share", .str "own", .str "others", .str "level"]
  d_Book___init__ : DfnM K c_Book "__init__" "Book.__init__" s_Book___init__ ["self", "many", "wares"]
  mk_Book : Mk K c_Book d_Book___init__.a
  d_Book_today : DfnM K c_Book "today" "Book.today" s_Book_today ["self"]
  d_Book_position : DfnM K c_Book "position" "Book.position" s_Book_position ["self", "member"]
  d_House___init__ : DfnM K c_House "__init__" "House.__init__" s_House___init__ ["self", "members", "moves", "rule", "order", "own"]
  mk_House : Mk K c_House d_House___init__.a
  d_House_put : DfnM K c_House "put" "House.put" s_House_put ["self", "member", "coins"]
  d_House_take : DfnM K c_House "take" "House.take" s_House_take ["self", "member", "coins"]
  d_House_lay : DfnM K c_House "lay" "House.lay" s_House_lay ["self", "member", "coins"]
  d_House_free : DfnM K c_House "free" "House.free" s_House_free ["self", "member", "coins"]
  d_House_check_coins : DfnM K c_House "check_coins" "House.check_coins" s_House_check_coins ["self", "member", "coins"]
  d_House_purse : DfnM K c_House "purse" "House.purse" s_House_purse ["self", "member"]
  d_House_pledge : DfnM K c_House "pledge" "House.pledge" s_House_pledge ["self", "member"]
  d_House_share : DfnM K c_House "share" "House.share" s_House_share ["self", "member"]
  d_House_own : DfnM K c_House "own" "House.own" s_House_own ["self"]
  d_House_coins : DfnM K c_House "coins" "House.coins" s_House_coins ["self"]
  d_House_need : DfnM K c_House "need" "House.need" s_House_need ["self", "member"]
  d_House_today : DfnM K c_House "today" "House.today" s_House_today ["self"]
  d_check_order : Dfn K mg "check_order" "check_order" s_check_order ["order"]
  d_divisor : Dfn K mg "divisor" "divisor" s_divisor ["one", "other"]
  d_part : Dfn K mg "part" "part" s_part ["top", "bottom"]
  d_under : Dfn K mg "under" "under" s_under ["one", "other"]
  d_losses_of : Dfn K mg "losses_of" "losses_of" s_losses_of ["position", "moves"]
  d_worst_days : Dfn K mg "worst_days" "worst_days" s_worst_days ["position", "moves", "k"]
  d_need_of : Dfn K mg "need_of" "need_of" s_need_of ["rule", "position", "moves"]
  d_check_rule : Dfn K mg "check_rule" "check_rule" s_check_rule ["rule", "moves"]
  d_check_enough : Dfn K mg "check_enough" "check_enough" s_check_enough ["coins", "wanted"]
  d_check_covered : Dfn K mg "check_covered" "check_covered" s_check_covered ["pledge", "need"]
  d__law_cell : Dfn K mg "_law_cell" "_law_cell" s__law_cell ["_law_script", "_law_k"]
  d__law_draw : Dfn K mg "_law_draw" "_law_draw" s__law_draw ["_law_script", "_law_k", "_law_many"]
  d__law_great : Dfn K mg "_law_great" "_law_great" s__law_great ["_law_script", "_law_k", "_law_many"]
  d__law_amount : Dfn K mg "_law_amount" "_law_amount" s__law_amount ["_law_script", "_law_k", "_law_most"]
  d__law_coins : Dfn K mg "_law_coins" "_law_coins" s__law_coins ["_law_script", "_law_k", "_law_stock"]
  d__law_member : Dfn K mg "_law_member" "_law_member" s__law_member ["_law_script", "_law_k", "_law_many"]
  d__law_name : Dfn K mg "_law_name" "_law_name" s__law_name ["_law_e"]
  d__law_done : Dfn K mg "_law_done" "_law_done" s__law_done ["_law_house", "_law_word", "_law_member_here", "_law_coins_here"]
  d__law_found : Dfn K mg "_law_found" "_law_found" s__law_found ["_law_house", "_law_word", "_law_member_here", "_law_coins_here"]
  d__law_due : Dfn K mg "_law_due" "_law_due" s__law_due ["_law_rows", "_law_word", "_law_member_here", "_law_coins_here"]
  d__law_stands : Dfn K mg "_law_stands" "_law_stands" s__law_stands ["_law_house", "_law_rows", "_law_own"]
  d__law_tried : Dfn K mg "_law_tried" "_law_tried" s__law_tried ["_law_house", "_law_rows", "_law_own", "_law_word", "_law_member_here", "_law_coins_here"]
  d_law : Dfn K mg "law" "law" s_law ["_law_script"]
  cw_worst_days : Addr
  tw_worst_days : Addr
  tb_worst_days : PySem.W.tabIn K "worst_days" = some (cw_worst_days, tw_worst_days)
  cc_worst_days : d_worst_days.fd.code = .ref cw_worst_days
  bl_law : ∀ (s : Shared) (v : Value), BindsTo s d_law.fd ⟨[v], []⟩ [("_law_script", v)]
  z_ValueError : mg "ValueError" = none
  z_abs : mg "abs" = none
  z_bool : mg "bool" = none
  z_enumerate : mg "enumerate" = none
  z_int : mg "int" = none
  z_isinstance : mg "isinstance" = none
  z_len : mg "len" = none
  z_list : mg "list" = none
  z_max : mg "max" = none
  z_min : mg "min" = none
  z_range : mg "range" = none
  z_sorted : mg "sorted" = none
  z_sum : mg "sum" = none
  z_tuple : mg "tuple" = none
  z_zip : mg "zip" = none
noncomputable def txt_mk {K : PySem.W.Frag} {h : Heap} {mg : Str → Option Value} (X : K.In h) (G : h.Ns mainGlobals mg)
    {c_Bare : Addr}
    {c_NoDeal : Addr}
    {c_NoLayer : Addr}
    {c_NoMember : Addr}
    {c_NoPart : Addr}
    {c_NoRule : Addr}
    {c_NoTerms : Addr}
    {c_Out : Addr}
    {c_Poor : Addr}
    {c_QuitsError : Addr}
    {c_Book : Addr}
    {c_House : Addr}
    {t_MOST_COINS : Tok}
    {t_PAYEE : Tok}
    {t_PAYER : Tok}
    {t_STATE : Tok}
    {t_UNITS : Tok}
    {t_WARE : Tok}
    {w_WORDS : Addr} {od_WORDS : Option Addr} {n_WORDS : Nat} {sl_WORDS : Array (Option Value)} {k0_WORDS : Tok} {k1_WORDS : Tok} {k2_WORDS : Tok} {k3_WORDS : Tok} {k4_WORDS : Tok}
    {f_Book___init__ : Addr} {oc_Book___init__ kV_Book___init__ dc_Book___init__ pm_Book___init__ cd_Book___init__ ct_Book___init__ : Value} {od_Book___init__ an_Book___init__ : Option Addr} {sl_Book___init__ : Array (Option Value)}
    {f_Book_today : Addr} {oc_Book_today kV_Book_today dc_Book_today pm_Book_today cd_Book_today ct_Book_today : Value} {od_Book_today an_Book_today : Option Addr} {sl_Book_today : Array (Option Value)}
    {f_Book_position : Addr} {oc_Book_position kV_Book_position dc_Book_position pm_Book_position cd_Book_position ct_Book_position : Value} {od_Book_position an_Book_position : Option Addr} {sl_Book_position : Array (Option Value)}
    {f_House___init__ : Addr} {oc_House___init__ kV_House___init__ dc_House___init__ pm_House___init__ cd_House___init__ ct_House___init__ : Value} {od_House___init__ an_House___init__ : Option Addr} {sl_House___init__ : Array (Option Value)}
    {f_House_put : Addr} {oc_House_put kV_House_put dc_House_put pm_House_put cd_House_put ct_House_put : Value} {od_House_put an_House_put : Option Addr} {sl_House_put : Array (Option Value)}
    {f_House_take : Addr} {oc_House_take kV_House_take dc_House_take pm_House_take cd_House_take ct_House_take : Value} {od_House_take an_House_take : Option Addr} {sl_House_take : Array (Option Value)}
    {f_House_lay : Addr} {oc_House_lay kV_House_lay dc_House_lay pm_House_lay cd_House_lay ct_House_lay : Value} {od_House_lay an_House_lay : Option Addr} {sl_House_lay : Array (Option Value)}
    {f_House_free : Addr} {oc_House_free kV_House_free dc_House_free pm_House_free cd_House_free ct_House_free : Value} {od_House_free an_House_free : Option Addr} {sl_House_free : Array (Option Value)}
    {f_House_check_coins : Addr} {oc_House_check_coins kV_House_check_coins dc_House_check_coins pm_House_check_coins cd_House_check_coins ct_House_check_coins : Value} {od_House_check_coins an_House_check_coins : Option Addr} {sl_House_check_coins : Array (Option Value)}
    {f_House_purse : Addr} {oc_House_purse kV_House_purse dc_House_purse pm_House_purse cd_House_purse ct_House_purse : Value} {od_House_purse an_House_purse : Option Addr} {sl_House_purse : Array (Option Value)}
    {f_House_pledge : Addr} {oc_House_pledge kV_House_pledge dc_House_pledge pm_House_pledge cd_House_pledge ct_House_pledge : Value} {od_House_pledge an_House_pledge : Option Addr} {sl_House_pledge : Array (Option Value)}
    {f_House_share : Addr} {oc_House_share kV_House_share dc_House_share pm_House_share cd_House_share ct_House_share : Value} {od_House_share an_House_share : Option Addr} {sl_House_share : Array (Option Value)}
    {f_House_own : Addr} {oc_House_own kV_House_own dc_House_own pm_House_own cd_House_own ct_House_own : Value} {od_House_own an_House_own : Option Addr} {sl_House_own : Array (Option Value)}
    {f_House_coins : Addr} {oc_House_coins kV_House_coins dc_House_coins pm_House_coins cd_House_coins ct_House_coins : Value} {od_House_coins an_House_coins : Option Addr} {sl_House_coins : Array (Option Value)}
    {f_House_need : Addr} {oc_House_need kV_House_need dc_House_need pm_House_need cd_House_need ct_House_need : Value} {od_House_need an_House_need : Option Addr} {sl_House_need : Array (Option Value)}
    {f_House_today : Addr} {oc_House_today kV_House_today dc_House_today pm_House_today cd_House_today ct_House_today : Value} {od_House_today an_House_today : Option Addr} {sl_House_today : Array (Option Value)}
    {f_check_order : Addr} {oc_check_order kV_check_order dc_check_order pm_check_order cd_check_order ct_check_order : Value} {od_check_order an_check_order : Option Addr} {sl_check_order : Array (Option Value)}
    {f_divisor : Addr} {oc_divisor kV_divisor dc_divisor pm_divisor cd_divisor ct_divisor : Value} {od_divisor an_divisor : Option Addr} {sl_divisor : Array (Option Value)}
    {f_part : Addr} {oc_part kV_part dc_part pm_part cd_part ct_part : Value} {od_part an_part : Option Addr} {sl_part : Array (Option Value)}
    {f_under : Addr} {oc_under kV_under dc_under pm_under cd_under ct_under : Value} {od_under an_under : Option Addr} {sl_under : Array (Option Value)}
    {f_losses_of : Addr} {oc_losses_of kV_losses_of dc_losses_of pm_losses_of cd_losses_of ct_losses_of : Value} {od_losses_of an_losses_of : Option Addr} {sl_losses_of : Array (Option Value)}
    {f_worst_days : Addr} {oc_worst_days kV_worst_days dc_worst_days pm_worst_days cd_worst_days ct_worst_days : Value} {od_worst_days an_worst_days : Option Addr} {sl_worst_days : Array (Option Value)}
    {f_need_of : Addr} {oc_need_of kV_need_of dc_need_of pm_need_of cd_need_of ct_need_of : Value} {od_need_of an_need_of : Option Addr} {sl_need_of : Array (Option Value)}
    {f_check_rule : Addr} {oc_check_rule kV_check_rule dc_check_rule pm_check_rule cd_check_rule ct_check_rule : Value} {od_check_rule an_check_rule : Option Addr} {sl_check_rule : Array (Option Value)}
    {f_check_enough : Addr} {oc_check_enough kV_check_enough dc_check_enough pm_check_enough cd_check_enough ct_check_enough : Value} {od_check_enough an_check_enough : Option Addr} {sl_check_enough : Array (Option Value)}
    {f_check_covered : Addr} {oc_check_covered kV_check_covered dc_check_covered pm_check_covered cd_check_covered ct_check_covered : Value} {od_check_covered an_check_covered : Option Addr} {sl_check_covered : Array (Option Value)}
    {f__law_cell : Addr} {oc__law_cell kV__law_cell dc__law_cell pm__law_cell cd__law_cell ct__law_cell : Value} {od__law_cell an__law_cell : Option Addr} {sl__law_cell : Array (Option Value)}
    {f__law_draw : Addr} {oc__law_draw kV__law_draw dc__law_draw pm__law_draw cd__law_draw ct__law_draw : Value} {od__law_draw an__law_draw : Option Addr} {sl__law_draw : Array (Option Value)}
    {f__law_great : Addr} {oc__law_great kV__law_great dc__law_great pm__law_great cd__law_great ct__law_great : Value} {od__law_great an__law_great : Option Addr} {sl__law_great : Array (Option Value)}
    {f__law_amount : Addr} {oc__law_amount kV__law_amount dc__law_amount pm__law_amount cd__law_amount ct__law_amount : Value} {od__law_amount an__law_amount : Option Addr} {sl__law_amount : Array (Option Value)}
    {f__law_coins : Addr} {oc__law_coins kV__law_coins dc__law_coins pm__law_coins cd__law_coins ct__law_coins : Value} {od__law_coins an__law_coins : Option Addr} {sl__law_coins : Array (Option Value)}
    {f__law_member : Addr} {oc__law_member kV__law_member dc__law_member pm__law_member cd__law_member ct__law_member : Value} {od__law_member an__law_member : Option Addr} {sl__law_member : Array (Option Value)}
    {f__law_name : Addr} {oc__law_name kV__law_name dc__law_name pm__law_name cd__law_name ct__law_name : Value} {od__law_name an__law_name : Option Addr} {sl__law_name : Array (Option Value)}
    {f__law_done : Addr} {oc__law_done kV__law_done dc__law_done pm__law_done cd__law_done ct__law_done : Value} {od__law_done an__law_done : Option Addr} {sl__law_done : Array (Option Value)}
    {f__law_found : Addr} {oc__law_found kV__law_found dc__law_found pm__law_found cd__law_found ct__law_found : Value} {od__law_found an__law_found : Option Addr} {sl__law_found : Array (Option Value)}
    {f__law_due : Addr} {oc__law_due kV__law_due dc__law_due pm__law_due cd__law_due ct__law_due : Value} {od__law_due an__law_due : Option Addr} {sl__law_due : Array (Option Value)}
    {f__law_stands : Addr} {oc__law_stands kV__law_stands dc__law_stands pm__law_stands cd__law_stands ct__law_stands : Value} {od__law_stands an__law_stands : Option Addr} {sl__law_stands : Array (Option Value)}
    {f__law_tried : Addr} {oc__law_tried kV__law_tried dc__law_tried pm__law_tried cd__law_tried ct__law_tried : Value} {od__law_tried an__law_tried : Option Addr} {sl__law_tried : Array (Option Value)}
    {f_law : Addr} {oc_law kV_law dc_law pm_law cd_law ct_law : Value} {od_law an_law : Option Addr} {sl_law : Array (Option Value)}
    {cw_worst_days tw_worst_days : Addr} {ow_worst_days : Value} {xw_worst_days : Option Addr} {vw_worst_days : Array Value} {sw_worst_days : Array (Option Value)}
    (m_Bare : PySem.W.nsIn K mainGlobals "Bare" = some (some (.ref c_Bare)))
    (m_NoDeal : PySem.W.nsIn K mainGlobals "NoDeal" = some (some (.ref c_NoDeal)))
    (m_NoLayer : PySem.W.nsIn K mainGlobals "NoLayer" = some (some (.ref c_NoLayer)))
    (m_NoMember : PySem.W.nsIn K mainGlobals "NoMember" = some (some (.ref c_NoMember)))
    (m_NoPart : PySem.W.nsIn K mainGlobals "NoPart" = some (some (.ref c_NoPart)))
    (m_NoRule : PySem.W.nsIn K mainGlobals "NoRule" = some (some (.ref c_NoRule)))
    (m_NoTerms : PySem.W.nsIn K mainGlobals "NoTerms" = some (some (.ref c_NoTerms)))
    (m_Out : PySem.W.nsIn K mainGlobals "Out" = some (some (.ref c_Out)))
    (m_Poor : PySem.W.nsIn K mainGlobals "Poor" = some (some (.ref c_Poor)))
    (m_QuitsError : PySem.W.nsIn K mainGlobals "QuitsError" = some (some (.ref c_QuitsError)))
    (hd_Bare : PySem.W.hasDictIn K c_Bare = true) (ty_Bare : PySem.W.typeIn K (.ref c_Bare) = some (.type "type"))
    (hd_NoDeal : PySem.W.hasDictIn K c_NoDeal = true) (ty_NoDeal : PySem.W.typeIn K (.ref c_NoDeal) = some (.type "type"))
    (hd_NoLayer : PySem.W.hasDictIn K c_NoLayer = true) (ty_NoLayer : PySem.W.typeIn K (.ref c_NoLayer) = some (.type "type"))
    (hd_NoMember : PySem.W.hasDictIn K c_NoMember = true) (ty_NoMember : PySem.W.typeIn K (.ref c_NoMember) = some (.type "type"))
    (hd_NoPart : PySem.W.hasDictIn K c_NoPart = true) (ty_NoPart : PySem.W.typeIn K (.ref c_NoPart) = some (.type "type"))
    (hd_NoRule : PySem.W.hasDictIn K c_NoRule = true) (ty_NoRule : PySem.W.typeIn K (.ref c_NoRule) = some (.type "type"))
    (hd_NoTerms : PySem.W.hasDictIn K c_NoTerms = true) (ty_NoTerms : PySem.W.typeIn K (.ref c_NoTerms) = some (.type "type"))
    (hd_Out : PySem.W.hasDictIn K c_Out = true) (ty_Out : PySem.W.typeIn K (.ref c_Out) = some (.type "type"))
    (hd_Poor : PySem.W.hasDictIn K c_Poor = true) (ty_Poor : PySem.W.typeIn K (.ref c_Poor) = some (.type "type"))
    (hd_QuitsError : PySem.W.hasDictIn K c_QuitsError = true) (ty_QuitsError : PySem.W.typeIn K (.ref c_QuitsError) = some (.type "type"))
    (sn_ : PySem.W.specialIn K (.builtin "object.__class__") "__get__" = some (some (.builtin "getset_descriptor.__get__"))) (tk_ : PySem.W.takesIn K (.builtin "object.__class__") = some true)
    (b_QuitsError : PySem.W.subIn K (.ref c_QuitsError) (.type "BaseException") = some true)
    (x_Bare : PySem.W.excIn K c_Bare [.type "ValueError", .type "Exception", .type "BaseException", .type "object"] "ValueError.__new__" = true) (ga_Bare : PySem.W.findIn K (.ref c_Bare) "__getattribute__" = some (some (.builtin "BaseException.__getattribute__"))) (gn_Bare : PySem.W.findIn K (.ref c_Bare) "__getattr__" = some none) (be_Bare : PySem.W.mroIn K c_Bare (.type "BaseException") = some true) (fa_Bare : PySem.W.findIn K (.ref c_Bare) "__class__" = some (some (.builtin "object.__class__"))) (mo_Bare : PySem.W.mroIn K c_Bare (.type "object") = some true)
    (s_Bare_Bare : PySem.W.subIn K (.ref c_Bare) (.ref c_Bare) = some true)
    (s_Bare_NoDeal : PySem.W.subIn K (.ref c_Bare) (.ref c_NoDeal) = some false)
    (n_Bare_NoDeal : c_Bare ≠ c_NoDeal)
    (s_Bare_NoLayer : PySem.W.subIn K (.ref c_Bare) (.ref c_NoLayer) = some false)
    (n_Bare_NoLayer : c_Bare ≠ c_NoLayer)
    (s_Bare_NoMember : PySem.W.subIn K (.ref c_Bare) (.ref c_NoMember) = some false)
    (n_Bare_NoMember : c_Bare ≠ c_NoMember)
    (s_Bare_NoPart : PySem.W.subIn K (.ref c_Bare) (.ref c_NoPart) = some false)
    (n_Bare_NoPart : c_Bare ≠ c_NoPart)
    (s_Bare_NoRule : PySem.W.subIn K (.ref c_Bare) (.ref c_NoRule) = some false)
    (n_Bare_NoRule : c_Bare ≠ c_NoRule)
    (s_Bare_NoTerms : PySem.W.subIn K (.ref c_Bare) (.ref c_NoTerms) = some false)
    (n_Bare_NoTerms : c_Bare ≠ c_NoTerms)
    (s_Bare_Out : PySem.W.subIn K (.ref c_Bare) (.ref c_Out) = some false)
    (n_Bare_Out : c_Bare ≠ c_Out)
    (s_Bare_Poor : PySem.W.subIn K (.ref c_Bare) (.ref c_Poor) = some false)
    (n_Bare_Poor : c_Bare ≠ c_Poor)
    (s_Bare_QuitsError : PySem.W.subIn K (.ref c_Bare) (.ref c_QuitsError) = some true)
    (n_Bare_QuitsError : c_Bare ≠ c_QuitsError)
    (v_Bare : PySem.W.subIn K (.ref c_Bare) (.type "ValueError") = some true)
    (x_NoLayer : PySem.W.excIn K c_NoLayer [.type "ValueError", .type "Exception", .type "BaseException", .type "object"] "ValueError.__new__" = true) (ga_NoLayer : PySem.W.findIn K (.ref c_NoLayer) "__getattribute__" = some (some (.builtin "BaseException.__getattribute__"))) (gn_NoLayer : PySem.W.findIn K (.ref c_NoLayer) "__getattr__" = some none) (be_NoLayer : PySem.W.mroIn K c_NoLayer (.type "BaseException") = some true) (fa_NoLayer : PySem.W.findIn K (.ref c_NoLayer) "__class__" = some (some (.builtin "object.__class__"))) (mo_NoLayer : PySem.W.mroIn K c_NoLayer (.type "object") = some true)
    (s_NoLayer_Bare : PySem.W.subIn K (.ref c_NoLayer) (.ref c_Bare) = some false)
    (n_NoLayer_Bare : c_NoLayer ≠ c_Bare)
    (s_NoLayer_NoDeal : PySem.W.subIn K (.ref c_NoLayer) (.ref c_NoDeal) = some false)
    (n_NoLayer_NoDeal : c_NoLayer ≠ c_NoDeal)
    (s_NoLayer_NoLayer : PySem.W.subIn K (.ref c_NoLayer) (.ref c_NoLayer) = some true)
    (s_NoLayer_NoMember : PySem.W.subIn K (.ref c_NoLayer) (.ref c_NoMember) = some false)
    (n_NoLayer_NoMember : c_NoLayer ≠ c_NoMember)
    (s_NoLayer_NoPart : PySem.W.subIn K (.ref c_NoLayer) (.ref c_NoPart) = some false)
    (n_NoLayer_NoPart : c_NoLayer ≠ c_NoPart)
    (s_NoLayer_NoRule : PySem.W.subIn K (.ref c_NoLayer) (.ref c_NoRule) = some false)
    (n_NoLayer_NoRule : c_NoLayer ≠ c_NoRule)
    (s_NoLayer_NoTerms : PySem.W.subIn K (.ref c_NoLayer) (.ref c_NoTerms) = some false)
    (n_NoLayer_NoTerms : c_NoLayer ≠ c_NoTerms)
    (s_NoLayer_Out : PySem.W.subIn K (.ref c_NoLayer) (.ref c_Out) = some false)
    (n_NoLayer_Out : c_NoLayer ≠ c_Out)
    (s_NoLayer_Poor : PySem.W.subIn K (.ref c_NoLayer) (.ref c_Poor) = some false)
    (n_NoLayer_Poor : c_NoLayer ≠ c_Poor)
    (s_NoLayer_QuitsError : PySem.W.subIn K (.ref c_NoLayer) (.ref c_QuitsError) = some true)
    (n_NoLayer_QuitsError : c_NoLayer ≠ c_QuitsError)
    (v_NoLayer : PySem.W.subIn K (.ref c_NoLayer) (.type "ValueError") = some true)
    (x_NoMember : PySem.W.excIn K c_NoMember [.type "ValueError", .type "Exception", .type "BaseException", .type "object"] "ValueError.__new__" = true) (ga_NoMember : PySem.W.findIn K (.ref c_NoMember) "__getattribute__" = some (some (.builtin "BaseException.__getattribute__"))) (gn_NoMember : PySem.W.findIn K (.ref c_NoMember) "__getattr__" = some none) (be_NoMember : PySem.W.mroIn K c_NoMember (.type "BaseException") = some true) (fa_NoMember : PySem.W.findIn K (.ref c_NoMember) "__class__" = some (some (.builtin "object.__class__"))) (mo_NoMember : PySem.W.mroIn K c_NoMember (.type "object") = some true)
    (s_NoMember_Bare : PySem.W.subIn K (.ref c_NoMember) (.ref c_Bare) = some false)
    (n_NoMember_Bare : c_NoMember ≠ c_Bare)
    (s_NoMember_NoDeal : PySem.W.subIn K (.ref c_NoMember) (.ref c_NoDeal) = some false)
    (n_NoMember_NoDeal : c_NoMember ≠ c_NoDeal)
    (s_NoMember_NoLayer : PySem.W.subIn K (.ref c_NoMember) (.ref c_NoLayer) = some false)
    (n_NoMember_NoLayer : c_NoMember ≠ c_NoLayer)
    (s_NoMember_NoMember : PySem.W.subIn K (.ref c_NoMember) (.ref c_NoMember) = some true)
    (s_NoMember_NoPart : PySem.W.subIn K (.ref c_NoMember) (.ref c_NoPart) = some false)
    (n_NoMember_NoPart : c_NoMember ≠ c_NoPart)
    (s_NoMember_NoRule : PySem.W.subIn K (.ref c_NoMember) (.ref c_NoRule) = some false)
    (n_NoMember_NoRule : c_NoMember ≠ c_NoRule)
    (s_NoMember_NoTerms : PySem.W.subIn K (.ref c_NoMember) (.ref c_NoTerms) = some false)
    (n_NoMember_NoTerms : c_NoMember ≠ c_NoTerms)
    (s_NoMember_Out : PySem.W.subIn K (.ref c_NoMember) (.ref c_Out) = some false)
    (n_NoMember_Out : c_NoMember ≠ c_Out)
    (s_NoMember_Poor : PySem.W.subIn K (.ref c_NoMember) (.ref c_Poor) = some false)
    (n_NoMember_Poor : c_NoMember ≠ c_Poor)
    (s_NoMember_QuitsError : PySem.W.subIn K (.ref c_NoMember) (.ref c_QuitsError) = some true)
    (n_NoMember_QuitsError : c_NoMember ≠ c_QuitsError)
    (v_NoMember : PySem.W.subIn K (.ref c_NoMember) (.type "ValueError") = some true)
    (x_NoPart : PySem.W.excIn K c_NoPart [.type "ValueError", .type "Exception", .type "BaseException", .type "object"] "ValueError.__new__" = true) (ga_NoPart : PySem.W.findIn K (.ref c_NoPart) "__getattribute__" = some (some (.builtin "BaseException.__getattribute__"))) (gn_NoPart : PySem.W.findIn K (.ref c_NoPart) "__getattr__" = some none) (be_NoPart : PySem.W.mroIn K c_NoPart (.type "BaseException") = some true) (fa_NoPart : PySem.W.findIn K (.ref c_NoPart) "__class__" = some (some (.builtin "object.__class__"))) (mo_NoPart : PySem.W.mroIn K c_NoPart (.type "object") = some true)
    (s_NoPart_Bare : PySem.W.subIn K (.ref c_NoPart) (.ref c_Bare) = some false)
    (n_NoPart_Bare : c_NoPart ≠ c_Bare)
    (s_NoPart_NoDeal : PySem.W.subIn K (.ref c_NoPart) (.ref c_NoDeal) = some false)
    (n_NoPart_NoDeal : c_NoPart ≠ c_NoDeal)
    (s_NoPart_NoLayer : PySem.W.subIn K (.ref c_NoPart) (.ref c_NoLayer) = some false)
    (n_NoPart_NoLayer : c_NoPart ≠ c_NoLayer)
    (s_NoPart_NoMember : PySem.W.subIn K (.ref c_NoPart) (.ref c_NoMember) = some false)
    (n_NoPart_NoMember : c_NoPart ≠ c_NoMember)
    (s_NoPart_NoPart : PySem.W.subIn K (.ref c_NoPart) (.ref c_NoPart) = some true)
    (s_NoPart_NoRule : PySem.W.subIn K (.ref c_NoPart) (.ref c_NoRule) = some false)
    (n_NoPart_NoRule : c_NoPart ≠ c_NoRule)
    (s_NoPart_NoTerms : PySem.W.subIn K (.ref c_NoPart) (.ref c_NoTerms) = some false)
    (n_NoPart_NoTerms : c_NoPart ≠ c_NoTerms)
    (s_NoPart_Out : PySem.W.subIn K (.ref c_NoPart) (.ref c_Out) = some false)
    (n_NoPart_Out : c_NoPart ≠ c_Out)
    (s_NoPart_Poor : PySem.W.subIn K (.ref c_NoPart) (.ref c_Poor) = some false)
    (n_NoPart_Poor : c_NoPart ≠ c_Poor)
    (s_NoPart_QuitsError : PySem.W.subIn K (.ref c_NoPart) (.ref c_QuitsError) = some true)
    (n_NoPart_QuitsError : c_NoPart ≠ c_QuitsError)
    (v_NoPart : PySem.W.subIn K (.ref c_NoPart) (.type "ValueError") = some true)
    (x_NoRule : PySem.W.excIn K c_NoRule [.type "ValueError", .type "Exception", .type "BaseException", .type "object"] "ValueError.__new__" = true) (ga_NoRule : PySem.W.findIn K (.ref c_NoRule) "__getattribute__" = some (some (.builtin "BaseException.__getattribute__"))) (gn_NoRule : PySem.W.findIn K (.ref c_NoRule) "__getattr__" = some none) (be_NoRule : PySem.W.mroIn K c_NoRule (.type "BaseException") = some true) (fa_NoRule : PySem.W.findIn K (.ref c_NoRule) "__class__" = some (some (.builtin "object.__class__"))) (mo_NoRule : PySem.W.mroIn K c_NoRule (.type "object") = some true)
    (s_NoRule_Bare : PySem.W.subIn K (.ref c_NoRule) (.ref c_Bare) = some false)
    (n_NoRule_Bare : c_NoRule ≠ c_Bare)
    (s_NoRule_NoDeal : PySem.W.subIn K (.ref c_NoRule) (.ref c_NoDeal) = some false)
    (n_NoRule_NoDeal : c_NoRule ≠ c_NoDeal)
    (s_NoRule_NoLayer : PySem.W.subIn K (.ref c_NoRule) (.ref c_NoLayer) = some false)
    (n_NoRule_NoLayer : c_NoRule ≠ c_NoLayer)
    (s_NoRule_NoMember : PySem.W.subIn K (.ref c_NoRule) (.ref c_NoMember) = some false)
    (n_NoRule_NoMember : c_NoRule ≠ c_NoMember)
    (s_NoRule_NoPart : PySem.W.subIn K (.ref c_NoRule) (.ref c_NoPart) = some false)
    (n_NoRule_NoPart : c_NoRule ≠ c_NoPart)
    (s_NoRule_NoRule : PySem.W.subIn K (.ref c_NoRule) (.ref c_NoRule) = some true)
    (s_NoRule_NoTerms : PySem.W.subIn K (.ref c_NoRule) (.ref c_NoTerms) = some false)
    (n_NoRule_NoTerms : c_NoRule ≠ c_NoTerms)
    (s_NoRule_Out : PySem.W.subIn K (.ref c_NoRule) (.ref c_Out) = some false)
    (n_NoRule_Out : c_NoRule ≠ c_Out)
    (s_NoRule_Poor : PySem.W.subIn K (.ref c_NoRule) (.ref c_Poor) = some false)
    (n_NoRule_Poor : c_NoRule ≠ c_Poor)
    (s_NoRule_QuitsError : PySem.W.subIn K (.ref c_NoRule) (.ref c_QuitsError) = some true)
    (n_NoRule_QuitsError : c_NoRule ≠ c_QuitsError)
    (v_NoRule : PySem.W.subIn K (.ref c_NoRule) (.type "ValueError") = some true)
    (x_NoTerms : PySem.W.excIn K c_NoTerms [.type "ValueError", .type "Exception", .type "BaseException", .type "object"] "ValueError.__new__" = true) (ga_NoTerms : PySem.W.findIn K (.ref c_NoTerms) "__getattribute__" = some (some (.builtin "BaseException.__getattribute__"))) (gn_NoTerms : PySem.W.findIn K (.ref c_NoTerms) "__getattr__" = some none) (be_NoTerms : PySem.W.mroIn K c_NoTerms (.type "BaseException") = some true) (fa_NoTerms : PySem.W.findIn K (.ref c_NoTerms) "__class__" = some (some (.builtin "object.__class__"))) (mo_NoTerms : PySem.W.mroIn K c_NoTerms (.type "object") = some true)
    (s_NoTerms_Bare : PySem.W.subIn K (.ref c_NoTerms) (.ref c_Bare) = some false)
    (n_NoTerms_Bare : c_NoTerms ≠ c_Bare)
    (s_NoTerms_NoDeal : PySem.W.subIn K (.ref c_NoTerms) (.ref c_NoDeal) = some false)
    (n_NoTerms_NoDeal : c_NoTerms ≠ c_NoDeal)
    (s_NoTerms_NoLayer : PySem.W.subIn K (.ref c_NoTerms) (.ref c_NoLayer) = some false)
    (n_NoTerms_NoLayer : c_NoTerms ≠ c_NoLayer)
    (s_NoTerms_NoMember : PySem.W.subIn K (.ref c_NoTerms) (.ref c_NoMember) = some false)
    (n_NoTerms_NoMember : c_NoTerms ≠ c_NoMember)
    (s_NoTerms_NoPart : PySem.W.subIn K (.ref c_NoTerms) (.ref c_NoPart) = some false)
    (n_NoTerms_NoPart : c_NoTerms ≠ c_NoPart)
    (s_NoTerms_NoRule : PySem.W.subIn K (.ref c_NoTerms) (.ref c_NoRule) = some false)
    (n_NoTerms_NoRule : c_NoTerms ≠ c_NoRule)
    (s_NoTerms_NoTerms : PySem.W.subIn K (.ref c_NoTerms) (.ref c_NoTerms) = some true)
    (s_NoTerms_Out : PySem.W.subIn K (.ref c_NoTerms) (.ref c_Out) = some false)
    (n_NoTerms_Out : c_NoTerms ≠ c_Out)
    (s_NoTerms_Poor : PySem.W.subIn K (.ref c_NoTerms) (.ref c_Poor) = some false)
    (n_NoTerms_Poor : c_NoTerms ≠ c_Poor)
    (s_NoTerms_QuitsError : PySem.W.subIn K (.ref c_NoTerms) (.ref c_QuitsError) = some true)
    (n_NoTerms_QuitsError : c_NoTerms ≠ c_QuitsError)
    (v_NoTerms : PySem.W.subIn K (.ref c_NoTerms) (.type "ValueError") = some true)
    (x_Poor : PySem.W.excIn K c_Poor [.type "ValueError", .type "Exception", .type "BaseException", .type "object"] "ValueError.__new__" = true) (ga_Poor : PySem.W.findIn K (.ref c_Poor) "__getattribute__" = some (some (.builtin "BaseException.__getattribute__"))) (gn_Poor : PySem.W.findIn K (.ref c_Poor) "__getattr__" = some none) (be_Poor : PySem.W.mroIn K c_Poor (.type "BaseException") = some true) (fa_Poor : PySem.W.findIn K (.ref c_Poor) "__class__" = some (some (.builtin "object.__class__"))) (mo_Poor : PySem.W.mroIn K c_Poor (.type "object") = some true)
    (s_Poor_Bare : PySem.W.subIn K (.ref c_Poor) (.ref c_Bare) = some false)
    (n_Poor_Bare : c_Poor ≠ c_Bare)
    (s_Poor_NoDeal : PySem.W.subIn K (.ref c_Poor) (.ref c_NoDeal) = some false)
    (n_Poor_NoDeal : c_Poor ≠ c_NoDeal)
    (s_Poor_NoLayer : PySem.W.subIn K (.ref c_Poor) (.ref c_NoLayer) = some false)
    (n_Poor_NoLayer : c_Poor ≠ c_NoLayer)
    (s_Poor_NoMember : PySem.W.subIn K (.ref c_Poor) (.ref c_NoMember) = some false)
    (n_Poor_NoMember : c_Poor ≠ c_NoMember)
    (s_Poor_NoPart : PySem.W.subIn K (.ref c_Poor) (.ref c_NoPart) = some false)
    (n_Poor_NoPart : c_Poor ≠ c_NoPart)
    (s_Poor_NoRule : PySem.W.subIn K (.ref c_Poor) (.ref c_NoRule) = some false)
    (n_Poor_NoRule : c_Poor ≠ c_NoRule)
    (s_Poor_NoTerms : PySem.W.subIn K (.ref c_Poor) (.ref c_NoTerms) = some false)
    (n_Poor_NoTerms : c_Poor ≠ c_NoTerms)
    (s_Poor_Out : PySem.W.subIn K (.ref c_Poor) (.ref c_Out) = some false)
    (n_Poor_Out : c_Poor ≠ c_Out)
    (s_Poor_Poor : PySem.W.subIn K (.ref c_Poor) (.ref c_Poor) = some true)
    (s_Poor_QuitsError : PySem.W.subIn K (.ref c_Poor) (.ref c_QuitsError) = some true)
    (n_Poor_QuitsError : c_Poor ≠ c_QuitsError)
    (v_Poor : PySem.W.subIn K (.ref c_Poor) (.type "ValueError") = some true)
    (m_Book : PySem.W.nsIn K mainGlobals "Book" = some (some (.ref c_Book))) (pg_Book : PySem.W.plainGet K c_Book Str.empty = true) (hd_Book : PySem.W.hasDictIn K c_Book = true) (po_Book : PySem.W.plainOver K c_Book = true) (sa_Book : PySem.W.findIn K (.ref c_Book) "__setattr__" = some (some (.builtin "object.__setattr__"))) (mk_Book : PySem.W.makesIn K c_Book = true) (kc_Book : PySem.W.keepIn K (.ref c_Book) = true)
    (na_Book_day : PySem.W.findIn K (.ref c_Book) "day" = some none)
    (na_Book_deals : PySem.W.findIn K (.ref c_Book) "deals" = some none)
    (na_Book_many : PySem.W.findIn K (.ref c_Book) "many" = some none)
    (na_Book_wares : PySem.W.findIn K (.ref c_Book) "wares" = some none)
    (m_House : PySem.W.nsIn K mainGlobals "House" = some (some (.ref c_House))) (pg_House : PySem.W.plainGet K c_House Str.empty = true) (hd_House : PySem.W.hasDictIn K c_House = true) (po_House : PySem.W.plainOver K c_House = true) (sa_House : PySem.W.findIn K (.ref c_House) "__setattr__" = some (some (.builtin "object.__setattr__"))) (mk_House : PySem.W.makesIn K c_House = true) (kc_House : PySem.W.keepIn K (.ref c_House) = true)
    (na_House_book : PySem.W.findIn K (.ref c_House) "book" = some none)
    (na_House_kept : PySem.W.findIn K (.ref c_House) "kept" = some none)
    (na_House_moves : PySem.W.findIn K (.ref c_House) "moves" = some none)
    (na_House_order : PySem.W.findIn K (.ref c_House) "order" = some none)
    (na_House_outs : PySem.W.findIn K (.ref c_House) "outs" = some none)
    (na_House_pledges : PySem.W.findIn K (.ref c_House) "pledges" = some none)
    (na_House_purses : PySem.W.findIn K (.ref c_House) "purses" = some none)
    (na_House_reports : PySem.W.findIn K (.ref c_House) "reports" = some none)
    (na_House_rule : PySem.W.findIn K (.ref c_House) "rule" = some none)
    (na_House_shares : PySem.W.findIn K (.ref c_House) "shares" = some none)
    (g_MOST_COINS : PySem.W.nsIn K mainGlobals "MOST_COINS" = some (some (.int 1000000000 t_MOST_COINS)))
    (g_PAYEE : PySem.W.nsIn K mainGlobals "PAYEE" = some (some (.int 1 t_PAYEE)))
    (g_PAYER : PySem.W.nsIn K mainGlobals "PAYER" = some (some (.int 0 t_PAYER)))
    (g_STATE : PySem.W.nsIn K mainGlobals "STATE" = some (some (.int 7 t_STATE)))
    (g_UNITS : PySem.W.nsIn K mainGlobals "UNITS" = some (some (.int 3 t_UNITS)))
    (g_WARE : PySem.W.nsIn K mainGlobals "WARE" = some (some (.int 2 t_WARE)))
    (g_WORDS : PySem.W.nsIn K mainGlobals "WORDS" = some (some (.ref w_WORDS))) (o_WORDS : K.lookup w_WORDS = some ⟨.type "tuple", od_WORDS, .seq #[.str "pledge" k0_WORDS, .str "share" k1_WORDS, .str "own" k2_WORDS, .str "others" k3_WORDS, .str "level" k4_WORDS] n_WORDS, sl_WORDS⟩)
    (a_Book___init__ : PySem.W.findIn K (.ref c_Book) "__init__" = some (some (.ref f_Book___init__))) (i_Book___init__ : PySem.W.isFn K (.ref f_Book___init__) = true) (l_Book___init__ : K.lookup f_Book___init__ = some ⟨oc_Book___init__, od_Book___init__, .func (PySem.W.fnOf "__init__" "Book.__init__" (defArgs s_Book___init__) (defBody s_Book___init__) (defScope s_Book___init__) .none kV_Book___init__ dc_Book___init__ pm_Book___init__ an_Book___init__ cd_Book___init__ ct_Book___init__), sl_Book___init__⟩) (c_Book___init__ : PySem.W.codeIn K cd_Book___init__ "Book.__init__" = true) (k_Book___init__ : PySem.W.keepIn K (.ref f_Book___init__) = true)
    (a_Book_today : PySem.W.findIn K (.ref c_Book) "today" = some (some (.ref f_Book_today))) (i_Book_today : PySem.W.isFn K (.ref f_Book_today) = true) (l_Book_today : K.lookup f_Book_today = some ⟨oc_Book_today, od_Book_today, .func (PySem.W.fnOf "today" "Book.today" (defArgs s_Book_today) (defBody s_Book_today) (defScope s_Book_today) .none kV_Book_today dc_Book_today pm_Book_today an_Book_today cd_Book_today ct_Book_today), sl_Book_today⟩) (c_Book_today : PySem.W.codeIn K cd_Book_today "Book.today" = true) (k_Book_today : PySem.W.keepIn K (.ref f_Book_today) = true)
    (a_Book_position : PySem.W.findIn K (.ref c_Book) "position" = some (some (.ref f_Book_position))) (i_Book_position : PySem.W.isFn K (.ref f_Book_position) = true) (l_Book_position : K.lookup f_Book_position = some ⟨oc_Book_position, od_Book_position, .func (PySem.W.fnOf "position" "Book.position" (defArgs s_Book_position) (defBody s_Book_position) (defScope s_Book_position) .none kV_Book_position dc_Book_position pm_Book_position an_Book_position cd_Book_position ct_Book_position), sl_Book_position⟩) (c_Book_position : PySem.W.codeIn K cd_Book_position "Book.position" = true) (k_Book_position : PySem.W.keepIn K (.ref f_Book_position) = true)
    (a_House___init__ : PySem.W.findIn K (.ref c_House) "__init__" = some (some (.ref f_House___init__))) (i_House___init__ : PySem.W.isFn K (.ref f_House___init__) = true) (l_House___init__ : K.lookup f_House___init__ = some ⟨oc_House___init__, od_House___init__, .func (PySem.W.fnOf "__init__" "House.__init__" (defArgs s_House___init__) (defBody s_House___init__) (defScope s_House___init__) .none kV_House___init__ dc_House___init__ pm_House___init__ an_House___init__ cd_House___init__ ct_House___init__), sl_House___init__⟩) (c_House___init__ : PySem.W.codeIn K cd_House___init__ "House.__init__" = true) (k_House___init__ : PySem.W.keepIn K (.ref f_House___init__) = true)
    (a_House_put : PySem.W.findIn K (.ref c_House) "put" = some (some (.ref f_House_put))) (i_House_put : PySem.W.isFn K (.ref f_House_put) = true) (l_House_put : K.lookup f_House_put = some ⟨oc_House_put, od_House_put, .func (PySem.W.fnOf "put" "House.put" (defArgs s_House_put) (defBody s_House_put) (defScope s_House_put) .none kV_House_put dc_House_put pm_House_put an_House_put cd_House_put ct_House_put), sl_House_put⟩) (c_House_put : PySem.W.codeIn K cd_House_put "House.put" = true) (k_House_put : PySem.W.keepIn K (.ref f_House_put) = true)
    (a_House_take : PySem.W.findIn K (.ref c_House) "take" = some (some (.ref f_House_take))) (i_House_take : PySem.W.isFn K (.ref f_House_take) = true) (l_House_take : K.lookup f_House_take = some ⟨oc_House_take, od_House_take, .func (PySem.W.fnOf "take" "House.take" (defArgs s_House_take) (defBody s_House_take) (defScope s_House_take) .none kV_House_take dc_House_take pm_House_take an_House_take cd_House_take ct_House_take), sl_House_take⟩) (c_House_take : PySem.W.codeIn K cd_House_take "House.take" = true) (k_House_take : PySem.W.keepIn K (.ref f_House_take) = true)
    (a_House_lay : PySem.W.findIn K (.ref c_House) "lay" = some (some (.ref f_House_lay))) (i_House_lay : PySem.W.isFn K (.ref f_House_lay) = true) (l_House_lay : K.lookup f_House_lay = some ⟨oc_House_lay, od_House_lay, .func (PySem.W.fnOf "lay" "House.lay" (defArgs s_House_lay) (defBody s_House_lay) (defScope s_House_lay) .none kV_House_lay dc_House_lay pm_House_lay an_House_lay cd_House_lay ct_House_lay), sl_House_lay⟩) (c_House_lay : PySem.W.codeIn K cd_House_lay "House.lay" = true) (k_House_lay : PySem.W.keepIn K (.ref f_House_lay) = true)
    (a_House_free : PySem.W.findIn K (.ref c_House) "free" = some (some (.ref f_House_free))) (i_House_free : PySem.W.isFn K (.ref f_House_free) = true) (l_House_free : K.lookup f_House_free = some ⟨oc_House_free, od_House_free, .func (PySem.W.fnOf "free" "House.free" (defArgs s_House_free) (defBody s_House_free) (defScope s_House_free) .none kV_House_free dc_House_free pm_House_free an_House_free cd_House_free ct_House_free), sl_House_free⟩) (c_House_free : PySem.W.codeIn K cd_House_free "House.free" = true) (k_House_free : PySem.W.keepIn K (.ref f_House_free) = true)
    (a_House_check_coins : PySem.W.findIn K (.ref c_House) "check_coins" = some (some (.ref f_House_check_coins))) (i_House_check_coins : PySem.W.isFn K (.ref f_House_check_coins) = true) (l_House_check_coins : K.lookup f_House_check_coins = some ⟨oc_House_check_coins, od_House_check_coins, .func (PySem.W.fnOf "check_coins" "House.check_coins" (defArgs s_House_check_coins) (defBody s_House_check_coins) (defScope s_House_check_coins) .none kV_House_check_coins dc_House_check_coins pm_House_check_coins an_House_check_coins cd_House_check_coins ct_House_check_coins), sl_House_check_coins⟩) (c_House_check_coins : PySem.W.codeIn K cd_House_check_coins "House.check_coins" = true) (k_House_check_coins : PySem.W.keepIn K (.ref f_House_check_coins) = true)
    (a_House_purse : PySem.W.findIn K (.ref c_House) "purse" = some (some (.ref f_House_purse))) (i_House_purse : PySem.W.isFn K (.ref f_House_purse) = true) (l_House_purse : K.lookup f_House_purse = some ⟨oc_House_purse, od_House_purse, .func (PySem.W.fnOf "purse" "House.purse" (defArgs s_House_purse) (defBody s_House_purse) (defScope s_House_purse) .none kV_House_purse dc_House_purse pm_House_purse an_House_purse cd_House_purse ct_House_purse), sl_House_purse⟩) (c_House_purse : PySem.W.codeIn K cd_House_purse "House.purse" = true) (k_House_purse : PySem.W.keepIn K (.ref f_House_purse) = true)
    (a_House_pledge : PySem.W.findIn K (.ref c_House) "pledge" = some (some (.ref f_House_pledge))) (i_House_pledge : PySem.W.isFn K (.ref f_House_pledge) = true) (l_House_pledge : K.lookup f_House_pledge = some ⟨oc_House_pledge, od_House_pledge, .func (PySem.W.fnOf "pledge" "House.pledge" (defArgs s_House_pledge) (defBody s_House_pledge) (defScope s_House_pledge) .none kV_House_pledge dc_House_pledge pm_House_pledge an_House_pledge cd_House_pledge ct_House_pledge), sl_House_pledge⟩) (c_House_pledge : PySem.W.codeIn K cd_House_pledge "House.pledge" = true) (k_House_pledge : PySem.W.keepIn K (.ref f_House_pledge) = true)
    (a_House_share : PySem.W.findIn K (.ref c_House) "share" = some (some (.ref f_House_share))) (i_House_share : PySem.W.isFn K (.ref f_House_share) = true) (l_House_share : K.lookup f_House_share = some ⟨oc_House_share, od_House_share, .func (PySem.W.fnOf "share" "House.share" (defArgs s_House_share) (defBody s_House_share) (defScope s_House_share) .none kV_House_share dc_House_share pm_House_share an_House_share cd_House_share ct_House_share), sl_House_share⟩) (c_House_share : PySem.W.codeIn K cd_House_share "House.share" = true) (k_House_share : PySem.W.keepIn K (.ref f_House_share) = true)
    (a_House_own : PySem.W.findIn K (.ref c_House) "own" = some (some (.ref f_House_own))) (i_House_own : PySem.W.isFn K (.ref f_House_own) = true) (l_House_own : K.lookup f_House_own = some ⟨oc_House_own, od_House_own, .func (PySem.W.fnOf "own" "House.own" (defArgs s_House_own) (defBody s_House_own) (defScope s_House_own) .none kV_House_own dc_House_own pm_House_own an_House_own cd_House_own ct_House_own), sl_House_own⟩) (c_House_own : PySem.W.codeIn K cd_House_own "House.own" = true) (k_House_own : PySem.W.keepIn K (.ref f_House_own) = true)
    (a_House_coins : PySem.W.findIn K (.ref c_House) "coins" = some (some (.ref f_House_coins))) (i_House_coins : PySem.W.isFn K (.ref f_House_coins) = true) (l_House_coins : K.lookup f_House_coins = some ⟨oc_House_coins, od_House_coins, .func (PySem.W.fnOf "coins" "House.coins" (defArgs s_House_coins) (defBody s_House_coins) (defScope s_House_coins) .none kV_House_coins dc_House_coins pm_House_coins an_House_coins cd_House_coins ct_House_coins), sl_House_coins⟩) (c_House_coins : PySem.W.codeIn K cd_House_coins "House.coins" = true) (k_House_coins : PySem.W.keepIn K (.ref f_House_coins) = true)
    (a_House_need : PySem.W.findIn K (.ref c_House) "need" = some (some (.ref f_House_need))) (i_House_need : PySem.W.isFn K (.ref f_House_need) = true) (l_House_need : K.lookup f_House_need = some ⟨oc_House_need, od_House_need, .func (PySem.W.fnOf "need" "House.need" (defArgs s_House_need) (defBody s_House_need) (defScope s_House_need) .none kV_House_need dc_House_need pm_House_need an_House_need cd_House_need ct_House_need), sl_House_need⟩) (c_House_need : PySem.W.codeIn K cd_House_need "House.need" = true) (k_House_need : PySem.W.keepIn K (.ref f_House_need) = true)
    (a_House_today : PySem.W.findIn K (.ref c_House) "today" = some (some (.ref f_House_today))) (i_House_today : PySem.W.isFn K (.ref f_House_today) = true) (l_House_today : K.lookup f_House_today = some ⟨oc_House_today, od_House_today, .func (PySem.W.fnOf "today" "House.today" (defArgs s_House_today) (defBody s_House_today) (defScope s_House_today) .none kV_House_today dc_House_today pm_House_today an_House_today cd_House_today ct_House_today), sl_House_today⟩) (c_House_today : PySem.W.codeIn K cd_House_today "House.today" = true) (k_House_today : PySem.W.keepIn K (.ref f_House_today) = true)
    (a_check_order : PySem.W.nsIn K mainGlobals "check_order" = some (some (.ref f_check_order))) (l_check_order : K.lookup f_check_order = some ⟨oc_check_order, od_check_order, .func (PySem.W.fnOf "check_order" "check_order" (defArgs s_check_order) (defBody s_check_order) (defScope s_check_order) .none kV_check_order dc_check_order pm_check_order an_check_order cd_check_order ct_check_order), sl_check_order⟩) (c_check_order : PySem.W.codeIn K cd_check_order "check_order" = true) (k_check_order : PySem.W.keepIn K (.ref f_check_order) = true)
    (a_divisor : PySem.W.nsIn K mainGlobals "divisor" = some (some (.ref f_divisor))) (l_divisor : K.lookup f_divisor = some ⟨oc_divisor, od_divisor, .func (PySem.W.fnOf "divisor" "divisor" (defArgs s_divisor) (defBody s_divisor) (defScope s_divisor) .none kV_divisor dc_divisor pm_divisor an_divisor cd_divisor ct_divisor), sl_divisor⟩) (c_divisor : PySem.W.codeIn K cd_divisor "divisor" = true) (k_divisor : PySem.W.keepIn K (.ref f_divisor) = true)
    (a_part : PySem.W.nsIn K mainGlobals "part" = some (some (.ref f_part))) (l_part : K.lookup f_part = some ⟨oc_part, od_part, .func (PySem.W.fnOf "part" "part" (defArgs s_part) (defBody s_part) (defScope s_part) .none kV_part dc_part pm_part an_part cd_part ct_part), sl_part⟩) (c_part : PySem.W.codeIn K cd_part "part" = true) (k_part : PySem.W.keepIn K (.ref f_part) = true)
    (a_under : PySem.W.nsIn K mainGlobals "under" = some (some (.ref f_under))) (l_under : K.lookup f_under = some ⟨oc_under, od_under, .func (PySem.W.fnOf "under" "under" (defArgs s_under) (defBody s_under) (defScope s_under) .none kV_under dc_under pm_under an_under cd_under ct_under), sl_under⟩) (c_under : PySem.W.codeIn K cd_under "under" = true) (k_under : PySem.W.keepIn K (.ref f_under) = true)
    (a_losses_of : PySem.W.nsIn K mainGlobals "losses_of" = some (some (.ref f_losses_of))) (l_losses_of : K.lookup f_losses_of = some ⟨oc_losses_of, od_losses_of, .func (PySem.W.fnOf "losses_of" "losses_of" (defArgs s_losses_of) (defBody s_losses_of) (defScope s_losses_of) .none kV_losses_of dc_losses_of pm_losses_of an_losses_of cd_losses_of ct_losses_of), sl_losses_of⟩) (c_losses_of : PySem.W.codeIn K cd_losses_of "losses_of" = true) (k_losses_of : PySem.W.keepIn K (.ref f_losses_of) = true)
    (a_worst_days : PySem.W.nsIn K mainGlobals "worst_days" = some (some (.ref f_worst_days))) (l_worst_days : K.lookup f_worst_days = some ⟨oc_worst_days, od_worst_days, .func (PySem.W.fnOf "worst_days" "worst_days" (defArgs s_worst_days) (defBody s_worst_days) (defScope s_worst_days) .none kV_worst_days dc_worst_days pm_worst_days an_worst_days cd_worst_days ct_worst_days), sl_worst_days⟩) (c_worst_days : PySem.W.codeIn K cd_worst_days "worst_days" = true) (k_worst_days : PySem.W.keepIn K (.ref f_worst_days) = true)
    (a_need_of : PySem.W.nsIn K mainGlobals "need_of" = some (some (.ref f_need_of))) (l_need_of : K.lookup f_need_of = some ⟨oc_need_of, od_need_of, .func (PySem.W.fnOf "need_of" "need_of" (defArgs s_need_of) (defBody s_need_of) (defScope s_need_of) .none kV_need_of dc_need_of pm_need_of an_need_of cd_need_of ct_need_of), sl_need_of⟩) (c_need_of : PySem.W.codeIn K cd_need_of "need_of" = true) (k_need_of : PySem.W.keepIn K (.ref f_need_of) = true)
    (a_check_rule : PySem.W.nsIn K mainGlobals "check_rule" = some (some (.ref f_check_rule))) (l_check_rule : K.lookup f_check_rule = some ⟨oc_check_rule, od_check_rule, .func (PySem.W.fnOf "check_rule" "check_rule" (defArgs s_check_rule) (defBody s_check_rule) (defScope s_check_rule) .none kV_check_rule dc_check_rule pm_check_rule an_check_rule cd_check_rule ct_check_rule), sl_check_rule⟩) (c_check_rule : PySem.W.codeIn K cd_check_rule "check_rule" = true) (k_check_rule : PySem.W.keepIn K (.ref f_check_rule) = true)
    (a_check_enough : PySem.W.nsIn K mainGlobals "check_enough" = some (some (.ref f_check_enough))) (l_check_enough : K.lookup f_check_enough = some ⟨oc_check_enough, od_check_enough, .func (PySem.W.fnOf "check_enough" "check_enough" (defArgs s_check_enough) (defBody s_check_enough) (defScope s_check_enough) .none kV_check_enough dc_check_enough pm_check_enough an_check_enough cd_check_enough ct_check_enough), sl_check_enough⟩) (c_check_enough : PySem.W.codeIn K cd_check_enough "check_enough" = true) (k_check_enough : PySem.W.keepIn K (.ref f_check_enough) = true)
    (a_check_covered : PySem.W.nsIn K mainGlobals "check_covered" = some (some (.ref f_check_covered))) (l_check_covered : K.lookup f_check_covered = some ⟨oc_check_covered, od_check_covered, .func (PySem.W.fnOf "check_covered" "check_covered" (defArgs s_check_covered) (defBody s_check_covered) (defScope s_check_covered) .none kV_check_covered dc_check_covered pm_check_covered an_check_covered cd_check_covered ct_check_covered), sl_check_covered⟩) (c_check_covered : PySem.W.codeIn K cd_check_covered "check_covered" = true) (k_check_covered : PySem.W.keepIn K (.ref f_check_covered) = true)
    (a__law_cell : PySem.W.nsIn K mainGlobals "_law_cell" = some (some (.ref f__law_cell))) (l__law_cell : K.lookup f__law_cell = some ⟨oc__law_cell, od__law_cell, .func (PySem.W.fnOf "_law_cell" "_law_cell" (defArgs s__law_cell) (defBody s__law_cell) (defScope s__law_cell) .none kV__law_cell dc__law_cell pm__law_cell an__law_cell cd__law_cell ct__law_cell), sl__law_cell⟩) (c__law_cell : PySem.W.codeIn K cd__law_cell "_law_cell" = true) (k__law_cell : PySem.W.keepIn K (.ref f__law_cell) = true)
    (a__law_draw : PySem.W.nsIn K mainGlobals "_law_draw" = some (some (.ref f__law_draw))) (l__law_draw : K.lookup f__law_draw = some ⟨oc__law_draw, od__law_draw, .func (PySem.W.fnOf "_law_draw" "_law_draw" (defArgs s__law_draw) (defBody s__law_draw) (defScope s__law_draw) .none kV__law_draw dc__law_draw pm__law_draw an__law_draw cd__law_draw ct__law_draw), sl__law_draw⟩) (c__law_draw : PySem.W.codeIn K cd__law_draw "_law_draw" = true) (k__law_draw : PySem.W.keepIn K (.ref f__law_draw) = true)
    (a__law_great : PySem.W.nsIn K mainGlobals "_law_great" = some (some (.ref f__law_great))) (l__law_great : K.lookup f__law_great = some ⟨oc__law_great, od__law_great, .func (PySem.W.fnOf "_law_great" "_law_great" (defArgs s__law_great) (defBody s__law_great) (defScope s__law_great) .none kV__law_great dc__law_great pm__law_great an__law_great cd__law_great ct__law_great), sl__law_great⟩) (c__law_great : PySem.W.codeIn K cd__law_great "_law_great" = true) (k__law_great : PySem.W.keepIn K (.ref f__law_great) = true)
    (a__law_amount : PySem.W.nsIn K mainGlobals "_law_amount" = some (some (.ref f__law_amount))) (l__law_amount : K.lookup f__law_amount = some ⟨oc__law_amount, od__law_amount, .func (PySem.W.fnOf "_law_amount" "_law_amount" (defArgs s__law_amount) (defBody s__law_amount) (defScope s__law_amount) .none kV__law_amount dc__law_amount pm__law_amount an__law_amount cd__law_amount ct__law_amount), sl__law_amount⟩) (c__law_amount : PySem.W.codeIn K cd__law_amount "_law_amount" = true) (k__law_amount : PySem.W.keepIn K (.ref f__law_amount) = true)
    (a__law_coins : PySem.W.nsIn K mainGlobals "_law_coins" = some (some (.ref f__law_coins))) (l__law_coins : K.lookup f__law_coins = some ⟨oc__law_coins, od__law_coins, .func (PySem.W.fnOf "_law_coins" "_law_coins" (defArgs s__law_coins) (defBody s__law_coins) (defScope s__law_coins) .none kV__law_coins dc__law_coins pm__law_coins an__law_coins cd__law_coins ct__law_coins), sl__law_coins⟩) (c__law_coins : PySem.W.codeIn K cd__law_coins "_law_coins" = true) (k__law_coins : PySem.W.keepIn K (.ref f__law_coins) = true)
    (a__law_member : PySem.W.nsIn K mainGlobals "_law_member" = some (some (.ref f__law_member))) (l__law_member : K.lookup f__law_member = some ⟨oc__law_member, od__law_member, .func (PySem.W.fnOf "_law_member" "_law_member" (defArgs s__law_member) (defBody s__law_member) (defScope s__law_member) .none kV__law_member dc__law_member pm__law_member an__law_member cd__law_member ct__law_member), sl__law_member⟩) (c__law_member : PySem.W.codeIn K cd__law_member "_law_member" = true) (k__law_member : PySem.W.keepIn K (.ref f__law_member) = true)
    (a__law_name : PySem.W.nsIn K mainGlobals "_law_name" = some (some (.ref f__law_name))) (l__law_name : K.lookup f__law_name = some ⟨oc__law_name, od__law_name, .func (PySem.W.fnOf "_law_name" "_law_name" (defArgs s__law_name) (defBody s__law_name) (defScope s__law_name) .none kV__law_name dc__law_name pm__law_name an__law_name cd__law_name ct__law_name), sl__law_name⟩) (c__law_name : PySem.W.codeIn K cd__law_name "_law_name" = true) (k__law_name : PySem.W.keepIn K (.ref f__law_name) = true)
    (a__law_done : PySem.W.nsIn K mainGlobals "_law_done" = some (some (.ref f__law_done))) (l__law_done : K.lookup f__law_done = some ⟨oc__law_done, od__law_done, .func (PySem.W.fnOf "_law_done" "_law_done" (defArgs s__law_done) (defBody s__law_done) (defScope s__law_done) .none kV__law_done dc__law_done pm__law_done an__law_done cd__law_done ct__law_done), sl__law_done⟩) (c__law_done : PySem.W.codeIn K cd__law_done "_law_done" = true) (k__law_done : PySem.W.keepIn K (.ref f__law_done) = true)
    (a__law_found : PySem.W.nsIn K mainGlobals "_law_found" = some (some (.ref f__law_found))) (l__law_found : K.lookup f__law_found = some ⟨oc__law_found, od__law_found, .func (PySem.W.fnOf "_law_found" "_law_found" (defArgs s__law_found) (defBody s__law_found) (defScope s__law_found) .none kV__law_found dc__law_found pm__law_found an__law_found cd__law_found ct__law_found), sl__law_found⟩) (c__law_found : PySem.W.codeIn K cd__law_found "_law_found" = true) (k__law_found : PySem.W.keepIn K (.ref f__law_found) = true)
    (a__law_due : PySem.W.nsIn K mainGlobals "_law_due" = some (some (.ref f__law_due))) (l__law_due : K.lookup f__law_due = some ⟨oc__law_due, od__law_due, .func (PySem.W.fnOf "_law_due" "_law_due" (defArgs s__law_due) (defBody s__law_due) (defScope s__law_due) .none kV__law_due dc__law_due pm__law_due an__law_due cd__law_due ct__law_due), sl__law_due⟩) (c__law_due : PySem.W.codeIn K cd__law_due "_law_due" = true) (k__law_due : PySem.W.keepIn K (.ref f__law_due) = true)
    (a__law_stands : PySem.W.nsIn K mainGlobals "_law_stands" = some (some (.ref f__law_stands))) (l__law_stands : K.lookup f__law_stands = some ⟨oc__law_stands, od__law_stands, .func (PySem.W.fnOf "_law_stands" "_law_stands" (defArgs s__law_stands) (defBody s__law_stands) (defScope s__law_stands) .none kV__law_stands dc__law_stands pm__law_stands an__law_stands cd__law_stands ct__law_stands), sl__law_stands⟩) (c__law_stands : PySem.W.codeIn K cd__law_stands "_law_stands" = true) (k__law_stands : PySem.W.keepIn K (.ref f__law_stands) = true)
    (a__law_tried : PySem.W.nsIn K mainGlobals "_law_tried" = some (some (.ref f__law_tried))) (l__law_tried : K.lookup f__law_tried = some ⟨oc__law_tried, od__law_tried, .func (PySem.W.fnOf "_law_tried" "_law_tried" (defArgs s__law_tried) (defBody s__law_tried) (defScope s__law_tried) .none kV__law_tried dc__law_tried pm__law_tried an__law_tried cd__law_tried ct__law_tried), sl__law_tried⟩) (c__law_tried : PySem.W.codeIn K cd__law_tried "_law_tried" = true) (k__law_tried : PySem.W.keepIn K (.ref f__law_tried) = true)
    (a_law : PySem.W.nsIn K mainGlobals "law" = some (some (.ref f_law))) (l_law : K.lookup f_law = some ⟨oc_law, od_law, .func (PySem.W.fnOf "law" "law" (defArgs s_law) (defBody s_law) (defScope s_law) .none kV_law dc_law pm_law an_law cd_law ct_law), sl_law⟩) (c_law : PySem.W.codeIn K cd_law "law" = true) (k_law : PySem.W.keepIn K (.ref f_law) = true)
    (cq_worst_days : cd_worst_days = .ref cw_worst_days) (lc_worst_days : K.lookup cw_worst_days = some ⟨ow_worst_days, xw_worst_days, .fields vw_worst_days, sw_worst_days⟩) (ve_worst_days : vw_worst_days[11]? = some (.ref tw_worst_days))
    (w_ValueError : PySem.W.nsIn K mainGlobals "ValueError" = some none)
    (w_abs : PySem.W.nsIn K mainGlobals "abs" = some none)
    (w_bool : PySem.W.nsIn K mainGlobals "bool" = some none)
    (w_enumerate : PySem.W.nsIn K mainGlobals "enumerate" = some none)
    (w_int : PySem.W.nsIn K mainGlobals "int" = some none)
    (w_isinstance : PySem.W.nsIn K mainGlobals "isinstance" = some none)
    (w_len : PySem.W.nsIn K mainGlobals "len" = some none)
    (w_list : PySem.W.nsIn K mainGlobals "list" = some none)
    (w_max : PySem.W.nsIn K mainGlobals "max" = some none)
    (w_min : PySem.W.nsIn K mainGlobals "min" = some none)
    (w_range : PySem.W.nsIn K mainGlobals "range" = some none)
    (w_sorted : PySem.W.nsIn K mainGlobals "sorted" = some none)
    (w_sum : PySem.W.nsIn K mainGlobals "sum" = some none)
    (w_tuple : PySem.W.nsIn K mainGlobals "tuple" = some none)
    (w_zip : PySem.W.nsIn K mainGlobals "zip" = some none) : Txt K mg := {
    c_Bare := c_Bare, m_Bare := PySem.W.mg_of X G m_Bare,
    c_NoDeal := c_NoDeal, m_NoDeal := PySem.W.mg_of X G m_NoDeal,
    c_NoLayer := c_NoLayer, m_NoLayer := PySem.W.mg_of X G m_NoLayer,
    c_NoMember := c_NoMember, m_NoMember := PySem.W.mg_of X G m_NoMember,
    c_NoPart := c_NoPart, m_NoPart := PySem.W.mg_of X G m_NoPart,
    c_NoRule := c_NoRule, m_NoRule := PySem.W.mg_of X G m_NoRule,
    c_NoTerms := c_NoTerms, m_NoTerms := PySem.W.mg_of X G m_NoTerms,
    c_Out := c_Out, m_Out := PySem.W.mg_of X G m_Out,
    c_Poor := c_Poor, m_Poor := PySem.W.mg_of X G m_Poor,
    c_QuitsError := c_QuitsError, m_QuitsError := PySem.W.mg_of X G m_QuitsError,
    e_Bare := errOk_mk x_Bare ga_Bare gn_Bare be_Bare hd_Bare fa_Bare sn_ tk_ mo_Bare,
    i_Bare_Bare := kit_self,
    i_Bare_NoDeal := kit_ne n_Bare_NoDeal hd_NoDeal ty_NoDeal s_Bare_NoDeal,
    i_Bare_NoLayer := kit_ne n_Bare_NoLayer hd_NoLayer ty_NoLayer s_Bare_NoLayer,
    i_Bare_NoMember := kit_ne n_Bare_NoMember hd_NoMember ty_NoMember s_Bare_NoMember,
    i_Bare_NoPart := kit_ne n_Bare_NoPart hd_NoPart ty_NoPart s_Bare_NoPart,
    i_Bare_NoRule := kit_ne n_Bare_NoRule hd_NoRule ty_NoRule s_Bare_NoRule,
    i_Bare_NoTerms := kit_ne n_Bare_NoTerms hd_NoTerms ty_NoTerms s_Bare_NoTerms,
    i_Bare_Out := kit_ne n_Bare_Out hd_Out ty_Out s_Bare_Out,
    i_Bare_Poor := kit_ne n_Bare_Poor hd_Poor ty_Poor s_Bare_Poor,
    i_Bare_QuitsError := kit_ne n_Bare_QuitsError hd_QuitsError ty_QuitsError s_Bare_QuitsError,
    i_Bare_ValueError := kit_V v_Bare,
    q_Bare_QuitsError := exm_mk b_QuitsError hd_QuitsError ty_QuitsError s_Bare_QuitsError,
    e_NoLayer := errOk_mk x_NoLayer ga_NoLayer gn_NoLayer be_NoLayer hd_NoLayer fa_NoLayer sn_ tk_ mo_NoLayer,
    i_NoLayer_Bare := kit_ne n_NoLayer_Bare hd_Bare ty_Bare s_NoLayer_Bare,
    i_NoLayer_NoDeal := kit_ne n_NoLayer_NoDeal hd_NoDeal ty_NoDeal s_NoLayer_NoDeal,
    i_NoLayer_NoLayer := kit_self,
    i_NoLayer_NoMember := kit_ne n_NoLayer_NoMember hd_NoMember ty_NoMember s_NoLayer_NoMember,
    i_NoLayer_NoPart := kit_ne n_NoLayer_NoPart hd_NoPart ty_NoPart s_NoLayer_NoPart,
    i_NoLayer_NoRule := kit_ne n_NoLayer_NoRule hd_NoRule ty_NoRule s_NoLayer_NoRule,
    i_NoLayer_NoTerms := kit_ne n_NoLayer_NoTerms hd_NoTerms ty_NoTerms s_NoLayer_NoTerms,
    i_NoLayer_Out := kit_ne n_NoLayer_Out hd_Out ty_Out s_NoLayer_Out,
    i_NoLayer_Poor := kit_ne n_NoLayer_Poor hd_Poor ty_Poor s_NoLayer_Poor,
    i_NoLayer_QuitsError := kit_ne n_NoLayer_QuitsError hd_QuitsError ty_QuitsError s_NoLayer_QuitsError,
    i_NoLayer_ValueError := kit_V v_NoLayer,
    q_NoLayer_QuitsError := exm_mk b_QuitsError hd_QuitsError ty_QuitsError s_NoLayer_QuitsError,
    e_NoMember := errOk_mk x_NoMember ga_NoMember gn_NoMember be_NoMember hd_NoMember fa_NoMember sn_ tk_ mo_NoMember,
    i_NoMember_Bare := kit_ne n_NoMember_Bare hd_Bare ty_Bare s_NoMember_Bare,
    i_NoMember_NoDeal := kit_ne n_NoMember_NoDeal hd_NoDeal ty_NoDeal s_NoMember_NoDeal,
    i_NoMember_NoLayer := kit_ne n_NoMember_NoLayer hd_NoLayer ty_NoLayer s_NoMember_NoLayer,
    i_NoMember_NoMember := kit_self,
    i_NoMember_NoPart := kit_ne n_NoMember_NoPart hd_NoPart ty_NoPart s_NoMember_NoPart,
    i_NoMember_NoRule := kit_ne n_NoMember_NoRule hd_NoRule ty_NoRule s_NoMember_NoRule,
    i_NoMember_NoTerms := kit_ne n_NoMember_NoTerms hd_NoTerms ty_NoTerms s_NoMember_NoTerms,
    i_NoMember_Out := kit_ne n_NoMember_Out hd_Out ty_Out s_NoMember_Out,
    i_NoMember_Poor := kit_ne n_NoMember_Poor hd_Poor ty_Poor s_NoMember_Poor,
    i_NoMember_QuitsError := kit_ne n_NoMember_QuitsError hd_QuitsError ty_QuitsError s_NoMember_QuitsError,
    i_NoMember_ValueError := kit_V v_NoMember,
    q_NoMember_QuitsError := exm_mk b_QuitsError hd_QuitsError ty_QuitsError s_NoMember_QuitsError,
    e_NoPart := errOk_mk x_NoPart ga_NoPart gn_NoPart be_NoPart hd_NoPart fa_NoPart sn_ tk_ mo_NoPart,
    i_NoPart_Bare := kit_ne n_NoPart_Bare hd_Bare ty_Bare s_NoPart_Bare,
    i_NoPart_NoDeal := kit_ne n_NoPart_NoDeal hd_NoDeal ty_NoDeal s_NoPart_NoDeal,
    i_NoPart_NoLayer := kit_ne n_NoPart_NoLayer hd_NoLayer ty_NoLayer s_NoPart_NoLayer,
    i_NoPart_NoMember := kit_ne n_NoPart_NoMember hd_NoMember ty_NoMember s_NoPart_NoMember,
    i_NoPart_NoPart := kit_self,
    i_NoPart_NoRule := kit_ne n_NoPart_NoRule hd_NoRule ty_NoRule s_NoPart_NoRule,
    i_NoPart_NoTerms := kit_ne n_NoPart_NoTerms hd_NoTerms ty_NoTerms s_NoPart_NoTerms,
    i_NoPart_Out := kit_ne n_NoPart_Out hd_Out ty_Out s_NoPart_Out,
    i_NoPart_Poor := kit_ne n_NoPart_Poor hd_Poor ty_Poor s_NoPart_Poor,
    i_NoPart_QuitsError := kit_ne n_NoPart_QuitsError hd_QuitsError ty_QuitsError s_NoPart_QuitsError,
    i_NoPart_ValueError := kit_V v_NoPart,
    q_NoPart_QuitsError := exm_mk b_QuitsError hd_QuitsError ty_QuitsError s_NoPart_QuitsError,
    e_NoRule := errOk_mk x_NoRule ga_NoRule gn_NoRule be_NoRule hd_NoRule fa_NoRule sn_ tk_ mo_NoRule,
    i_NoRule_Bare := kit_ne n_NoRule_Bare hd_Bare ty_Bare s_NoRule_Bare,
    i_NoRule_NoDeal := kit_ne n_NoRule_NoDeal hd_NoDeal ty_NoDeal s_NoRule_NoDeal,
    i_NoRule_NoLayer := kit_ne n_NoRule_NoLayer hd_NoLayer ty_NoLayer s_NoRule_NoLayer,
    i_NoRule_NoMember := kit_ne n_NoRule_NoMember hd_NoMember ty_NoMember s_NoRule_NoMember,
    i_NoRule_NoPart := kit_ne n_NoRule_NoPart hd_NoPart ty_NoPart s_NoRule_NoPart,
    i_NoRule_NoRule := kit_self,
    i_NoRule_NoTerms := kit_ne n_NoRule_NoTerms hd_NoTerms ty_NoTerms s_NoRule_NoTerms,
    i_NoRule_Out := kit_ne n_NoRule_Out hd_Out ty_Out s_NoRule_Out,
    i_NoRule_Poor := kit_ne n_NoRule_Poor hd_Poor ty_Poor s_NoRule_Poor,
    i_NoRule_QuitsError := kit_ne n_NoRule_QuitsError hd_QuitsError ty_QuitsError s_NoRule_QuitsError,
    i_NoRule_ValueError := kit_V v_NoRule,
    q_NoRule_QuitsError := exm_mk b_QuitsError hd_QuitsError ty_QuitsError s_NoRule_QuitsError,
    e_NoTerms := errOk_mk x_NoTerms ga_NoTerms gn_NoTerms be_NoTerms hd_NoTerms fa_NoTerms sn_ tk_ mo_NoTerms,
    i_NoTerms_Bare := kit_ne n_NoTerms_Bare hd_Bare ty_Bare s_NoTerms_Bare,
    i_NoTerms_NoDeal := kit_ne n_NoTerms_NoDeal hd_NoDeal ty_NoDeal s_NoTerms_NoDeal,
    i_NoTerms_NoLayer := kit_ne n_NoTerms_NoLayer hd_NoLayer ty_NoLayer s_NoTerms_NoLayer,
    i_NoTerms_NoMember := kit_ne n_NoTerms_NoMember hd_NoMember ty_NoMember s_NoTerms_NoMember,
    i_NoTerms_NoPart := kit_ne n_NoTerms_NoPart hd_NoPart ty_NoPart s_NoTerms_NoPart,
    i_NoTerms_NoRule := kit_ne n_NoTerms_NoRule hd_NoRule ty_NoRule s_NoTerms_NoRule,
    i_NoTerms_NoTerms := kit_self,
    i_NoTerms_Out := kit_ne n_NoTerms_Out hd_Out ty_Out s_NoTerms_Out,
    i_NoTerms_Poor := kit_ne n_NoTerms_Poor hd_Poor ty_Poor s_NoTerms_Poor,
    i_NoTerms_QuitsError := kit_ne n_NoTerms_QuitsError hd_QuitsError ty_QuitsError s_NoTerms_QuitsError,
    i_NoTerms_ValueError := kit_V v_NoTerms,
    q_NoTerms_QuitsError := exm_mk b_QuitsError hd_QuitsError ty_QuitsError s_NoTerms_QuitsError,
    e_Poor := errOk_mk x_Poor ga_Poor gn_Poor be_Poor hd_Poor fa_Poor sn_ tk_ mo_Poor,
    i_Poor_Bare := kit_ne n_Poor_Bare hd_Bare ty_Bare s_Poor_Bare,
    i_Poor_NoDeal := kit_ne n_Poor_NoDeal hd_NoDeal ty_NoDeal s_Poor_NoDeal,
    i_Poor_NoLayer := kit_ne n_Poor_NoLayer hd_NoLayer ty_NoLayer s_Poor_NoLayer,
    i_Poor_NoMember := kit_ne n_Poor_NoMember hd_NoMember ty_NoMember s_Poor_NoMember,
    i_Poor_NoPart := kit_ne n_Poor_NoPart hd_NoPart ty_NoPart s_Poor_NoPart,
    i_Poor_NoRule := kit_ne n_Poor_NoRule hd_NoRule ty_NoRule s_Poor_NoRule,
    i_Poor_NoTerms := kit_ne n_Poor_NoTerms hd_NoTerms ty_NoTerms s_Poor_NoTerms,
    i_Poor_Out := kit_ne n_Poor_Out hd_Out ty_Out s_Poor_Out,
    i_Poor_Poor := kit_self,
    i_Poor_QuitsError := kit_ne n_Poor_QuitsError hd_QuitsError ty_QuitsError s_Poor_QuitsError,
    i_Poor_ValueError := kit_V v_Poor,
    q_Poor_QuitsError := exm_mk b_QuitsError hd_QuitsError ty_QuitsError s_Poor_QuitsError,
    c_Book := c_Book, m_Book := PySem.W.mg_of X G m_Book, cl_Book := ⟨pg_Book, hd_Book, po_Book, sa_Book⟩,
    na_Book_day := na_Book_day,
    na_Book_deals := na_Book_deals,
    na_Book_many := na_Book_many,
    na_Book_wares := na_Book_wares,
    c_House := c_House, m_House := PySem.W.mg_of X G m_House, cl_House := ⟨pg_House, hd_House, po_House, sa_House⟩,
    na_House_book := na_House_book,
    na_House_kept := na_House_kept,
    na_House_moves := na_House_moves,
    na_House_order := na_House_order,
    na_House_outs := na_House_outs,
    na_House_pledges := na_House_pledges,
    na_House_purses := na_House_purses,
    na_House_reports := na_House_reports,
    na_House_rule := na_House_rule,
    na_House_shares := na_House_shares,
    t_MOST_COINS := t_MOST_COINS, g_MOST_COINS := PySem.W.mg_of X G g_MOST_COINS,
    t_PAYEE := t_PAYEE, g_PAYEE := PySem.W.mg_of X G g_PAYEE,
    t_PAYER := t_PAYER, g_PAYER := PySem.W.mg_of X G g_PAYER,
    t_STATE := t_STATE, g_STATE := PySem.W.mg_of X G g_STATE,
    t_UNITS := t_UNITS, g_UNITS := PySem.W.mg_of X G g_UNITS,
    t_WARE := t_WARE, g_WARE := PySem.W.mg_of X G g_WARE,
    a_WORDS := w_WORDS, g_WORDS := PySem.W.mg_of X G g_WORDS, q_WORDS := fun H => .inr ⟨_, _, _, o_WORDS, rfl, rfl, (by show 5 ≤ _; rw [sizeLine_eq]; decide), (.cons ⟨_, rfl⟩ (.cons ⟨_, rfl⟩ (.cons ⟨_, rfl⟩ (.cons ⟨_, rfl⟩ (.cons ⟨_, rfl⟩ .nil)))))⟩,
    d_Book___init__ := { a := f_Book___init__, fd := _, F := fun_mk (st := s_Book___init__) l_Book___init__ c_Book___init__ k_Book___init__, b := (fun_mk (st := s_Book___init__) l_Book___init__ c_Book___init__ k_Book___init__).binds (ps := ["self", "many", "wares"]) fun _ _ _ _ _ _ us hl => (by obtain ⟨_, _, _, rfl⟩ := len3 hl; rfl), mt := ⟨a_Book___init__, i_Book___init__, k_Book___init__⟩ }, mk_Book := ⟨mk_Book, a_Book___init__, i_Book___init__, kc_Book⟩,
    d_Book_today := { a := f_Book_today, fd := _, F := fun_mk (st := s_Book_today) l_Book_today c_Book_today k_Book_today, b := (fun_mk (st := s_Book_today) l_Book_today c_Book_today k_Book_today).binds (ps := ["self"]) fun _ _ _ _ _ _ us hl => (by obtain ⟨_, rfl⟩ := len1 hl; rfl), mt := ⟨a_Book_today, i_Book_today, k_Book_today⟩ },
    d_Book_position := { a := f_Book_position, fd := _, F := fun_mk (st := s_Book_position) l_Book_position c_Book_position k_Book_position, b := (fun_mk (st := s_Book_position) l_Book_position c_Book_position k_Book_position).binds (ps := ["self", "member"]) fun _ _ _ _ _ _ us hl => (by obtain ⟨_, _, rfl⟩ := len2 hl; rfl), mt := ⟨a_Book_position, i_Book_position, k_Book_position⟩ },
    d_House___init__ := { a := f_House___init__, fd := _, F := fun_mk (st := s_House___init__) l_House___init__ c_House___init__ k_House___init__, b := (fun_mk (st := s_House___init__) l_House___init__ c_House___init__ k_House___init__).binds (ps := ["self", "members", "moves", "rule", "order", "own"]) fun _ _ _ _ _ _ us hl => (by obtain ⟨_, _, _, _, _, _, rfl⟩ := len6 hl; rfl), mt := ⟨a_House___init__, i_House___init__, k_House___init__⟩ }, mk_House := ⟨mk_House, a_House___init__, i_House___init__, kc_House⟩,
    d_House_put := { a := f_House_put, fd := _, F := fun_mk (st := s_House_put) l_House_put c_House_put k_House_put, b := (fun_mk (st := s_House_put) l_House_put c_House_put k_House_put).binds (ps := ["self", "member", "coins"]) fun _ _ _ _ _ _ us hl => (by obtain ⟨_, _, _, rfl⟩ := len3 hl; rfl), mt := ⟨a_House_put, i_House_put, k_House_put⟩ },
    d_House_take := { a := f_House_take, fd := _, F := fun_mk (st := s_House_take) l_House_take c_House_take k_House_take, b := (fun_mk (st := s_House_take) l_House_take c_House_take k_House_take).binds (ps := ["self", "member", "coins"]) fun _ _ _ _ _ _ us hl => (by obtain ⟨_, _, _, rfl⟩ := len3 hl; rfl), mt := ⟨a_House_take, i_House_take, k_House_take⟩ },
    d_House_lay := { a := f_House_lay, fd := _, F := fun_mk (st := s_House_lay) l_House_lay c_House_lay k_House_lay, b := (fun_mk (st := s_House_lay) l_House_lay c_House_lay k_House_lay).binds (ps := ["self", "member", "coins"]) fun _ _ _ _ _ _ us hl => (by obtain ⟨_, _, _, rfl⟩ := len3 hl; rfl), mt := ⟨a_House_lay, i_House_lay, k_House_lay⟩ },
    d_House_free := { a := f_House_free, fd := _, F := fun_mk (st := s_House_free) l_House_free c_House_free k_House_free, b := (fun_mk (st := s_House_free) l_House_free c_House_free k_House_free).binds (ps := ["self", "member", "coins"]) fun _ _ _ _ _ _ us hl => (by obtain ⟨_, _, _, rfl⟩ := len3 hl; rfl), mt := ⟨a_House_free, i_House_free, k_House_free⟩ },
    d_House_check_coins := { a := f_House_check_coins, fd := _, F := fun_mk (st := s_House_check_coins) l_House_check_coins c_House_check_coins k_House_check_coins, b := (fun_mk (st := s_House_check_coins) l_House_check_coins c_House_check_coins k_House_check_coins).binds (ps := ["self", "member", "coins"]) fun _ _ _ _ _ _ us hl => (by obtain ⟨_, _, _, rfl⟩ := len3 hl; rfl), mt := ⟨a_House_check_coins, i_House_check_coins, k_House_check_coins⟩ },
    d_House_purse := { a := f_House_purse, fd := _, F := fun_mk (st := s_House_purse) l_House_purse c_House_purse k_House_purse, b := (fun_mk (st := s_House_purse) l_House_purse c_House_purse k_House_purse).binds (ps := ["self", "member"]) fun _ _ _ _ _ _ us hl => (by obtain ⟨_, _, rfl⟩ := len2 hl; rfl), mt := ⟨a_House_purse, i_House_purse, k_House_purse⟩ },
    d_House_pledge := { a := f_House_pledge, fd := _, F := fun_mk (st := s_House_pledge) l_House_pledge c_House_pledge k_House_pledge, b := (fun_mk (st := s_House_pledge) l_House_pledge c_House_pledge k_House_pledge).binds (ps := ["self", "member"]) fun _ _ _ _ _ _ us hl => (by obtain ⟨_, _, rfl⟩ := len2 hl; rfl), mt := ⟨a_House_pledge, i_House_pledge, k_House_pledge⟩ },
    d_House_share := { a := f_House_share, fd := _, F := fun_mk (st := s_House_share) l_House_share c_House_share k_House_share, b := (fun_mk (st := s_House_share) l_House_share c_House_share k_House_share).binds (ps := ["self", "member"]) fun _ _ _ _ _ _ us hl => (by obtain ⟨_, _, rfl⟩ := len2 hl; rfl), mt := ⟨a_House_share, i_House_share, k_House_share⟩ },
    d_House_own := { a := f_House_own, fd := _, F := fun_mk (st := s_House_own) l_House_own c_House_own k_House_own, b := (fun_mk (st := s_House_own) l_House_own c_House_own k_House_own).binds (ps := ["self"]) fun _ _ _ _ _ _ us hl => (by obtain ⟨_, rfl⟩ := len1 hl; rfl), mt := ⟨a_House_own, i_House_own, k_House_own⟩ },
    d_House_coins := { a := f_House_coins, fd := _, F := fun_mk (st := s_House_coins) l_House_coins c_House_coins k_House_coins, b := (fun_mk (st := s_House_coins) l_House_coins c_House_coins k_House_coins).binds (ps := ["self"]) fun _ _ _ _ _ _ us hl => (by obtain ⟨_, rfl⟩ := len1 hl; rfl), mt := ⟨a_House_coins, i_House_coins, k_House_coins⟩ },
    d_House_need := { a := f_House_need, fd := _, F := fun_mk (st := s_House_need) l_House_need c_House_need k_House_need, b := (fun_mk (st := s_House_need) l_House_need c_House_need k_House_need).binds (ps := ["self", "member"]) fun _ _ _ _ _ _ us hl => (by obtain ⟨_, _, rfl⟩ := len2 hl; rfl), mt := ⟨a_House_need, i_House_need, k_House_need⟩ },
    d_House_today := { a := f_House_today, fd := _, F := fun_mk (st := s_House_today) l_House_today c_House_today k_House_today, b := (fun_mk (st := s_House_today) l_House_today c_House_today k_House_today).binds (ps := ["self"]) fun _ _ _ _ _ _ us hl => (by obtain ⟨_, rfl⟩ := len1 hl; rfl), mt := ⟨a_House_today, i_House_today, k_House_today⟩ },
    d_check_order := { a := f_check_order, fd := _, F := fun_mk (st := s_check_order) l_check_order c_check_order k_check_order, b := (fun_mk (st := s_check_order) l_check_order c_check_order k_check_order).binds (ps := ["order"]) fun _ _ _ _ _ _ us hl => (by obtain ⟨_, rfl⟩ := len1 hl; rfl), m := PySem.W.mg_of X G a_check_order },
    d_divisor := { a := f_divisor, fd := _, F := fun_mk (st := s_divisor) l_divisor c_divisor k_divisor, b := (fun_mk (st := s_divisor) l_divisor c_divisor k_divisor).binds (ps := ["one", "other"]) fun _ _ _ _ _ _ us hl => (by obtain ⟨_, _, rfl⟩ := len2 hl; rfl), m := PySem.W.mg_of X G a_divisor },
    d_part := { a := f_part, fd := _, F := fun_mk (st := s_part) l_part c_part k_part, b := (fun_mk (st := s_part) l_part c_part k_part).binds (ps := ["top", "bottom"]) fun _ _ _ _ _ _ us hl => (by obtain ⟨_, _, rfl⟩ := len2 hl; rfl), m := PySem.W.mg_of X G a_part },
    d_under := { a := f_under, fd := _, F := fun_mk (st := s_under) l_under c_under k_under, b := (fun_mk (st := s_under) l_under c_under k_under).binds (ps := ["one", "other"]) fun _ _ _ _ _ _ us hl => (by obtain ⟨_, _, rfl⟩ := len2 hl; rfl), m := PySem.W.mg_of X G a_under },
    d_losses_of := { a := f_losses_of, fd := _, F := fun_mk (st := s_losses_of) l_losses_of c_losses_of k_losses_of, b := (fun_mk (st := s_losses_of) l_losses_of c_losses_of k_losses_of).binds (ps := ["position", "moves"]) fun _ _ _ _ _ _ us hl => (by obtain ⟨_, _, rfl⟩ := len2 hl; rfl), m := PySem.W.mg_of X G a_losses_of },
    d_worst_days := { a := f_worst_days, fd := _, F := fun_mk (st := s_worst_days) l_worst_days c_worst_days k_worst_days, b := (fun_mk (st := s_worst_days) l_worst_days c_worst_days k_worst_days).binds (ps := ["position", "moves", "k"]) fun _ _ _ _ _ _ us hl => (by obtain ⟨_, _, _, rfl⟩ := len3 hl; rfl), m := PySem.W.mg_of X G a_worst_days },
    d_need_of := { a := f_need_of, fd := _, F := fun_mk (st := s_need_of) l_need_of c_need_of k_need_of, b := (fun_mk (st := s_need_of) l_need_of c_need_of k_need_of).binds (ps := ["rule", "position", "moves"]) fun _ _ _ _ _ _ us hl => (by obtain ⟨_, _, _, rfl⟩ := len3 hl; rfl), m := PySem.W.mg_of X G a_need_of },
    d_check_rule := { a := f_check_rule, fd := _, F := fun_mk (st := s_check_rule) l_check_rule c_check_rule k_check_rule, b := (fun_mk (st := s_check_rule) l_check_rule c_check_rule k_check_rule).binds (ps := ["rule", "moves"]) fun _ _ _ _ _ _ us hl => (by obtain ⟨_, _, rfl⟩ := len2 hl; rfl), m := PySem.W.mg_of X G a_check_rule },
    d_check_enough := { a := f_check_enough, fd := _, F := fun_mk (st := s_check_enough) l_check_enough c_check_enough k_check_enough, b := (fun_mk (st := s_check_enough) l_check_enough c_check_enough k_check_enough).binds (ps := ["coins", "wanted"]) fun _ _ _ _ _ _ us hl => (by obtain ⟨_, _, rfl⟩ := len2 hl; rfl), m := PySem.W.mg_of X G a_check_enough },
    d_check_covered := { a := f_check_covered, fd := _, F := fun_mk (st := s_check_covered) l_check_covered c_check_covered k_check_covered, b := (fun_mk (st := s_check_covered) l_check_covered c_check_covered k_check_covered).binds (ps := ["pledge", "need"]) fun _ _ _ _ _ _ us hl => (by obtain ⟨_, _, rfl⟩ := len2 hl; rfl), m := PySem.W.mg_of X G a_check_covered },
    d__law_cell := { a := f__law_cell, fd := _, F := fun_mk (st := s__law_cell) l__law_cell c__law_cell k__law_cell, b := (fun_mk (st := s__law_cell) l__law_cell c__law_cell k__law_cell).binds (ps := ["_law_script", "_law_k"]) fun _ _ _ _ _ _ us hl => (by obtain ⟨_, _, rfl⟩ := len2 hl; rfl), m := PySem.W.mg_of X G a__law_cell },
    d__law_draw := { a := f__law_draw, fd := _, F := fun_mk (st := s__law_draw) l__law_draw c__law_draw k__law_draw, b := (fun_mk (st := s__law_draw) l__law_draw c__law_draw k__law_draw).binds (ps := ["_law_script", "_law_k", "_law_many"]) fun _ _ _ _ _ _ us hl => (by obtain ⟨_, _, _, rfl⟩ := len3 hl; rfl), m := PySem.W.mg_of X G a__law_draw },
    d__law_great := { a := f__law_great, fd := _, F := fun_mk (st := s__law_great) l__law_great c__law_great k__law_great, b := (fun_mk (st := s__law_great) l__law_great c__law_great k__law_great).binds (ps := ["_law_script", "_law_k", "_law_many"]) fun _ _ _ _ _ _ us hl => (by obtain ⟨_, _, _, rfl⟩ := len3 hl; rfl), m := PySem.W.mg_of X G a__law_great },
    d__law_amount := { a := f__law_amount, fd := _, F := fun_mk (st := s__law_amount) l__law_amount c__law_amount k__law_amount, b := (fun_mk (st := s__law_amount) l__law_amount c__law_amount k__law_amount).binds (ps := ["_law_script", "_law_k", "_law_most"]) fun _ _ _ _ _ _ us hl => (by obtain ⟨_, _, _, rfl⟩ := len3 hl; rfl), m := PySem.W.mg_of X G a__law_amount },
    d__law_coins := { a := f__law_coins, fd := _, F := fun_mk (st := s__law_coins) l__law_coins c__law_coins k__law_coins, b := (fun_mk (st := s__law_coins) l__law_coins c__law_coins k__law_coins).binds (ps := ["_law_script", "_law_k", "_law_stock"]) fun _ _ _ _ _ _ us hl => (by obtain ⟨_, _, _, rfl⟩ := len3 hl; rfl), m := PySem.W.mg_of X G a__law_coins },
    d__law_member := { a := f__law_member, fd := _, F := fun_mk (st := s__law_member) l__law_member c__law_member k__law_member, b := (fun_mk (st := s__law_member) l__law_member c__law_member k__law_member).binds (ps := ["_law_script", "_law_k", "_law_many"]) fun _ _ _ _ _ _ us hl => (by obtain ⟨_, _, _, rfl⟩ := len3 hl; rfl), m := PySem.W.mg_of X G a__law_member },
    d__law_name := { a := f__law_name, fd := _, F := fun_mk (st := s__law_name) l__law_name c__law_name k__law_name, b := (fun_mk (st := s__law_name) l__law_name c__law_name k__law_name).binds (ps := ["_law_e"]) fun _ _ _ _ _ _ us hl => (by obtain ⟨_, rfl⟩ := len1 hl; rfl), m := PySem.W.mg_of X G a__law_name },
    d__law_done := { a := f__law_done, fd := _, F := fun_mk (st := s__law_done) l__law_done c__law_done k__law_done, b := (fun_mk (st := s__law_done) l__law_done c__law_done k__law_done).binds (ps := ["_law_house", "_law_word", "_law_member_here", "_law_coins_here"]) fun _ _ _ _ _ _ us hl => (by obtain ⟨_, _, _, _, rfl⟩ := len4 hl; rfl), m := PySem.W.mg_of X G a__law_done },
    d__law_found := { a := f__law_found, fd := _, F := fun_mk (st := s__law_found) l__law_found c__law_found k__law_found, b := (fun_mk (st := s__law_found) l__law_found c__law_found k__law_found).binds (ps := ["_law_house", "_law_word", "_law_member_here", "_law_coins_here"]) fun _ _ _ _ _ _ us hl => (by obtain ⟨_, _, _, _, rfl⟩ := len4 hl; rfl), m := PySem.W.mg_of X G a__law_found },
    d__law_due := { a := f__law_due, fd := _, F := fun_mk (st := s__law_due) l__law_due c__law_due k__law_due, b := (fun_mk (st := s__law_due) l__law_due c__law_due k__law_due).binds (ps := ["_law_rows", "_law_word", "_law_member_here", "_law_coins_here"]) fun _ _ _ _ _ _ us hl => (by obtain ⟨_, _, _, _, rfl⟩ := len4 hl; rfl), m := PySem.W.mg_of X G a__law_due },
    d__law_stands := { a := f__law_stands, fd := _, F := fun_mk (st := s__law_stands) l__law_stands c__law_stands k__law_stands, b := (fun_mk (st := s__law_stands) l__law_stands c__law_stands k__law_stands).binds (ps := ["_law_house", "_law_rows", "_law_own"]) fun _ _ _ _ _ _ us hl => (by obtain ⟨_, _, _, rfl⟩ := len3 hl; rfl), m := PySem.W.mg_of X G a__law_stands },
    d__law_tried := { a := f__law_tried, fd := _, F := fun_mk (st := s__law_tried) l__law_tried c__law_tried k__law_tried, b := (fun_mk (st := s__law_tried) l__law_tried c__law_tried k__law_tried).binds (ps := ["_law_house", "_law_rows", "_law_own", "_law_word", "_law_member_here", "_law_coins_here"]) fun _ _ _ _ _ _ us hl => (by obtain ⟨_, _, _, _, _, _, rfl⟩ := len6 hl; rfl), m := PySem.W.mg_of X G a__law_tried },
    d_law := { a := f_law, fd := _, F := fun_mk (st := s_law) l_law c_law k_law, b := (fun_mk (st := s_law) l_law c_law k_law).binds (ps := ["_law_script"]) fun _ _ _ _ _ _ us hl => (by obtain ⟨_, rfl⟩ := len1 hl; rfl), m := PySem.W.mg_of X G a_law },
    bl_law := fun s v => .of_eq rfl,
    cw_worst_days := cw_worst_days, tw_worst_days := tw_worst_days, tb_worst_days := tab_mk a_worst_days l_worst_days cq_worst_days lc_worst_days ve_worst_days, cc_worst_days := cq_worst_days,
    z_ValueError := PySem.W.mg_none_of X G w_ValueError,
    z_abs := PySem.W.mg_none_of X G w_abs,
    z_bool := PySem.W.mg_none_of X G w_bool,
    z_enumerate := PySem.W.mg_none_of X G w_enumerate,
    z_int := PySem.W.mg_none_of X G w_int,
    z_isinstance := PySem.W.mg_none_of X G w_isinstance,
    z_len := PySem.W.mg_none_of X G w_len,
    z_list := PySem.W.mg_none_of X G w_list,
    z_max := PySem.W.mg_none_of X G w_max,
    z_min := PySem.W.mg_none_of X G w_min,
    z_range := PySem.W.mg_none_of X G w_range,
    z_sorted := PySem.W.mg_none_of X G w_sorted,
    z_sum := PySem.W.mg_none_of X G w_sum,
    z_tuple := PySem.W.mg_none_of X G w_tuple,
    z_zip := PySem.W.mg_none_of X G w_zip }
section
variable {P : Program} {w : World} {K : PySem.W.Frag} {mg : Str → Option Value} {base : Heap} [TabX K mg base "worst_days"]
noncomputable abbrev lP : Pos := ⟨267, 42, 267, 73⟩
noncomputable abbrev lQ : Str := ("worst_days" : Str) ++ ".<locals>." ++ "<lambda>"

theorem ok_losses_of (T : Txt K mg) : FnOk P w K mg base (CXF P w) 1 T.d_losses_of.a T.d_losses_of.fd ["position", "moves"] (spLosses K) := by
  refine T.d_losses_of.F.okN sc_losses_of (fun vs H Q E h => ?_) (fun cdv A outer s H vs Q E hr h => ?_)
  · obtain ⟨p, l, as, k, f, F, m, rfl, _⟩ := h; rfl
  obtain ⟨p, l, as, k, f, F, m, rfl, hp, hl, hR, hf, hF, hm, hk, hal, q⟩ := h
  refine ⟨_, (pss_one (ps_ret (pe_comp rfl (show PI _ _ _ (iList K _) from pi_list (pv 1)) (compScope_of (Ni := ["day", "position"]) (caps := [none, some 0]) (by rfl)) (fun S _ _ _ _ _ => (pg_nameC (gi := 0) S (Or.inl rfl) rfl)) (fun _ _ _ _ _ => pf_nil) (fun _ _ _ _ _ => (pe_un un_neg (pe_callB (show CallR _ _ (rSum K) from call_sumU rfl) rfl T.z_sum BT.sum (pa_cons (pe_comp rfl (show PI _ _ _ (iZip K _) from pi_zip rfl T.z_zip (pa_cons (pv 1) (pa_cons (pv 0) pa_nil))) (compScope_of (Ni := ["units", "move"]) (caps := [none, none]) (by rfl)) (fun S _ _ _ _ _ => (show PG _ _ (gTup K 2 _) from pg_tup (n := 2) rfl (pgs_cons (pg_nameC (gi := 0) S (Or.inl rfl) rfl) (pgs_cons (pg_nameC (gi := 1) S (Or.inl rfl) rfl) pgs_nil)))) (fun _ _ _ _ _ => pf_nil) (fun _ _ _ _ _ => (pe_op op_mulU (pv 0) (pv 1)))) pa_nil))))))), ?_⟩
  refine x_start (σ0 := [some (.ref p), some (.ref l)]) rfl ?_
  walk_at "x"
  refine x_compS1 (src_list (K := K) (a := l) (xs := as.map V.ref)) (fun H' e => SqL.of (e.at hl)) rfl (fun i vs _ => vs = (vec i fun i => lossF k f (F i)).map V.int) (fun H' _ => rfl) ?_ ?_
  · rintro i x D vs o H3 H4 hi hD e3 hv hvl rfl e4 hx
    rw [List.length_map] at hi
    obtain ⟨c, hc⟩ := lt_some hi
    have ex : x = .ref c := by rw [List.getElem?_map, hc] at hx; exact (Option.some.inj hx).symm
    subst ex
    have hrow := hR.2 _ _ hc
    have hW := hF i hi
    walk_at "x"
    refine x_compS2 (src_zip (K := K) (a := p) (b := c) (xs := (vec k f).map V.int) (ys := (vec k (F i)).map V.int)) (fun H' e => ⟨SqL.of (by walk_at "h"), SqL.of (by walk_at "h")⟩) rfl (fun j vs _ => vs = (vec j fun j => f j * F i j).map V.int) (fun H' _ => rfl) ?_ ?_
    · rintro j x D2 vs o o' H5 H6 hj hD2 e5 hv2 hvl2 rfl e6 ⟨t, v, w', rfl, hx1, hx2, ht⟩
      have hjk : j < k := by
        rw [List.length_map, List.length_map, vec_len, vec_len] at hj; omega
      rw [List.getElem?_map, vec_get hjk] at hx1 hx2
      cases hx1
      cases hx2
      obtain ⟨f0, f1⟩ := hf j hjk
      obtain ⟨g0, g1⟩ := hW j hjk
      have ht' : H6 t = some (.tup [.int (f j), .int (F i j)]) := ht
      have sf : sz (f j) ≤ 200 := sz200 (by omega) (by omega)
      have sg : sz (F i j) ≤ 200 := sz200 (by omega) (by omega)
      walk_at "x"
      rename_i H8 b8 h8
      refine ⟨⟨_, _, rfl⟩, by walk_at "h", _, h8, by rw [List.length_append]; exact Nat.succ_le_succ hvl2, ?_⟩
      dsimp only
      rw [vec_succ, List.map_append]; rfl
    · rintro D2 H5 vs fD2 e5 hv2 hvl2 rfl
      rw [List.length_map, List.length_map, vec_len, vec_len, Nat.min_self] at hv2
      walk_at "x"
      rename_i H6 b6 h6
      refine ⟨⟨_, rfl⟩, by walk_at "h", _, h6, by rw [List.length_append]; exact Nat.succ_le_succ hvl, ?_⟩
      dsimp only
      rw [vec_succ, List.map_append]; rfl
  · rintro D H3 vs hD e3 hv hvl rfl
    rw [List.length_map] at hv
    exact q _ _ hD e3 hv
theorem ok_divisor (T : Txt K mg) : FnOk P w K mg base (CXF P w) 1 T.d_divisor.a T.d_divisor.fd ["one", "other"] spDiv := by
  refine T.d_divisor.F.okN sc_divisor (fun vs H Q E h => ?_) (fun cdv A outer s H vs Q E hr h => ?_)
  · obtain ⟨a, b, rfl, _⟩ := h; rfl
  obtain ⟨a, b, rfl, q⟩ := h
  refine ⟨_, (pss_cons (ps_set (i := 2) sc_divisor.nd rfl (Or.inl rfl) (pe_callB call_absU rfl T.z_abs BT.abs (pa_cons (pv 0) pa_nil)))
 (pss_cons (ps_set (i := 3) sc_divisor.nd rfl (Or.inl rfl) (pe_callB call_absU rfl T.z_abs BT.abs (pa_cons (pv 1) pa_nil)))
 (pss_cons (ps_while PassesOwn.never (pt_cmpR (show OpR _ (compareOp .NotEq) (rNeU K) from op_neU hr.units) (pv 3) pe_int (nomark _))
  (pss_cons (ps_set (i := 4) sc_divisor.nd rfl (Or.inl rfl) (pe_op op_modU (pv 2) (pv 3)))
 (pss_cons (ps_set (i := 2) sc_divisor.nd rfl (Or.inl rfl) (pv 3))
 (pss_one (ps_set (i := 3) sc_divisor.nd rfl (Or.inl rfl) (pv 4))))))
 (pss_one (ps_ret (pv 2)))))), ?_⟩
  refine x_start (σ0 := [some (.int a), some (.int b), none, none, none]) rfl ?_
  walk_at "x"
  refine ⟨fun m σ H' => ∃ k r f, σ = [some (.int a), some (.int b), some (.int k), some (.int r), f] ∧ H' = H ∧ 0 ≤ k ∧ 0 ≤ r ∧ My.gc k r = My.gc a b ∧ m = r.toNat, ⟨_, _, _, _, rfl, rfl, abs_nn a, abs_nn b, My.gc_abs a b, rfl⟩, ?_⟩
  rintro m σ H' ⟨k, r, f, rfl, rfl, hk, hr0, hg, rfl⟩
  walk_at "x"
  · rename_i hne
    refine ⟨fun σ' H'' => σ' = [some (.int a), some (.int b), some (.int r), some (.int (k % r)), some (.int (k % r))] ∧ H'' = H', ?_, ?_⟩
    · rintro σ' H'' ⟨rfl, rfl⟩
      have h1 := Int.emod_nonneg k (b := r) (by omega)
      have h2 := Int.emod_lt_of_pos k (b := r) (by omega)
      exact ⟨_, by omega, _, _, _, rfl, rfl, hr0, h1, by rw [My.gc_step]; exact hg, rfl⟩
    · walk_at "x"
      exact ⟨rfl, rfl⟩
  · rename_i he
    rw [he, My.gc_zero_right hk] at hg
    rw [hg]; exact q
noncomputable def spPartX (C : Addr) : Sp := fun vs H Q E => ∃ t b : Int, vs = [.int t, .int b] ∧ sz b ≤ 8999 ∧ ((b = 0 ∧ E (.ref C) none H) ∨ (b ≠ 0 ∧ NewQ H Q (Rat.divInt t b)))
theorem spPartX_i {C : Addr} {t b : Int} {H : Hp} {Q : VK} {E : XK} (hb : b ≠ 0) (hs : sz b ≤ 8999) (q : NewQ H Q (Rat.divInt t b)) : spPartX C [.int t, .int b] H Q E := ⟨t, b, rfl, hs, .inr ⟨hb, q⟩⟩
theorem ok_part (T : Txt K mg) : FnOk P w K mg base (CXF P w) 2 T.d_part.a T.d_part.fd ["top", "bottom"] (spPartX T.c_NoPart) := by
  refine T.d_part.F.okX sc_part (fun vs H Q E h => ?_) (fun cdv A outer s H vs Q E hr h => ?_)
  · obtain ⟨t, b, rfl, _⟩ := h; rfl
  obtain ⟨t, b, rfl, hs, k⟩ := h
  refine ⟨_, (pss_cons (ps_if (pt_cmpR (show OpR _ (compareOp .Eq) (rEqU K) from op_eqU hr.units) (pv 1) pe_int (nomark _))
  (pss_one (ps_raise rfl rfl T.m_NoPart (errOk.own T.e_NoPart) (pa_cons pe_str pa_nil) made_F))
  pss_nil)
 (pss_cons (ps_set (i := 2) sc_part.nd rfl (Or.inl rfl) (pe_call (ok_divisor (base := base) T) (hr.mono (by decide)) rfl T.d_divisor.m T.d_divisor.F.kp T.d_divisor.b .nil (passN nox_F) (pa_cons (pv 0) (pa_cons (pv 1) pa_nil))))
 (pss_mid (ps_if (pt_cmpR op_lt (pv 1) pe_int (nomark _))
  (pss_one (ps_set (i := 2) sc_part.nd rfl (Or.inl rfl) (pe_un un_neg (pv 2))))
  pss_nil)
 (pss_one (ps_ret (pe_tup (pa_cons (pe_op op_divU (pv 0) (pv 2)) (pa_cons (pe_op op_divU (pv 1) (pv 2)) pa_nil)))))))), ?_⟩
  refine x_start (σ0 := [some (.int t), some (.int b), none]) rfl ?_
  walk_at "x"
  · rename_i h0
    rcases k with ⟨_, k⟩ | ⟨h1, _⟩
    · exact ⟨by decide, k⟩
    · exact absurd h0 h1
  · rename_i h0
    rcases k with ⟨h1, _⟩ | ⟨_, k⟩
    · exact absurd h1 h0
    have hg : 0 < My.gc t b := My.gc_pos_right h0
    have hz : sz (My.gc t b) ≤ 9000 := Nat.le_trans (sz_gc_right h0 hs) (by decide)
    refine x_midS 2 (fun v H' => H' = H ∧ ((b < 0 ∧ v = .int (-My.gc t b)) ∨ (0 < b ∧ v = .int (My.gc t b)))) ?_ ?_
    · walk_at "x"
      · rename_i h2; exact ⟨_, rfl, rfl, .inl ⟨h2, rfl⟩⟩
      · rename_i h2; exact ⟨_, rfl, rfl, .inr ⟨by omega, rfl⟩⟩
    rintro v H' ⟨rfl, h2⟩
    rcases h2 with ⟨hn, rfl⟩ | ⟨hp, rfl⟩
    · have zn : sz (-My.gc t b) ≤ 9000 := Nat.le_trans (sz_neg _) hz
      walk_at "x"
      refine x_divN (by omega) zn ?_
      walk_at "x"
      refine x_divN (by omega) zn ?_
      walk_at "x"
      exact NewQ.mk k (My.part_neg hn)
    · walk_at "x"
      exact NewQ.mk k (My.part_pos hp)
theorem ok_under (T : Txt K mg) : FnOk P w K mg base (CXF P w) 1 T.d_under.a T.d_under.fd ["one", "other"] (spUnder 60000) := by
  refine T.d_under.F.okN sc_under (fun vs H Q E h => ?_) (fun cdv A outer s H vs Q E hr h => ?_)
  · obtain ⟨a, b, q, r, rfl, _⟩ := h; rfl
  obtain ⟨a, b, q, r, rfl, h1, h2, s1, s2, k⟩ := h
  refine ⟨_, (pss_one (ps_ret (pe_cmpR op_lt (pe_op op_mulU (pe_ix (show IxR _ (rIx K) from ix_seq) (pv 0) pe_int (fun _ _ => rfl)) (pe_ix (show IxR _ (rIx K) from ix_seq) (pv 1) pe_int (fun _ _ => rfl))) (pe_op op_mulU (pe_ix (show IxR _ (rIx K) from ix_seq) (pv 1) pe_int (fun _ _ => rfl)) (pe_ix (show IxR _ (rIx K) from ix_seq) (pv 0) pe_int (fun _ _ => rfl))) (nomark _)))), ?_⟩
  refine x_start (σ0 := [some (.ref a), some (.ref b)]) rfl ?_
  have e : decide (q < r) = decide (q.num * (r.den : Int) < r.num * (q.den : Int)) := decide_eq_decide.mpr (Rat.lt_iff q r)
  rw [e] at k
  walk_at "x"
  refine x_mul (CMulS.of s1.1 s2.2 (by decide)) ?_
  walk_at "x"
  refine x_mul (CMulS.of s2.1 s1.2 (by decide)) ?_
  walk_at "x"
  exact k
theorem ok_worst_days (T : Txt K mg) : FnOk P w K mg base (CXF P w) 2 T.d_worst_days.a T.d_worst_days.fd ["position", "moves", "k"] (spWorst K lP lQ) := by
  have tx := TabX.ex (K := K) (mg := mg) (base := base) (x := "worst_days") T.cw_worst_days T.tw_worst_days T.tb_worst_days
  have eT : tabP K "worst_days" = T.tw_worst_days := by unfold tabP; rw [T.tb_worst_days]
  refine T.d_worst_days.F.okC T.cc_worst_days sc_worst_days (fun vs H Q E h => ?_) (fun A outer s H vs Q E hr h => ?_)
  · obtain ⟨p, l, as, k, f, F, m, n, rfl, _⟩ := h; rfl
  obtain ⟨p, l, as, k, f, F, m, n, rfl, hp, hl, hR, hf, hF, hm, hk, h1, h64, n0, hT, kk⟩ := h
  have al : as.length ≤ 1000 := by omega
  refine ⟨_, (pss_cons (ps_set (i := 3) sc_worst_days.nd rfl (Or.inr rfl) (pe_call (ok_losses_of (base := base) T) (hr.mono (by decide)) rfl T.d_losses_of.m T.d_losses_of.F.kp T.d_losses_of.b .nil (passN nox_F) (pa_cons (pv 0) (pa_cons (pv 1) pa_nil))))
 (pss_one (ps_ret (pe_slice (show SlR _ (rSlL K) from sl_list) (show PE _ _ (tSK _ _ _ _ _ _) from pe_sortedK (k := 0) (j := 3) (x := "day") (y := "losses") (by rfl) T.z_sorted BT.sorted (pa_cons (pe_callTy (show CallR _ _ rRange from call_rangeV) rfl T.z_range BT.range (pa_cons (pe_callB (show CallR _ _ (rLen K) from call_lenU) rfl T.z_len BT.len (pa_cons (pv 3) pa_nil)) pa_nil)) pa_nil) rfl tx.1 tx.2 rfl rfl (hr.mono (by decide)) (fun _ _ _ _ _ _ => (pe_tup (pa_cons (pe_un un_neg (pe_ix (show IxR _ (rIx K) from ix_seq) (pv 1) (pv 0) (fun _ _ => rfl))) (pa_cons (pv 0) pa_nil))))) po_none (po_some (pv 2)))))), ?_⟩
  refine x_start (σ0 := [some (.ref p), some (.ref l), some (.int n), none]) rfl ?_
  walk_at "x"
  rename_i lo H1 flo e1 hlo
  have hTb : TbW K "worst_days" lP lQ H1 := TbW.same e1 hT
  have hTb' : Tb H1 T.tw_worst_days lP lQ := by rw [← eT]; exact hTb
  have hlen : ((vec as.length fun i => lossF k f (F i)).map V.int).length = as.length := by rw [List.length_map, vec_len]
  refine x_ret (x_sl (x_sk ?_))
  walk_at "x"
  rename_i r H2' fr e2 hr2
  rw [hlen] at hr2
  refine x_nil ?_
  refine ⟨Tb.same hTb' e2, r, as.length, .ref lo, fun i => -lossF k f (F i), rfl, hr2, h1, h64, rfl, fun i H2 hi st => ?_, fun l q H3 hl3 st hTb3 hp3 hs hq => ?_⟩
  · have hlo2 : H2 lo = some (.lst ((vec as.length fun i => lossF k f (F i)).map V.int)) := st.at (e2.at hlo)
    have hat : atI ((vec as.length fun i => lossF k f (F i)).map V.int) (i : Int) = some (.int (lossF k f (F i))) := atI_nat (by rw [List.getElem?_map, vec_get hi]; rfl)
    walk_at "x"
    refine x_tupN (by first | decide | simp) fun t H4 ft e4 ht => ?_
    exact ⟨t, rfl, e4, ht⟩
  · have hq' : H3 l = some (.lst ((natI q).map V.int)) := by rw [hq]; unfold natI; rw [List.map_map]; rfl
    have hql : (natI q).length = as.length := by rw [natI_len]; exact hp3.length_eq.trans List.length_range
    have en : n = ((n.toNat : Nat) : Int) := by omega
    walk_at "x"
    rename_i sl H4 fsl e4 hsl
    rw [en, cut_takeI, natI_take] at hsl
    exact kk sl H4 q (Same.none (Same.none (st.none fsl) e2) e1) ((e1.trans e2).t.trans (st.trans e4.t)) (TbW.same e4 (by unfold TbW; rw [eT]; exact hTb3)) ⟨hp3, hs⟩ hsl
theorem ok_check_rule (T : Txt K mg) : FnOk P w K mg base (CXF P w) 1 T.d_check_rule.a T.d_check_rule.fd ["rule", "moves"] (spCheckR K T.c_NoRule) := by
  refine T.d_check_rule.F.okX sc_check_rule (fun vs H Q E h => ?_) (fun cdv A outer s H vs Q E hr h => ?_)
  · obtain ⟨ru, l, w, c, xs, rfl, _⟩ := h; rfl
  obtain ⟨ru, l, w, c, xs, rfl, h1, h2, q1, q2⟩ := h
  refine ⟨_, (pss_cons (ps_if (pt_cmpR (show OpR _ (compareOp .NotIn) (rIn K true) from op_notIn_seq) (pe_ix (show IxR _ (rIx K) from ix_seq) (pv 0) pe_int (fun _ _ => rfl)) (pe_tup (pa_cons pe_str (pa_cons pe_str pa_nil))) (by with_unfolding_all rfl))
  (pss_one (ps_raise rfl rfl T.m_NoRule (errOk.own T.e_NoRule) (pa_cons pe_str pa_nil) made_F))
  pss_nil)
 (pss_one (ps_if (PW.pt (pw_or (pt_cmpR op_lt (pe_ix (show IxR _ (rIx K) from ix_seq) (pv 0) pe_int (fun _ _ => rfl)) pe_int (nomark _)) (pw_or1 (pt_cmpR op_gt (pe_ix (show IxR _ (rIx K) from ix_seq) (pv 0) pe_int (fun _ _ => rfl)) (pe_callB (show CallR _ _ (rLen K) from call_lenU) rfl T.z_len BT.len (pa_cons (pv 1) pa_nil)) (nomark _)))))
  (pss_one (ps_raise rfl rfl T.m_NoRule (errOk.own T.e_NoRule) (pa_cons pe_str pa_nil) made_F))
  pss_nil))), ?_⟩
  refine x_start (σ0 := [some (.ref ru), some (.ref l)]) rfl ?_
  walk_at "x"
  refine x_tupN (by first | decide | simp) fun t H1 ft e1 ht => ?_
  refine x_notInT (ws := ["worst", "mean"]) (SqT.of ht) ?_
  have hru1 := e1.at h1
  have hl1 := e1.at h2
  have hin : w ∈ (["worst", "mean"] : List Str) ↔ (w = "worst" ∨ w = "mean") := by
    rw [List.mem_cons, List.mem_singleton]
  by_cases hw : w ∈ (["worst", "mean"] : List Str)
  · rw [decide_eq_true hw]
    walk_at "x"
    · rename_i hc
      exact ⟨by decide, q2 (fun z => by have := z.2.1; omega) _ e1⟩
    · rename_i hc hc2
      exact ⟨by decide, q2 (fun z => by have := z.2.2; omega) _ e1⟩
    · rename_i hc hc2
      exact q1 ⟨hin.mp hw, by omega, by omega⟩ _ e1
  · rw [decide_eq_false hw]
    walk_at "x"
    exact ⟨by decide, q2 (fun z => hw (hin.mpr z.1)) _ e1⟩
theorem ok_check_order (T : Txt K mg) : FnOk P w K mg base (CXF P w) 1 T.d_check_order.a T.d_check_order.fd ["order"] (spCheckOX K T.c_NoLayer) := by
  refine T.d_check_order.F.okX sc_check_order (fun vs H Q E h => ?_) (fun cdv A outer s H vs Q E hr h => ?_)
  · obtain ⟨o, ws, rfl, _⟩ := h; rfl
  obtain ⟨o, ws, rfl, hS, hl, k⟩ := h
  have qW := T.q_WORDS
  refine ⟨_, (pss_one (ps_for PassesOwn.leaving rfl (show PI _ _ _ (iEnum K _) from pi_enum rfl T.z_enumerate (pa_cons (pv 0) pa_nil)) (show PG _ _ (gTup K 2 _) from pg_tup (n := 2) rfl (pgs_cons (pg_name (i := 1) sc_check_order.nd rfl (Or.inl rfl)) (pgs_cons (pg_name (i := 2) sc_check_order.nd rfl (Or.inl rfl)) pgs_nil)))
  (pss_one (ps_if (PW.pt (pw_or (pt_cmpR (show OpR _ (compareOp .NotIn) (rIn K true) from op_notIn_seq) (pv 2) (pe_glob (v := .ref T.a_WORDS) rfl T.g_WORDS rfl) (by with_unfolding_all rfl)) (pw_or1 (pt_cmpR (show OpR _ (compareOp .In) (rIn K false) from op_in_seq) (pv 2) (pe_slice (show SlR _ (rSlL K) from sl_list) (pv 0) po_none (po_some (pv 1))) (by with_unfolding_all rfl)))))
  (pss_one (ps_raise rfl rfl T.m_NoLayer (errOk.own T.e_NoLayer) (pa_cons pe_str pa_nil) made_F))
  pss_nil)))), ?_⟩
  refine x_start (σ0 := [some (.ref o), none, none]) rfl ?_
  walk_at "x"
  refine x_forS (src_enum (K := K) (a := o) (xs := ws.map V.str)) (fun i σ' H' => ∃ f1 f2 : Option V, σ' = [some (.ref o), f1, f2] ∧ Same H H' ∧ OkO (ws.take i)) ⟨_, _, rfl, Same.refl _, by rw [List.take_zero]; exact ⟨(fun _ z => nomatch z), List.nodup_nil⟩⟩ ?_ ?_ ?_
  · rintro i σ' H' ⟨_, _, _, e, _⟩; exact e.seq hS
  · rintro i y σ' H3 H4 hi ⟨f1, f2, rfl, e3, hO⟩ e4 ⟨t, v, rfl, hv, ht⟩
    obtain ⟨w, hwi, rfl⟩ := str_get hv
    have e04 : Same H H4 := e3.trans e4
    have hS4 := e04.seq hS
    have ht' : H4 t = some (.tup [.int (i : Int), .str w]) := ht
    have bad : ¬ (w ∈ words5 ∧ w ∉ ws.take i) → ¬ OkO ws := fun z hv => z ⟨hv.1 w (List.mem_of_getElem? hwi), not_take hv.2 hwi⟩
    walk_at "x"
    refine x_notInT (ws := words5) (qW _) ?_
    by_cases h5 : w ∈ words5
    · rw [decide_eq_true h5]
      walk_at "x"
      rename_i sl H5 fsl e5 hsl
      rw [cut_take, ← List.map_take] at hsl
      refine x_inLs (ws := ws.take i) (SqL.of hsl) ?_
      by_cases hm : w ∈ ws.take i
      · rw [decide_eq_true hm]
        walk_at "x"
        rcases k with ⟨hv, _⟩ | ⟨_, k⟩
        · exact absurd hv (bad fun z => z.2 hm)
        · exact ⟨by decide, k _ (e04.trans e5)⟩
      · rw [decide_eq_false hm]
        walk_at "x"
        refine ⟨_, _, rfl, e04.trans e5, ?_⟩
        rw [List.take_succ, hwi]
        exact okO_snoc hO h5 hm
    · rw [decide_eq_false h5]
      walk_at "x"
      rcases k with ⟨hv, _⟩ | ⟨_, k⟩
      · exact absurd hv (bad fun z => h5 z.1)
      · exact ⟨by decide, k _ e04⟩
  · rintro σ' H1 ⟨f1, f2, rfl, e1, hO⟩
    rw [List.length_map, List.take_length] at hO
    walk_at "x"
    rcases k with ⟨_, k⟩ | ⟨hv, _⟩
    · exact k _ e1
    · exact absurd hO hv
theorem ok_check_enough (T : Txt K mg) : FnOk P w K mg base (CXF P w) 1 T.d_check_enough.a T.d_check_enough.fd ["coins", "wanted"] (spEnough T.c_Poor) := by
  refine T.d_check_enough.F.okX sc_check_enough (fun vs H Q E h => ?_) (fun cdv A outer s H vs Q E hr h => ?_)
  · obtain ⟨x, y, rfl, _⟩ := h; rfl
  obtain ⟨x, y, rfl, q0, q1⟩ := h
  refine ⟨_, (pss_one (ps_if (pt_cmpR op_lt (pv 0) (pv 1) (nomark _))
  (pss_one (ps_raise rfl rfl T.m_Poor (errOk.own T.e_Poor) (pa_cons pe_str pa_nil) made_F))
  pss_nil)), ?_⟩
  refine x_start (σ0 := [some (.int x), some (.int y)]) rfl ?_
  walk_at "x"
  · rename_i h; exact ⟨by decide, q1 h⟩
  · rename_i h; exact q0 (by omega)
theorem ok_check_covered (T : Txt K mg) : FnOk P w K mg base (CXF P w) 2 T.d_check_covered.a T.d_check_covered.fd ["pledge", "need"] (spCovered T.c_Bare) := by
  refine T.d_check_covered.F.okX sc_check_covered (fun vs H Q E h => ?_) (fun cdv A outer s H vs Q E hr h => ?_)
  · obtain ⟨x, r, q, rfl, _⟩ := h; rfl
  obtain ⟨x, r, q, rfl, hq, zq, zx, q0, q1⟩ := h
  refine ⟨_, (pss_one (ps_if (show PT _ _ (tTru K _) from pt_truthU (pe_call (ok_under (base := base) T) (hr.mono (by decide)) rfl T.d_under.m T.d_under.F.kp T.d_under.b .nil (passN nox_F) (pa_cons (pe_tup (pa_cons (pv 0) (pa_cons pe_int pa_nil))) (pa_cons (pv 1) pa_nil))) (fun _ => rfl))
  (pss_one (ps_raise rfl rfl T.m_Bare (errOk.own T.e_Bare) (pa_cons pe_str pa_nil) made_F))
  pss_nil)), ?_⟩
  refine x_start (σ0 := [some (.int x), some (.ref r)]) rfl ?_
  walk_at "x"
  refine x_tupQ (q := ((x : Int) : Rat)) ⟨rfl, rfl⟩ ?_
  intro t H1 e1 ht
  have hz : SzQ ((x : Int) : Rat) 60000 60000 := ⟨zx, sz_of (by show (1 : Int).natAbs < _; exact Nat.lt_of_lt_of_le (by decide : (1 : Int).natAbs < 2 ^ 1) (Nat.pow_le_pow_right (by decide) (by decide)))⟩
  walk_at "x"
  · rename_i h; exact ⟨by decide, q1 h _ e1⟩
  · rename_i h; exact q0 h _ e1

theorem ok_Book___init__ (T : Txt K mg) : FnOk P w K mg base (CXF P w) 1 T.d_Book___init__.a T.d_Book___init__.fd ["self", "many", "wares"] (spBInit T.c_Book) := by
  refine T.d_Book___init__.F.okN sc_Book___init__ (fun vs H Q E h => ?_) (fun cdv A outer s H vs Q E hr h => ?_)
  · obtain ⟨p, dx, m, w, rfl, _⟩ := h; rfl
  obtain ⟨p, dx, m, w, rfl, hp, k⟩ := h
  refine ⟨_, (pss_cons (show PS _ _ (sFld K _ _ _) from ps_fld (pv 0) (pv 1) rfl)
 (pss_cons (show PS _ _ (sFld K _ _ _) from ps_fld (pv 0) (pv 2) rfl)
 (pss_cons (show PS _ _ (sFld K _ _ _) from ps_fld (pv 0) pe_int rfl)
 (pss_one (show PS _ _ (sFld K _ _ _) from ps_fld (pv 0) (pe_lst pa_nil) rfl))))), ?_⟩
  refine x_start (σ0 := [some (.ref p), some (.int m), some (.int w)]) rfl ?_
  walk_at "x"
  refine x_sfldk hp T.cl_Book T.na_Book_many (by show 0 < 1000; decide) fun H1 b1 h1 => ?_
  walk_at "x"
  refine x_sfldk h1 T.cl_Book T.na_Book_wares (by show 1 < 1000; decide) fun H2 b2 h2 => ?_
  walk_at "x"
  refine x_sfldk h2 T.cl_Book T.na_Book_day (Nat.lt_of_le_of_lt (length_putF _ _ _) (by show 2 < 1000; decide)) fun H3 b3 h3 => ?_
  walk_at "x"
  rename_i d H4 fd e4 hd
  refine x_sfldk (e4.at h3) T.cl_Book T.na_Book_deals (Nat.lt_of_le_of_lt (length_putF _ _ _) (Nat.lt_of_le_of_lt (Nat.add_le_add_right (length_putF _ _ _) 1) (by show 3 < 1000; decide))) fun H5 b5 h5 => ?_
  have npd : d ≠ p := ne_new' fd h3
  refine k d H5 ?_ (fun b o n q => b5.at (e4.at (b3.at (b2.at (b1.at q n) n) n)) n) h5 (b5.at hd npd)
  have f3 : H2 d = none := by rw [← b3 d npd]; exact fd
  have f2 : H1 d = none := by rw [← b2 d npd]; exact f3
  rw [← b1 d npd]; exact f2
theorem ok_Book_today (T : Txt K mg) : FnOk P w K mg base (CXF P w) 1 T.d_Book_today.a T.d_Book_today.fd ["self"] (spToday T.c_Book) := by
  refine T.d_Book_today.F.okN sc_Book_today (fun vs H Q E h => ?_) (fun cdv A outer s H vs Q E hr h => ?_)
  · obtain ⟨b, dx, d, m, w, y, rfl, _⟩ := h; rfl
  obtain ⟨b, dx, d, m, w, y, rfl, hb, k⟩ := h
  have cl_Book := T.cl_Book
  have na_Book_day := T.na_Book_day
  refine ⟨_, (pss_one (ps_ret (show PE _ _ (tFld K _ _) from pe_fld (pv 0) rfl))), ?_⟩
  refine x_start (σ0 := [some (.ref b)]) rfl ?_
  walk_at "x"
  exact k
theorem ok_Book_position (T : Txt K mg) : FnOk P w K mg base (CXF P w) 1 T.d_Book_position.a T.d_Book_position.fd ["self", "member"] (spPosition T.c_Book) := by
  refine T.d_Book_position.F.okN sc_Book_position (fun vs H Q E h => ?_) (fun cdv A outer s H vs Q E hr h => ?_)
  · obtain ⟨b, d, m, y, n, w, ts, rfl, _⟩ := h; rfl
  obtain ⟨b, d, m, y, n, w, ts, rfl, hB, hw, w1, k⟩ := h
  obtain ⟨⟨dx, hb⟩, xs, hd, hI⟩ := id hB
  have cl_Book := T.cl_Book
  have na_Book_deals := T.na_Book_deals
  have na_Book_wares := T.na_Book_wares
  refine ⟨_, (pss_cons (ps_set (i := 2) sc_Book_position.nd rfl (Or.inl rfl) (pe_op op_mulU (pe_lst (pa_cons pe_int pa_nil)) (show PE _ _ (tFld K _ _) from pe_fld (pv 0) rfl)))
 (pss_cons (ps_for PassesOwn.never rfl (show PI _ _ _ (iList K _) from pi_list (show PE _ _ (tFld K _ _) from pe_fld (pv 0) rfl)) (pg_name (i := 3) sc_Book_position.nd rfl (Or.inl rfl))
  (pss_one (ps_if (PW.pt (pw_and (pt_cmpR (show OpR _ (compareOp .Eq) (rEqU K) from op_eqU hr.units) (pe_ix (show IxR _ (rIx K) from ix_seq) (pv 3) (pe_glob (v := .int 7) rfl T.g_STATE ⟨_, rfl⟩) (fun _ _ => rfl)) pe_str (nomark _)) (pw_and1 (pt_cmpR (show OpR _ (compareOp .Eq) (rEqU K) from op_eqU hr.units) (pe_ix (show IxR _ (rIx K) from ix_seq) (pv 3) (pe_glob (v := .int 0) rfl T.g_PAYER ⟨_, rfl⟩) (fun _ _ => rfl)) (pv 1) (nomark _)))))
  (pss_one (ps_augS (pv 2) (pe_ix (show IxR _ (rIx K) from ix_seq) (pv 3) (pe_glob (v := .int 2) rfl T.g_WARE ⟨_, rfl⟩) (fun _ _ => rfl)) (show PGet _ (rIxL K) from get_listL) (pe_ix (show IxR _ (rIx K) from ix_seq) (pv 3) (pe_glob (v := .int 3) rfl T.g_UNITS ⟨_, rfl⟩) (fun _ _ => rfl)) ip_add set_list))
  (pss_one (ps_if (PW.pt (pw_and (pt_cmpR (show OpR _ (compareOp .Eq) (rEqU K) from op_eqU hr.units) (pe_ix (show IxR _ (rIx K) from ix_seq) (pv 3) (pe_glob (v := .int 7) rfl T.g_STATE ⟨_, rfl⟩) (fun _ _ => rfl)) pe_str (nomark _)) (pw_and1 (pt_cmpR (show OpR _ (compareOp .Eq) (rEqU K) from op_eqU hr.units) (pe_ix (show IxR _ (rIx K) from ix_seq) (pv 3) (pe_glob (v := .int 1) rfl T.g_PAYEE ⟨_, rfl⟩) (fun _ _ => rfl)) (pv 1) (nomark _)))))
  (pss_one (ps_augS (pv 2) (pe_ix (show IxR _ (rIx K) from ix_seq) (pv 3) (pe_glob (v := .int 2) rfl T.g_WARE ⟨_, rfl⟩) (fun _ _ => rfl)) (show PGet _ (rIxL K) from get_listL) (pe_ix (show IxR _ (rIx K) from ix_seq) (pv 3) (pe_glob (v := .int 3) rfl T.g_UNITS ⟨_, rfl⟩) (fun _ _ => rfl)) ip_sub set_list))
  pss_nil)))))
 (pss_one (ps_ret (pv 2))))), ?_⟩
  refine x_start (σ0 := [some (.ref b), some (.int n), none, none]) rfl ?_
  walk_at "x"
  rename_i z0 H1 fz0 e1 hz0 ma H2 fma e2 hma
  rw [Int.toNat_natCast] at hma
  have fmaH : H ma = none := Same.none fma e1
  refine x_forL (xs := xs) (fun i σ' H' => ∃ f3 : Option V, σ' = [some (.ref b), some (.int n), some (.ref ma), f3] ∧ Same H H' ∧ H' ma = some (.lst ((vec w (posF (ts.take i) n)).map V.int))) ⟨_, rfl, e1.trans e2, hma⟩ ?_ ?_ ?_
  · rintro i σ' H' _ ⟨_, _, e, _⟩; exact SqL.of (e.at hd)
  · rintro i x σ' H3 hx ⟨f3, rfl, e3, hma3⟩
    obtain ⟨a, u, rfl, hu, ha⟩ := (hI.same e3).get hx
    have ha3 : H3 a = some (.tup [.int u.1.p, .int u.1.q, .int u.1.w, .int u.1.u, .int u.1.a, .int u.1.y, .int u.1.r, .str u.2]) := ha
    obtain ⟨uw0, uw1⟩ := hw u (List.mem_of_getElem? hu)
    have hpt := posF_take hu n
    have same : posF (ts.take (i + 1)) n = posF (ts.take i) n → H3 ma = some (.lst ((vec w (posF (ts.take (i + 1)) n)).map V.int)) := fun e => by rw [e]; exact hma3
    walk_at "x"
    · rename_i h1 h2 H4 b4 h4
      refine ⟨_, rfl, b4.same e3 fmaH, ?_⟩
      rw [h4]
      congr 3
      refine vec_congr fun j hj => ?_
      rw [hpt]
      unfold posD
      by_cases hj2 : u.1.w = (j : Int)
      · have hje : u.1.w.toNat = j := by omega
        rw [hje, if_pos rfl, if_pos ⟨h1, hj2⟩, if_pos h2]
      · rw [if_neg (show ¬ j = u.1.w.toNat by omega), if_neg (fun z => hj2 z.2)]; omega
    · rename_i h1 h2 h3 H4 b4 h4
      refine ⟨_, rfl, b4.same e3 fmaH, ?_⟩
      rw [h4]
      congr 3
      refine vec_congr fun j hj => ?_
      rw [hpt]
      unfold posD
      by_cases hj2 : u.1.w = (j : Int)
      · have hje : u.1.w.toNat = j := by omega
        rw [hje, if_pos rfl, if_pos ⟨h1, hj2⟩, if_neg h2, if_pos h3]; omega
      · rw [if_neg (show ¬ j = u.1.w.toNat by omega), if_neg (fun z => hj2 z.2)]; omega
    · rename_i h1 h2 h3
      refine ⟨_, rfl, e3, same (funext fun j => ?_)⟩
      rw [hpt]
      unfold posD
      rw [if_neg h2, if_neg h3]
      split <;> omega
    · rename_i h1
      refine ⟨_, rfl, e3, same (funext fun j => ?_)⟩
      rw [hpt]
      unfold posD
      rw [if_neg fun z => h1 z.1]
      omega
  · rintro σ' H3 ⟨f3, rfl, e3, hma3⟩
    rw [hI.length, List.take_length] at hma3
    walk_at "x"
    exact k ma H3 fmaH e3 hma3
theorem ok_need_of (T : Txt K mg) : FnOk P w K mg base (CXF P w) 3 T.d_need_of.a T.d_need_of.fd ["rule", "position", "moves"] (spNeed K T.c_NoRule lP lQ) := by
  refine T.d_need_of.F.okX sc_need_of (fun vs H Q E h => ?_) (fun cdv A outer s H vs Q E hr h => ?_)
  · obtain ⟨ru, p, l, w, c, as, k, f, F, m, rfl, _⟩ := h; rfl
  obtain ⟨ru, p, l, w, c, as, k, f, F, m, rfl, hru, ⟨hp, hl, hR, w1, w2, hm, hk, n1, n2, hT⟩, q1, q2⟩ := h
  have hml : (as.map V.ref).length = as.length := List.length_map ..
  refine ⟨_, (pss_cons (ps_expr (pe_call (ok_check_rule (base := base) T) (hr.mono (by decide)) rfl T.d_check_rule.m T.d_check_rule.F.kp T.d_check_rule.b .nil pass_F (pa_cons (pv 0) (pa_cons (pv 2) pa_nil))))
 (pss_cons (ps_set (i := 3) sc_need_of.nd rfl (Or.inr rfl) (pe_call (ok_losses_of (base := base) T) (hr.mono (by decide)) rfl T.d_losses_of.m T.d_losses_of.F.kp T.d_losses_of.b .nil (passN nox_F) (pa_cons (pv 1) (pa_cons (pv 2) pa_nil))))
 (pss_cons (ps_setC (i := 4) sc_need_of.nd rfl rfl rfl (show PI _ _ _ (iList K _) from pi_list (pe_call (ok_worst_days (base := base) T) (hr.mono (by decide)) rfl T.d_worst_days.m T.d_worst_days.F.kp T.d_worst_days.b .nil (passN nox_F) (pa_cons (pv 1) (pa_cons (pv 2) (pa_cons (pe_ix (show IxR _ (rIx K) from ix_seq) (pv 0) pe_int (fun _ _ => rfl)) pa_nil))))) (compScope_of (Ni := ["day", "losses"]) (caps := [none, some 3]) (by rfl)) (fun S _ _ _ _ _ => (pg_nameC (gi := 0) S (Or.inl rfl) rfl)) (fun _ _ _ _ _ => pf_nil) (fun _ _ _ _ _ => (pe_ix (show IxR _ (rIx K) from ix_seq) (pv 1) (pv 0) (fun _ _ => rfl))))
 (pss_mid (ps_if (pt_cmpR (show OpR _ (compareOp .Eq) (rEqU K) from op_eqU hr.units) (pe_ix (show IxR _ (rIx K) from ix_seq) (pv 0) pe_int (fun _ _ => rfl)) pe_str (nomark _))
  (pss_one (ps_set (i := 5) sc_need_of.nd rfl (Or.inl rfl) (pe_tup (pa_cons (pe_ix (show IxR _ (rIx K) from ix_seq) (pv 4) (pe_un un_neg pe_int) (fun _ _ => rfl)) (pa_cons pe_int pa_nil)))))
  (pss_one (ps_set (i := 5) sc_need_of.nd rfl (Or.inl rfl) (pe_call (ok_part (base := base) T) (hr.mono (by decide)) rfl T.d_part.m T.d_part.F.kp T.d_part.b .nil pass_F (pa_cons (pe_callB (show CallR _ _ (rSum K) from call_sumU rfl) rfl T.z_sum BT.sum (pa_cons (pv 4) pa_nil)) (pa_cons (pe_callB (show CallR _ _ (rLen K) from call_lenU) rfl T.z_len BT.len (pa_cons (pv 4) pa_nil)) pa_nil))))))
 (pss_one (ps_ret (pe_ifExp (pt_cmpR op_gt (pe_ix (show IxR _ (rIx K) from ix_seq) (pv 5) pe_int (fun _ _ => rfl)) pe_int (nomark _)) (pv 5) (pe_tup (pa_cons pe_int (pa_cons pe_int pa_nil)))))))))), ?_⟩
  refine x_start (σ0 := [some (.ref ru), some (.ref p), some (.ref l), none, none, none]) rfl ?_
  walk_at "x"
  refine spCheckR_i hru hl (fun ok H1 e1 => ?_) (fun nok H1 e1 => q2 (by rw [hml] at nok; exact nok) H1 e1)
  rw [hml] at ok
  obtain ⟨hw, c0, c1⟩ := ok
  have hru1 := e1.at hru
  have hp1 := e1.at hp
  have hl1 := e1.at hl
  have hR1 := hR.same e1
  have hT1 : TbW K "worst_days" lP lQ H1 := TbW.same e1 hT
  walk_at "x"
  rename_i lo H2 flo e2 hlo wd H3 q fwd st3 hT3 hL hwd
  obtain ⟨L, hLe⟩ : ∃ L : Nat → Int, L = fun i => lossF k f (F i) := ⟨_, rfl⟩
  rw [← hLe] at hL q1
  have hvL : (vec as.length fun i => lossF k f (F i)) = vec as.length L := by rw [hLe]
  rw [hvL] at hlo
  have hn64 : as.length ≤ 64 := by omega
  have htl : (q.take c.toNat).length = c.toNat := by rw [List.length_take, hL.len]; omega
  have hlo3 : H3 lo = some (.lst ((vec as.length L).map V.int)) := st3.lst hlo
  have hru3 : H3 ru = some (.tup [.str w, .int c]) := st3.tup (e2.at hru1)
  have st03 : SameT H H3 := (e1.trans e2).t.trans st3
  refine x_compS1 (src_list (K := K) (a := wd) (xs := (natI (q.take c.toNat)).map V.int)) (fun H' e => SqL.of (e.at hwd)) rfl (fun i vs _ => vs = (vec i fun i => L (q.getD i 0)).map V.int) (fun H' _ => rfl) ?_ ?_
  · rintro i x D vs o H4 H5 hi hD e4 hv hvl rfl e5 hx
    rw [List.length_map, natI_len, htl] at hi
    have ex : x = .int ((q.getD i 0 : Nat) : Int) := by
      rw [List.getElem?_map, natI_at (by omega), List.getD_eq_getElem?_getD, List.getElem?_take, if_pos hi, ← List.getD_eq_getElem?_getD] at hx
      exact (Option.some.inj hx).symm
    subst ex
    have hq := hL.getLt (by omega) i
    have hlo5 := (e4.trans e5).at hlo3
    have hat : atI ((vec as.length L).map V.int) ((q.getD i 0 : Nat) : Int) = some (.int (L (q.getD i 0))) := atI_nat (by rw [List.getElem?_map, vec_get hq]; rfl)
    walk_at "x"
    rename_i H6 b6 h6
    refine ⟨⟨_, rfl⟩, b6.same (e4.trans e5) hD, _, h6, by rw [List.length_append]; exact Nat.succ_le_succ hvl, ?_⟩
    dsimp only
    rw [vec_succ, List.map_append]; rfl
  rintro wl H4 vs fwl e4 hwl hvl rfl
  rw [List.length_map, natI_len, htl] at hwl
  have hru4 := e4.at hru3
  have hB : ∀ d, d < as.length → -9000000000000000000000000 ≤ L d ∧ L d ≤ 9000000000000000000000000 := fun d hd => by
    have := lossF_bd (k := k) (f := f) (g := F d) hm w1 (w2 d hd)
    have h1 : (k : Int) * 1000000000000000000000000 ≤ 9 * 1000000000000000000000000 := Int.mul_le_mul_of_nonneg_right (by omega) (by decide)
    rw [hLe]
    dsimp only
    omega
  have hzr : SzQ (rawN (decide (w = "mean")) L q c.toNat) 100 10 := raw_sz hL (by omega) (by omega) n2 hB
  have hwm : ("worst" : Str) ≠ "mean" := by decide
  have hat : atI ((vec c.toNat fun i => L (q.getD i 0)).map V.int) (-1) = some (.int (L (q.getD (c.toNat - 1) 0))) := by
    obtain ⟨c', hc'⟩ : ∃ c', c.toNat = c' + 1 := ⟨c.toNat - 1, by omega⟩
    rw [hc', vec_succ, List.map_append]
    exact atI_last _ _
  have hcl : ((vec c.toNat fun i => L (q.getD i 0)).map V.int).length = c.toNat := by rw [List.length_map, vec_len]
  walk_at "x"
  refine x_midS 5 (fun v H' => ∃ r : Addr, v = .ref r ∧ Same H4 H' ∧ IsQ H' r (rawN (decide (w = "mean")) L q c.toNat)) ?_ ?_
  · walk_at "x"
    · rename_i hw1
      refine x_tupQ (q := ((L (q.getD (c.toNat - 1) 0) : Int) : Rat)) ⟨rfl, rfl⟩ ?_
      intro r H5 e5 hr5
      refine ⟨_, rfl, r, rfl, e5, ?_⟩
      unfold rawN
      rw [hw1, decide_eq_false hwm, if_neg (by decide)]
      exact hr5
    · rename_i hw1
      have hw2 : w = "mean" := hw.resolve_left hw1
      refine spPartX_i (by omega) (Nat.le_trans (sz_of (n := 10) (by omega)) (by decide)) ?_
      intro r H5 e5 hr5
      refine ⟨_, rfl, r, rfl, e5, ?_⟩
      unfold rawN
      rw [hw2, decide_eq_true rfl, if_pos rfl, lsum_take _ _ _ (by rw [hL.len]; omega)]
      rw [sumI_vec, hcl] at hr5
      exact hr5
  rintro _ H5 ⟨r, rfl, e5, hr5⟩
  have hT5 : TbW K "worst_days" lP lQ H5 := TbW.same (e4.trans e5) hT3
  have st05 : SameT H H5 := st03.trans (e4.trans e5).t
  walk_at "x"
  · rename_i hpos
    have hp0 : pos0 (rawN (decide (w = "mean")) L q c.toNat) = rawN (decide (w = "mean")) L q c.toNat := if_pos (nump.mp hpos)
    refine q1 ⟨hw, c0, c1⟩ r H5 q st05 hT5 hL ?_ (pos0_sz hzr (by decide))
    unfold needQ
    rw [hp0]; exact hr5
  · rename_i hpos
    refine x_tupQ (q := (0 : Rat)) ⟨rfl, rfl⟩ ?_
    intro r' H6 e6 hr6
    have hp0 : pos0 (rawN (decide (w = "mean")) L q c.toNat) = 0 := if_neg (fun z => hpos (nump.mpr z))
    refine q1 ⟨hw, c0, c1⟩ r' H6 q (st05.trans e6.t) (TbW.same e6 hT5) hL ?_ (pos0_sz hzr (by decide))
    unfold needQ
    rw [hp0]; exact hr6

theorem ok_House_check_coins (T : Txt K mg) : FnOk P w K mg base (CXF P w) 1 T.d_House_check_coins.a T.d_House_check_coins.fd ["self", "member", "coins"] (spChkC T.c_House T.c_NoMember T.c_NoTerms) := by
  refine T.d_House_check_coins.F.okX sc_House_check_coins (fun vs H Q E h => ?_) (fun cdv A outer s H vs Q E hr h => ?_)
  · obtain ⟨h, B, own, m, c, n, P, L, rfl, _⟩ := h; rfl
  obtain ⟨h, B, own, m, c, n, P, L, rfl, hC, q0, q1, q2⟩ := h
  obtain ⟨⟨dx, hh⟩, hpu, hpl, hne⟩ := id hC
  have hpl' : ((vec n P).map V.int).length = n := by rw [List.length_map, vec_len]
  have cl_House := T.cl_House
  have na_House_purses := T.na_House_purses
  refine ⟨_, (pss_cons (ps_if (PW.pt (pw_or (pt_cmpR op_lt (pv 1) pe_int (nomark _)) (pw_or1 (pt_cmpR op_ge (pv 1) (pe_callB (show CallR _ _ (rLen K) from call_lenU) rfl T.z_len BT.len (pa_cons (show PE _ _ (tFld K _ _) from pe_fld (pv 0) rfl) pa_nil)) (nomark _)))))
  (pss_one (ps_raise rfl rfl T.m_NoMember (errOk.own T.e_NoMember) (pa_cons pe_str pa_nil) made_F))
  pss_nil)
 (pss_one (ps_if (PW.pt (pw_or (pt_cmpR op_lt (pv 2) pe_int (nomark _)) (pw_or1 (pt_cmpR op_gt (pv 2) (pe_glob (v := .int 1000000000) rfl T.g_MOST_COINS ⟨_, rfl⟩) (nomark _)))))
  (pss_one (ps_raise rfl rfl T.m_NoTerms (errOk.own T.e_NoTerms) (pa_cons pe_str pa_nil) made_F))
  pss_nil))), ?_⟩
  refine x_start (σ0 := [some (.ref h), some (.int m), some (.int c)]) rfl ?_
  walk_at "x"
  all_goals first
    | exact q0 ⟨by omega, by omega⟩ ⟨by omega, by omega⟩
    | exact ⟨by decide, q1 (fun z => by have := z.1; have := z.2; omega)⟩
    | exact ⟨by decide, q2 ⟨by omega, by omega⟩ (fun z => by have := z.1; have := z.2; omega)⟩
theorem ok_House_put (T : Txt K mg) : FnOk P w K mg base (CXF P w) 2 T.d_House_put.a T.d_House_put.fd ["self", "member", "coins"] (spHPut T.c_House T.c_NoMember T.c_NoTerms) := by
  refine T.d_House_put.F.okX sc_House_put (fun vs H Q E h => ?_) (fun cdv A outer s H vs Q E hr h => ?_)
  · obtain ⟨h, B, own, m, c, n, P, L, rfl, _⟩ := h; rfl
  obtain ⟨h, B, own, m, c, n, P, L, rfl, hC, q0, q1, q2⟩ := h
  obtain ⟨⟨dx, hh⟩, hpu, hpl, hne⟩ := id hC
  have cl_House := T.cl_House
  have na_House_purses := T.na_House_purses
  refine ⟨_, (pss_cons (ps_expr (pe_meth (pv 0) T.cl_House T.d_House_check_coins.mt (ok_House_check_coins (base := base) T) (hr.mono (by decide)) T.d_House_check_coins.b .nil pass_F (pa_cons (pv 1) (pa_cons (pv 2) pa_nil))))
 (pss_one (ps_augS (show PE _ _ (tFld K _ _) from pe_fld (pv 0) rfl) (pv 1) (show PGet _ (rIxL K) from get_listL) (pv 2) ip_add set_list))), ?_⟩
  refine x_start (σ0 := [some (.ref h), some (.int m), some (.int c)]) rfl ?_
  walk_at "x"
  refine ⟨h, B, own, m, c, n, P, L, rfl, hC, fun hm ht => ?_, q1, q2⟩
  have ⟨m0, m1⟩ := hm
  walk_at "x"
  rename_i H1 b1 h1
  exact q0 hm ht _ b1 h1
theorem ok_House_take (T : Txt K mg) : FnOk P w K mg base (CXF P w) 2 T.d_House_take.a T.d_House_take.fd ["self", "member", "coins"] (spHTake T.c_House T.c_NoMember T.c_NoTerms T.c_Poor) := by
  refine T.d_House_take.F.okX sc_House_take (fun vs H Q E h => ?_) (fun cdv A outer s H vs Q E hr h => ?_)
  · obtain ⟨h, B, own, m, c, n, P, L, rfl, _⟩ := h; rfl
  obtain ⟨h, B, own, m, c, n, P, L, rfl, hC, q0, q1, q2, q3⟩ := h
  obtain ⟨⟨dx, hh⟩, hpu, hpl, hne⟩ := id hC
  have cl_House := T.cl_House
  have na_House_purses := T.na_House_purses
  refine ⟨_, (pss_cons (ps_expr (pe_meth (pv 0) T.cl_House T.d_House_check_coins.mt (ok_House_check_coins (base := base) T) (hr.mono (by decide)) T.d_House_check_coins.b .nil pass_F (pa_cons (pv 1) (pa_cons (pv 2) pa_nil))))
 (pss_cons (ps_expr (pe_call (ok_check_enough (base := base) T) (hr.mono (by decide)) rfl T.d_check_enough.m T.d_check_enough.F.kp T.d_check_enough.b .nil pass_F (pa_cons (pe_ix (show IxR _ (rIx K) from ix_seq) (show PE _ _ (tFld K _ _) from pe_fld (pv 0) rfl) (pv 1) (fun _ _ => rfl)) (pa_cons (pv 2) pa_nil))))
 (pss_one (ps_augS (show PE _ _ (tFld K _ _) from pe_fld (pv 0) rfl) (pv 1) (show PGet _ (rIxL K) from get_listL) (pv 2) ip_sub set_list)))), ?_⟩
  refine x_start (σ0 := [some (.ref h), some (.int m), some (.int c)]) rfl ?_
  walk_at "x"
  refine ⟨h, B, own, m, c, n, P, L, rfl, hC, fun hm ht => ?_, q1, q2⟩
  have ⟨m0, m1⟩ := hm
  walk_at "x"
  refine ⟨_, _, rfl, fun hle => ?_, fun hlt => q3 hm ht hlt⟩
  walk_at "x"
  rename_i H1 b1 h1
  rw [Int.sub_eq_add_neg] at h1
  exact q0 hm ht hle _ b1 h1
theorem ok_House_lay (T : Txt K mg) : FnOk P w K mg base (CXF P w) 2 T.d_House_lay.a T.d_House_lay.fd ["self", "member", "coins"] (spHLay T.c_House T.c_NoMember T.c_NoTerms T.c_Poor) := by
  refine T.d_House_lay.F.okX sc_House_lay (fun vs H Q E h => ?_) (fun cdv A outer s H vs Q E hr h => ?_)
  · obtain ⟨h, B, own, m, c, n, P, L, rfl, _⟩ := h; rfl
  obtain ⟨h, B, own, m, c, n, P, L, rfl, hC, q0, q1, q2, q3⟩ := h
  obtain ⟨⟨dx, hh⟩, hpu, hpl, hne⟩ := id hC
  have cl_House := T.cl_House
  have na_House_purses := T.na_House_purses
  have na_House_pledges := T.na_House_pledges
  refine ⟨_, (pss_cons (ps_expr (pe_meth (pv 0) T.cl_House T.d_House_check_coins.mt (ok_House_check_coins (base := base) T) (hr.mono (by decide)) T.d_House_check_coins.b .nil pass_F (pa_cons (pv 1) (pa_cons (pv 2) pa_nil))))
 (pss_cons (ps_expr (pe_call (ok_check_enough (base := base) T) (hr.mono (by decide)) rfl T.d_check_enough.m T.d_check_enough.F.kp T.d_check_enough.b .nil pass_F (pa_cons (pe_ix (show IxR _ (rIx K) from ix_seq) (show PE _ _ (tFld K _ _) from pe_fld (pv 0) rfl) (pv 1) (fun _ _ => rfl)) (pa_cons (pv 2) pa_nil))))
 (pss_cons (ps_augS (show PE _ _ (tFld K _ _) from pe_fld (pv 0) rfl) (pv 1) (show PGet _ (rIxL K) from get_listL) (pv 2) ip_sub set_list)
 (pss_one (ps_augS (show PE _ _ (tFld K _ _) from pe_fld (pv 0) rfl) (pv 1) (show PGet _ (rIxL K) from get_listL) (pv 2) ip_add set_list))))), ?_⟩
  refine x_start (σ0 := [some (.ref h), some (.int m), some (.int c)]) rfl ?_
  walk_at "x"
  refine ⟨h, B, own, m, c, n, P, L, rfl, hC, fun hm ht => ?_, q1, q2⟩
  have ⟨m0, m1⟩ := hm
  walk_at "x"
  refine ⟨_, _, rfl, fun hle => ?_, fun hlt => q3 hm ht hlt⟩
  walk_at "x"
  rename_i H1 b1 h1
  have hh1 := b1.ins hh
  have hpl1 := b1.lst hpl hne.symm
  rw [Int.sub_eq_add_neg] at h1
  walk_at "x"
  rename_i H2 b2 h2
  exact q0 hm ht hle _ _ b1 h1 b2 h2
theorem ok_House_need (T : Txt K mg) : FnOk P w K mg base (CXF P w) 4 T.d_House_need.a T.d_House_need.fd ["self", "member"] (spNeedH K T.c_House T.c_Book lP lQ) := by
  refine T.d_House_need.F.okX sc_House_need (fun vs H Q E h => ?_) (fun cdv A outer s H vs Q E hr h => ?_)
  · obtain ⟨h, dx, d, B, own, m, y, n, ts, bs, k, F, w, c, rfl, _⟩ := h; rfl
  obtain ⟨h, dx, d, B, own, m, y, n, ts, bs, k, F, w, c, rfl, hh, hN, q⟩ := h
  obtain ⟨⟨dxb, hbk⟩, _⟩ := id hN.bk
  have cl_House := T.cl_House
  have na_House_rule := T.na_House_rule
  have na_House_book := T.na_House_book
  have na_House_moves := T.na_House_moves
  refine ⟨_, (pss_one (ps_ret (pe_call (ok_need_of (base := base) T) (hr.mono (by decide)) rfl T.d_need_of.m T.d_need_of.F.kp T.d_need_of.b .nil pass_F (pa_cons (show PE _ _ (tFld K _ _) from pe_fld (pv 0) rfl) (pa_cons (pe_meth (show PE _ _ (tFld K _ _) from pe_fld (pv 0) rfl) T.cl_Book T.d_Book_position.mt (ok_Book_position (base := base) T) (hr.mono (by decide)) T.d_Book_position.b .nil (passN nox_F) (pa_cons (pv 1) pa_nil)) (pa_cons (show PE _ _ (tFld K _ _) from pe_fld (pv 0) rfl) pa_nil)))))), ?_⟩
  refine x_start (σ0 := [some (.ref h), some (.int n)]) rfl ?_
  walk_at "x"
  refine ⟨_, d, _, _, n, k, ts, rfl, hN.bk, hN.tok, by have := hN.k9; omega, fun p H1 fp e1 hp => ?_⟩
  have hh1 := e1.at hh
  walk_at "x"
  have hN1 := hN.same e1
  have hb : ∀ j, -1000000000 ≤ posF ts n j ∧ posF ts n j ≤ 1000000000 := fun j => by
    have h1 := posF_bd hN.tu n j
    have h2 := hN.tl
    omega
  refine spNeed_i (m := 1000000000) hN1.ru ⟨hp, hN1.mv, hN1.rows, fun j _ => hb j, fun i hi j hj => by have := hN.fw i hi j hj; omega, by decide, hN.k9, by have := hN.ok.2; omega, hN.n64, hN1.tb⟩ hN.ok fun r H2 ql s2 t2 hL hr2 hz => ?_
  exact q r H2 ql (e1.t.trans s2) t2 hL hr2 hz
theorem ok_House_free (T : Txt K mg) : FnOk P w K mg base (CXF P w) 5 T.d_House_free.a T.d_House_free.fd ["self", "member", "coins"] (spHFree K T.c_House T.c_Book lP lQ T.c_NoMember T.c_NoTerms T.c_Poor T.c_Bare) := by
  refine T.d_House_free.F.okX sc_House_free (fun vs H Q E h => ?_) (fun cdv A outer s H vs Q E hr h => ?_)
  · obtain ⟨h, d, B, own, m, c, mm, y, n, P, L, ts, bs, k, F, w, cr, rfl, _⟩ := h; rfl
  obtain ⟨h, d, B, own, m, c, mm, y, n, P, L, ts, bs, k, F, w, cr, rfl, hC, hN, hz, q0, q1, q2, q3⟩ := h
  obtain ⟨⟨dx, hh⟩, hpu, hpl, hne⟩ := id hC
  have cl_House := T.cl_House
  have na_House_purses := T.na_House_purses
  have na_House_pledges := T.na_House_pledges
  refine ⟨_, (pss_cons (ps_expr (pe_meth (pv 0) T.cl_House T.d_House_check_coins.mt (ok_House_check_coins (base := base) T) (hr.mono (by decide)) T.d_House_check_coins.b .nil pass_F (pa_cons (pv 1) (pa_cons (pv 2) pa_nil))))
 (pss_cons (ps_expr (pe_call (ok_check_enough (base := base) T) (hr.mono (by decide)) rfl T.d_check_enough.m T.d_check_enough.F.kp T.d_check_enough.b .nil pass_F (pa_cons (pe_ix (show IxR _ (rIx K) from ix_seq) (show PE _ _ (tFld K _ _) from pe_fld (pv 0) rfl) (pv 1) (fun _ _ => rfl)) (pa_cons (pv 2) pa_nil))))
 (pss_cons (ps_expr (pe_call (ok_check_covered (base := base) T) (hr.mono (by decide)) rfl T.d_check_covered.m T.d_check_covered.F.kp T.d_check_covered.b .nil pass_F (pa_cons (pe_op op_sub (pe_ix (show IxR _ (rIx K) from ix_seq) (show PE _ _ (tFld K _ _) from pe_fld (pv 0) rfl) (pv 1) (fun _ _ => rfl)) (pv 2)) (pa_cons (pe_meth (pv 0) T.cl_House T.d_House_need.mt (ok_House_need (base := base) T) (hr.mono (by decide)) T.d_House_need.b .nil pass_F (pa_cons (pv 1) pa_nil)) pa_nil))))
 (pss_cons (ps_augS (show PE _ _ (tFld K _ _) from pe_fld (pv 0) rfl) (pv 1) (show PGet _ (rIxL K) from get_listL) (pv 2) ip_sub set_list)
 (pss_one (ps_augS (show PE _ _ (tFld K _ _) from pe_fld (pv 0) rfl) (pv 1) (show PGet _ (rIxL K) from get_listL) (pv 2) ip_add set_list)))))), ?_⟩
  refine x_start (σ0 := [some (.ref h), some (.int m), some (.int c)]) rfl ?_
  walk_at "x"
  refine ⟨h, B, own, m, c, n, P, L, rfl, hC, fun hm ht => ?_, q1, q2⟩
  have ⟨m0, m1⟩ := hm
  walk_at "x"
  refine ⟨_, _, rfl, fun hle => ?_, fun hlt => q3 hm ht hlt⟩
  walk_at "x"
  refine ⟨h, dx, d, B, own, mm, y, m, ts, bs, k, F, w, cr, rfl, hh, hN, fun r H1 q s1 t1 hL hr1 hz1 => ?_⟩
  walk_at "x"
  refine ⟨_, r, _, rfl, hr1, hz1.mono (by decide) (by decide), hz hm ht, fun hnl H2 e2 => ?_, fun hlt H2 e2 => ?_⟩
  · obtain ⟨qb, qk⟩ := q0 hm ht hle H2 q (s1.trans e2.t) (TbW.same e2 t1) hL
    have s2 : SameT H H2 := s1.trans e2.t
    have hh2 := s2.ins hh
    have hpu2 := s2.lst hpu
    have hpl2 := s2.lst hpl
    walk_at "x"
    rename_i H3 b3 h3 H4 b4 h4
    rw [Int.sub_eq_add_neg] at h3
    exact qk hnl _ _ b3 h3 b4 h4
  · exact (q0 hm ht hle H2 q (s1.trans e2.t) (TbW.same e2 t1) hL).1 hlt
theorem ok_House_purse (T : Txt K mg) : FnOk P w K mg base (CXF P w) 1 T.d_House_purse.a T.d_House_purse.fd ["self", "member"] (spHPurse T.c_House) := by
  refine T.d_House_purse.F.okN sc_House_purse (fun vs H Q E h => ?_) (fun cdv A outer s H vs Q E hr h => ?_)
  · obtain ⟨h, dx, B, own, k, n, f, rfl, _⟩ := h; rfl
  obtain ⟨h, dx, B, own, k, n, f, rfl, hh, hp, k0, k1, q⟩ := h
  have cl_House := T.cl_House
  have na_House_purses := T.na_House_purses
  refine ⟨_, (pss_one (ps_ret (pe_ix (show IxR _ (rIx K) from ix_seq) (show PE _ _ (tFld K _ _) from pe_fld (pv 0) rfl) (pv 1) (fun _ _ => rfl)))), ?_⟩
  refine x_start (σ0 := [some (.ref h), some (.int k)]) rfl ?_
  walk_at "x"
  exact q
theorem ok_House_pledge (T : Txt K mg) : FnOk P w K mg base (CXF P w) 1 T.d_House_pledge.a T.d_House_pledge.fd ["self", "member"] (spHPledge T.c_House) := by
  refine T.d_House_pledge.F.okN sc_House_pledge (fun vs H Q E h => ?_) (fun cdv A outer s H vs Q E hr h => ?_)
  · obtain ⟨h, dx, B, own, k, n, f, rfl, _⟩ := h; rfl
  obtain ⟨h, dx, B, own, k, n, f, rfl, hh, hp, k0, k1, q⟩ := h
  have cl_House := T.cl_House
  have na_House_pledges := T.na_House_pledges
  refine ⟨_, (pss_one (ps_ret (pe_ix (show IxR _ (rIx K) from ix_seq) (show PE _ _ (tFld K _ _) from pe_fld (pv 0) rfl) (pv 1) (fun _ _ => rfl)))), ?_⟩
  refine x_start (σ0 := [some (.ref h), some (.int k)]) rfl ?_
  walk_at "x"
  exact q
theorem ok_House_share (T : Txt K mg) : FnOk P w K mg base (CXF P w) 1 T.d_House_share.a T.d_House_share.fd ["self", "member"] (spHShare T.c_House) := by
  refine T.d_House_share.F.okN sc_House_share (fun vs H Q E h => ?_) (fun cdv A outer s H vs Q E hr h => ?_)
  · obtain ⟨h, dx, B, own, k, n, f, rfl, _⟩ := h; rfl
  obtain ⟨h, dx, B, own, k, n, f, rfl, hh, hp, k0, k1, q⟩ := h
  have cl_House := T.cl_House
  have na_House_shares := T.na_House_shares
  refine ⟨_, (pss_one (ps_ret (pe_ix (show IxR _ (rIx K) from ix_seq) (show PE _ _ (tFld K _ _) from pe_fld (pv 0) rfl) (pv 1) (fun _ _ => rfl)))), ?_⟩
  refine x_start (σ0 := [some (.ref h), some (.int k)]) rfl ?_
  walk_at "x"
  exact q
theorem ok_House_own (T : Txt K mg) : FnOk P w K mg base (CXF P w) 1 T.d_House_own.a T.d_House_own.fd ["self"] (spHOwn T.c_House) := by
  refine T.d_House_own.F.okN sc_House_own (fun vs H Q E h => ?_) (fun cdv A outer s H vs Q E hr h => ?_)
  · obtain ⟨h, dx, B, own, rfl, _⟩ := h; rfl
  obtain ⟨h, dx, B, own, rfl, hh, q⟩ := h
  have cl_House := T.cl_House
  have na_House_kept := T.na_House_kept
  refine ⟨_, (pss_one (ps_ret (show PE _ _ (tFld K _ _) from pe_fld (pv 0) rfl))), ?_⟩
  refine x_start (σ0 := [some (.ref h)]) rfl ?_
  walk_at "x"
  exact q
theorem ok_House_coins (T : Txt K mg) : FnOk P w K mg base (CXF P w) 1 T.d_House_coins.a T.d_House_coins.fd ["self"] (spHCoins T.c_House) := by
  refine T.d_House_coins.F.okN sc_House_coins (fun vs H Q E h => ?_) (fun cdv A outer s H vs Q E hr h => ?_)
  · obtain ⟨h, dx, B, own, p, l, s, rfl, _⟩ := h; rfl
  obtain ⟨h, dx, B, own, p, l, s, rfl, hh, hp, hl, hs, q⟩ := h
  have cl_House := T.cl_House
  have na_House_kept := T.na_House_kept
  have na_House_purses := T.na_House_purses
  have na_House_pledges := T.na_House_pledges
  have na_House_shares := T.na_House_shares
  refine ⟨_, (pss_one (ps_ret (pe_op (show OpR _ (binaryOp .Add) (rAddU K) from op_addU) (pe_op (show OpR _ (binaryOp .Add) (rAddU K) from op_addU) (pe_op (show OpR _ (binaryOp .Add) (rAddU K) from op_addU) (pe_callB (show CallR _ _ (rSum K) from call_sumU rfl) rfl T.z_sum BT.sum (pa_cons (show PE _ _ (tFld K _ _) from pe_fld (pv 0) rfl) pa_nil)) (pe_callB (show CallR _ _ (rSum K) from call_sumU rfl) rfl T.z_sum BT.sum (pa_cons (show PE _ _ (tFld K _ _) from pe_fld (pv 0) rfl) pa_nil))) (pe_callB (show CallR _ _ (rSum K) from call_sumU rfl) rfl T.z_sum BT.sum (pa_cons (show PE _ _ (tFld K _ _) from pe_fld (pv 0) rfl) pa_nil))) (show PE _ _ (tFld K _ _) from pe_fld (pv 0) rfl)))), ?_⟩
  refine x_start (σ0 := [some (.ref h)]) rfl ?_
  walk_at "x"
  exact q
theorem ok_House_today (T : Txt K mg) : FnOk P w K mg base (CXF P w) 2 T.d_House_today.a T.d_House_today.fd ["self"] (spHToday T.c_House T.c_Book) := by
  refine T.d_House_today.F.okN sc_House_today (fun vs H Q E h => ?_) (fun cdv A outer s H vs Q E hr h => ?_)
  · obtain ⟨h, dx, d, B, own, m, w, y, ts, rfl, _⟩ := h; rfl
  obtain ⟨h, dx, d, B, own, m, w, y, ts, rfl, hh, hB, q⟩ := h
  obtain ⟨⟨dxb, hbk⟩, _⟩ := id hB
  have cl_House := T.cl_House
  have na_House_book := T.na_House_book
  refine ⟨_, (pss_one (ps_ret (pe_meth0 (show PE _ _ (tFld K _ _) from pe_fld (pv 0) rfl) T.cl_Book T.d_Book_today.mt (ok_Book_today (base := base) T) (hr.mono (by decide)) T.d_Book_today.b .nil (passN nox_F)))), ?_⟩
  refine x_start (σ0 := [some (.ref h)]) rfl ?_
  walk_at "x"
  exact q

theorem x_copyF {r : Addr} {k : Nat} {σ : St} {Q : VK} {H : Hp} {rows : List Addr} {F : Nat → Nat → Int} (hr : H r = some (.lst (rows.map V.ref))) (hP : Rows H rows k F) (hk : 0 < k) (al : rows.length ≤ 1000) (hk' : k ≤ 1000) (hs : capSt [none] σ = [none]) (q : ∀ D H' (bs : List Addr), H D = none → Same H H' → H' D = some (.lst (bs.map V.ref)) → bs.length = rows.length → Rows H' bs k F → (∀ b ∈ bs, H b = none) → D ∉ bs → Q (.ref D) H') : CompK (Itl K r) [none] (gName 0) tYes (tCB (rListOf K) (tCons (tVar 0) tNil)) σ Q H := by
  refine x_compS1 (src_list (K := K) (a := r) (xs := rows.map V.ref)) (fun H' e => SqL.of (e.at hr)) hs (fun i vs H' => ∃ bs : List Addr, vs = bs.map V.ref ∧ bs.length = i ∧ Rows H' bs k F ∧ ∀ b ∈ bs, H b = none) (fun H' _ => ⟨[], rfl, rfl, ⟨List.nodup_nil, fun i a h => nomatch h⟩, fun b hb => nomatch hb⟩) ?_ ?_
  · rintro i x D vs o H4 H5 hi hD e4 hv hvl ⟨bs, rfl, hbl, hRb, hfb⟩ e5 hx
    rw [List.length_map] at hi
    obtain ⟨c, hc⟩ := lt_some hi
    have ex : x = .ref c := by rw [List.getElem?_map, hc] at hx; exact (Option.some.inj hx).symm
    subst ex
    have hrow := hP.2 _ _ hc
    have hcs : (bs.map V.ref).length ≤ 1000 := by rw [List.length_map]; omega
    walk_at "x"
    rename_i p H6 fp e6 hp H7 b7 h7
    have hD' : D ∉ bs := hRb.ne hk hv
    have hpD : p ≠ D := ne_new' fp (e5.at hv)
    have fpH : H p = none := Same.none fp (e4.trans e5)
    subst hbl
    refine ⟨⟨_, rfl⟩, by walk_at "h", _, h7, by rw [List.length_append]; exact Nat.succ_le_succ hvl, bs ++ [p], by rw [List.map_append]; rfl, by rw [List.length_append]; rfl, Rows.app ((hRb.same (e5.trans e6)).but b7 hD') ((hRb.same e5).fresh fp) (b7.lst hp hpD), fun b hb => ?_⟩
    rcases List.mem_append.mp hb with hb | hb
    · exact hfb b hb
    · rw [List.mem_singleton.mp hb]; exact fpH
  · rintro D H5 us fD e5 hD _ ⟨bs, rfl, hbl, hRb, hfb⟩
    rw [List.length_map] at hbl
    exact q D H5 bs fD e5 hD hbl hRb hfb (hRb.ne hk hD)
theorem ok_House___init__ (T : Txt K mg) : FnOk P w K mg base (CXF P w) 3 T.d_House___init__.a T.d_House___init__.fd ["self", "members", "moves", "rule", "order", "own"] (spHInit K T.c_House T.c_Book T.c_NoRule T.c_NoLayer) := by
  refine T.d_House___init__.F.okX sc_House___init__ (fun vs H Q E h => ?_) (fun cdv A outer s H vs Q E hr h => ?_)
  · obtain ⟨p, dx, ms, mo, ru, od, us, xs, as, k, F, w, c, ws, own, rfl, _⟩ := h; rfl
  obtain ⟨p, dx, ms, mo, ru, od, us, xs, as, k, F, w, c, ws, own, rfl, hp, hms, hI, hxl, hmo, hR, al0, al1, k0, k1, hru, hod, hwl, q0, q1, q2⟩ := h
  have hal : (as.map V.ref).length = as.length := List.length_map ..
  have hul := hI.length
  have sk0 : Stk p H H [] := Stk.nil (some_ne hp)
  have nms : ms ≠ p := ne_of hms hp (by intro z; cases z)
  have nmo : mo ≠ p := ne_of hmo hp (by intro z; cases z)
  have nru : ru ≠ p := ne_of hru hp (by intro z; cases z)
  have nod : od ≠ p := ne_of hod hp (by intro z; cases z)
  refine ⟨_, (pss_cons (ps_expr (pe_call (ok_check_rule (base := base) T) (hr.mono (by decide)) rfl T.d_check_rule.m T.d_check_rule.F.kp T.d_check_rule.b .nil pass_F (pa_cons (pv 3) (pa_cons (pv 2) pa_nil))))
 (pss_cons (ps_expr (pe_call (ok_check_order (base := base) T) (hr.mono (by decide)) rfl T.d_check_order.m T.d_check_order.F.kp T.d_check_order.b .nil pass_F (pa_cons (pv 4) pa_nil)))
 (pss_cons (show PS _ _ (sFld K _ _ _) from ps_fld (pv 0) (pe_comp rfl (show PI _ _ _ (iList K _) from pi_list (pv 1)) (compScope_of (Ni := ["coins"]) (caps := [none]) (by rfl)) (fun S _ _ _ _ _ => (pg_nameC (gi := 0) S (Or.inl rfl) rfl)) (fun _ _ _ _ _ => pf_nil) (fun _ _ _ _ _ => (pe_ix (show IxR _ (rIx K) from ix_seq) (pv 0) pe_int (fun _ _ => rfl)))) rfl)
 (pss_cons (show PS _ _ (sFld K _ _ _) from ps_fld (pv 0) (pe_comp rfl (show PI _ _ _ (iList K _) from pi_list (pv 1)) (compScope_of (Ni := ["coins"]) (caps := [none]) (by rfl)) (fun S _ _ _ _ _ => (pg_nameC (gi := 0) S (Or.inl rfl) rfl)) (fun _ _ _ _ _ => pf_nil) (fun _ _ _ _ _ => (pe_ix (show IxR _ (rIx K) from ix_seq) (pv 0) pe_int (fun _ _ => rfl)))) rfl)
 (pss_cons (show PS _ _ (sFld K _ _ _) from ps_fld (pv 0) (pe_comp rfl (show PI _ _ _ (iList K _) from pi_list (pv 1)) (compScope_of (Ni := ["coins"]) (caps := [none]) (by rfl)) (fun S _ _ _ _ _ => (pg_nameC (gi := 0) S (Or.inl rfl) rfl)) (fun _ _ _ _ _ => pf_nil) (fun _ _ _ _ _ => (pe_ix (show IxR _ (rIx K) from ix_seq) (pv 0) pe_int (fun _ _ => rfl)))) rfl)
 (pss_cons (show PS _ _ (sFld K _ _ _) from ps_fld (pv 0) (pv 5) rfl)
 (pss_cons (show PS _ _ (sFld K _ _ _) from ps_fld (pv 0) (pe_comp rfl (show PI _ _ _ (iList K _) from pi_list (pv 2)) (compScope_of (Ni := ["moved"]) (caps := [none]) (by rfl)) (fun S _ _ _ _ _ => (pg_nameC (gi := 0) S (Or.inl rfl) rfl)) (fun _ _ _ _ _ => pf_nil) (fun _ _ _ _ _ => (pe_callTy (show CallR _ _ (rListOf K) from call_listU) rfl T.z_list BT.list (pa_cons (pv 0) pa_nil)))) rfl)
 (pss_cons (show PS _ _ (sFld K _ _ _) from ps_fld (pv 0) (pe_tup (pa_cons (pe_ix (show IxR _ (rIx K) from ix_seq) (pv 3) pe_int (fun _ _ => rfl)) (pa_cons (pe_ix (show IxR _ (rIx K) from ix_seq) (pv 3) pe_int (fun _ _ => rfl)) pa_nil))) rfl)
 (pss_cons (show PS _ _ (sFld K _ _ _) from ps_fld (pv 0) (pe_callTy (show CallR _ _ (rListOf K) from call_listU) rfl T.z_list BT.list (pa_cons (pv 4) pa_nil)) rfl)
 (pss_cons (show PS _ _ (sFld K _ _ _) from ps_fld (pv 0) (pe_make T.mk_Book (ok_Book___init__ (base := base) T) (hr.mono (by decide)) rfl T.m_Book T.d_Book___init__.b .nil (passN nox_F) (pa_cons (pe_callB (show CallR _ _ (rLen K) from call_lenU) rfl T.z_len BT.len (pa_cons (pv 1) pa_nil)) (pa_cons (pe_callB (show CallR _ _ (rLen K) from call_lenU) rfl T.z_len BT.len (pa_cons (pe_ix (show IxR _ (rIx K) from ix_seq) (pv 2) pe_int (fun _ _ => rfl)) pa_nil)) pa_nil))) rfl)
 (pss_cons (show PS _ _ (sFld K _ _ _) from ps_fld (pv 0) (pe_comp rfl (show PI _ _ _ (iList K _) from pi_list (pv 1)) (compScope_of (Ni := ["coins"]) (caps := [none]) (by rfl)) (fun S _ _ _ _ _ => (pg_nameC (gi := 0) S (Or.inl rfl) rfl)) (fun _ _ _ _ _ => pf_nil) (fun _ _ _ _ _ => pe_bl)) rfl)
 (pss_one (show PS _ _ (sFld K _ _ _) from ps_fld (pv 0) (pe_lst pa_nil) rfl))))))))))))), ?_⟩
  refine x_start (σ0 := [some (.ref p), some (.ref ms), some (.ref mo), some (.ref ru), some (.ref od), some (.int own)]) rfl ?_
  walk_at "x"
  refine spCheckR_i hru hmo (fun ok H1 e1 => ?_) (fun nok H1 e1 => q1 (by rw [hal] at nok; exact nok) H1 e1)
  rw [hal] at ok
  walk_at "x"
  refine ⟨od, ws, rfl, SqL.of (e1.at hod), hwl, ?_⟩
  by_cases hO : OkO ws
  case neg => exact .inr ⟨hO, fun H2 e2 => q2 ok hO _ (e1.trans e2)⟩
  refine .inl ⟨hO, fun H2 e2 => ?_⟩
  have sk2 := (sk0.same e1).same e2
  have hp2 := (e1.trans e2).at hp
  walk_at "x"
  have hms2 := sk2.nb.at hms nms
  refine x_compS1 (src_list (K := K) (a := ms) (xs := us)) (fun H' e => SqL.of (e.at hms2)) rfl (fun i vs _ => vs = (vec i fun i => (xs.getD i (0, 0, 0)).1).map V.int) (fun H' _ => rfl) ?_ ?_
  · rintro i x D vs o G G' hi hD e4 hv hvl rfl e5 hx
    obtain ⟨a, u, rfl, hu, ha⟩ := hI.get hx
    have nap : a ≠ p := ne_of ha hp (by intro z; cases z)
    have ha5 : G' a = some (.tup [.int u.1, .int u.2.1, .int u.2.2]) := (e4.trans e5).at (sk2.nb.at ha nap)
    have hv5 := e5.at hv
    walk_at "x"
    rename_i G6 b6 h6
    refine ⟨⟨_, rfl⟩, b6.same (e4.trans e5) hD, _, h6, by rw [List.length_append]; exact Nat.succ_le_succ hvl, ?_⟩
    dsimp only
    rw [vec_succ, List.map_append, List.getD_eq_getElem?_getD, hu]; rfl
  rintro pu H3 vs fpu e3 hpu _ rfl
  rw [hul] at hpu
  have sk3 := sk2.new fpu e3 (some_ne hpu)
  have hp3 := e3.at hp2
  walk_at "x"
  refine x_sfldk hp3 T.cl_House T.na_House_purses (by show 0 < 1000; decide) fun H4 b4 hp4 => ?_
  have sk4 := sk3.keep b4.nb (some_ne hp4)
  have c4 : NB p H3 H4 := b4.nb
  have hms4 := sk4.nb.at hms nms
  walk_at "x"
  refine x_compS1 (src_list (K := K) (a := ms) (xs := us)) (fun H' e => SqL.of (e.at hms4)) rfl (fun i vs _ => vs = (vec i fun i => (xs.getD i (0, 0, 0)).2.1).map V.int) (fun H' _ => rfl) ?_ ?_
  · rintro i x D vs o G G' hi hD e4 hv hvl rfl e5 hx
    obtain ⟨a, u, rfl, hu, ha⟩ := hI.get hx
    have nap : a ≠ p := ne_of ha hp (by intro z; cases z)
    have ha5 : G' a = some (.tup [.int u.1, .int u.2.1, .int u.2.2]) := (e4.trans e5).at (sk4.nb.at ha nap)
    have hv5 := e5.at hv
    walk_at "x"
    rename_i G6 b6 h6
    refine ⟨⟨_, rfl⟩, b6.same (e4.trans e5) hD, _, h6, by rw [List.length_append]; exact Nat.succ_le_succ hvl, ?_⟩
    dsimp only
    rw [vec_succ, List.map_append, List.getD_eq_getElem?_getD, hu]; rfl
  rintro pl H5 vs fpl e5 hpl _ rfl
  rw [hul] at hpl
  have sk5 := sk4.new fpl e5 (some_ne hpl)
  have hp5 := e5.at hp4
  walk_at "x"
  refine x_sfldk hp5 T.cl_House T.na_House_pledges (by exact Nat.lt_of_le_of_lt (length_putF _ _ []) (by decide : 1 < 1000)) fun H6 b6 hp6 => ?_
  have sk6 := sk5.keep b6.nb (some_ne hp6)
  have c6 : NB p H5 H6 := b6.nb
  have hms6 := sk6.nb.at hms nms
  walk_at "x"
  refine x_compS1 (src_list (K := K) (a := ms) (xs := us)) (fun H' e => SqL.of (e.at hms6)) rfl (fun i vs _ => vs = (vec i fun i => (xs.getD i (0, 0, 0)).2.2).map V.int) (fun H' _ => rfl) ?_ ?_
  · rintro i x D vs o G G' hi hD e4 hv hvl rfl e5 hx
    obtain ⟨a, u, rfl, hu, ha⟩ := hI.get hx
    have nap : a ≠ p := ne_of ha hp (by intro z; cases z)
    have ha5 : G' a = some (.tup [.int u.1, .int u.2.1, .int u.2.2]) := (e4.trans e5).at (sk6.nb.at ha nap)
    have hv5 := e5.at hv
    walk_at "x"
    rename_i G6 b6 h6
    refine ⟨⟨_, rfl⟩, b6.same (e4.trans e5) hD, _, h6, by rw [List.length_append]; exact Nat.succ_le_succ hvl, ?_⟩
    dsimp only
    rw [vec_succ, List.map_append, List.getD_eq_getElem?_getD, hu]; rfl
  rintro sh H7 vs fsh e7 hsh _ rfl
  rw [hul] at hsh
  have sk7 := sk6.new fsh e7 (some_ne hsh)
  have hp7 := e7.at hp6
  walk_at "x"
  refine x_sfldk hp7 T.cl_House T.na_House_shares (by exact Nat.lt_of_le_of_lt (Nat.le_trans (length_putF _ _ _) (Nat.succ_le_succ (length_putF _ _ []))) (by decide : 2 < 1000)) fun H8 b8 hp8 => ?_
  have sk8 := sk7.keep b8.nb (some_ne hp8)
  have c8 : NB p H7 H8 := b8.nb
  walk_at "x"
  refine x_sfldk hp8 T.cl_House T.na_House_kept (by exact Nat.lt_of_le_of_lt (Nat.le_trans (length_putF _ _ _) (Nat.succ_le_succ (Nat.le_trans (length_putF _ _ _) (Nat.succ_le_succ (length_putF _ _ []))))) (by decide : 3 < 1000)) fun H9 b9 hp9 => ?_
  have sk9 := sk8.keep b9.nb (some_ne hp9)
  have hmo9 := sk9.nb.at hmo nmo
  walk_at "x"
  have hR9 : Rows H9 as k F := ⟨hR.1, fun i a e => sk9.nb.at (hR.2 i a e) (ne_of (hR.2 i a e) hp (by intro z; cases z))⟩
  refine x_copyF hmo9 hR9 k0 al1 k1 rfl fun mv H10 bs fmv e10 hmv hbl hRb fbs nmv => ?_
  have sk10 : Stk p H H10 (bs ++ [mv, sh, pl, pu]) := by
    have s1 := sk9.more (bs := bs ++ [mv]) (fun b hb => (List.mem_append.mp hb).elim (fbs b) fun h => by rw [List.mem_singleton.mp h]; exact fmv) (List.nodup_append.mpr ⟨hRb.1, List.nodup_cons.mpr ⟨by simp, List.nodup_nil⟩, fun a ha b hb z => nmv (by rw [← List.mem_singleton.mp hb, ← z]; exact ha)⟩) e10 (fun b hb => (List.mem_append.mp hb).elim (fun h => by
      obtain ⟨i, hi, e⟩ := List.getElem_of_mem h
      exact some_ne (hRb.2 i b (by rw [List.getElem?_eq_getElem hi, e]))) fun h => by rw [List.mem_singleton.mp h]; exact some_ne hmv)
    rw [List.append_assoc] at s1
    exact s1
  have hp10 := e10.at hp9
  walk_at "x"
  refine x_sfldk hp10 T.cl_House T.na_House_moves (by exact Nat.lt_of_le_of_lt (Nat.le_trans (length_putF _ _ _) (Nat.succ_le_succ (Nat.le_trans (length_putF _ _ _) (Nat.succ_le_succ (Nat.le_trans (length_putF _ _ _) (Nat.succ_le_succ (length_putF _ _ []))))))) (by decide : 4 < 1000)) fun H11 b11 hp11 => ?_
  have sk11 := sk10.keep b11.nb (some_ne hp11)
  have hru11 := sk11.nb.at hru nru
  walk_at "x"
  refine x_tupN (by first | decide | simp) fun rr H12 frr e12 hrr => ?_
  have sk12 := sk11.new frr e12 (some_ne hrr)
  have hp12 := e12.at hp11
  walk_at "x"
  refine x_sfldk hp12 T.cl_House T.na_House_rule (by exact Nat.lt_of_le_of_lt (Nat.le_trans (length_putF _ _ _) (Nat.succ_le_succ (Nat.le_trans (length_putF _ _ _) (Nat.succ_le_succ (Nat.le_trans (length_putF _ _ _) (Nat.succ_le_succ (Nat.le_trans (length_putF _ _ _) (Nat.succ_le_succ (length_putF _ _ []))))))))) (by decide : 5 < 1000)) fun H13 b13 hp13 => ?_
  have sk13 := sk12.keep b13.nb (some_ne hp13)
  have hod13 := sk13.nb.at hod nod
  walk_at "x"
  rename_i oo H14 foo e14 hoo
  have sk14 := sk13.new foo e14 (some_ne hoo)
  have hp14 := e14.at hp13
  refine x_sfldk hp14 T.cl_House T.na_House_order (by exact Nat.lt_of_le_of_lt (Nat.le_trans (length_putF _ _ _) (Nat.succ_le_succ (Nat.le_trans (length_putF _ _ _) (Nat.succ_le_succ (Nat.le_trans (length_putF _ _ _) (Nat.succ_le_succ (Nat.le_trans (length_putF _ _ _) (Nat.succ_le_succ (Nat.le_trans (length_putF _ _ _) (Nat.succ_le_succ (length_putF _ _ []))))))))))) (by decide : 6 < 1000)) fun H15 b15 hp15 => ?_
  have sk15 := sk14.keep b15.nb (some_ne hp15)
  have hms15 := sk15.nb.at hms nms
  have hmo15 := sk15.nb.at hmo nmo
  obtain ⟨c0, hc0⟩ := lt_some (show 0 < as.length by omega)
  have hat0 : atI (as.map V.ref) 0 = some (.ref c0) := atI_lt (by decide) (by rw [List.getElem?_map, show (0 : Int).toNat = 0 from rfl, hc0]; rfl)
  have hrow15 : H15 c0 = some (.lst ((vec k (F 0)).map V.int)) := sk15.nb.at (hR.2 _ _ hc0) (ne_of (hR.2 _ _ hc0) hp (by intro z; cases z))
  have hkl : (((vec k (F 0)).map V.int).length : Int) = k := by rw [List.length_map, vec_len]
  walk_at "x"
  refine x_makek fun bk dxb H16 fbk e16 h16 => ?_
  refine ⟨bk, dxb, _, _, rfl, h16, fun d H17 fd s17 hbk hd => ⟨rfl, ?_⟩⟩
  have e17 : Same H15 H17 := fun c o q => s17 c o (ne_of_none q fbk) (e16 c o q)
  have fdH : H15 d = none := Same.none fd e16
  have ndbk : d ≠ bk := fun z => by rw [z, h16] at fd; cases fd
  rw [hul, hkl] at hbk
  have sk17 : Stk p H H17 (d :: bk :: oo :: rr :: (bs ++ [mv, sh, pl, pu])) := by
    refine sk15.more (bs := [d, bk]) (fun b hb => ?_) (List.nodup_cons.mpr ⟨by rw [List.mem_singleton]; exact ndbk, List.nodup_cons.mpr ⟨by simp, List.nodup_nil⟩⟩) e17 fun b hb => ?_
    · rcases List.mem_cons.mp hb with rfl | hb
      · exact fdH
      · rw [List.mem_singleton.mp hb]; exact fbk
    · rcases List.mem_cons.mp hb with rfl | hb
      · exact some_ne hd
      · rw [List.mem_singleton.mp hb]; exact some_ne hbk
  have hp17 := e17.at hp15
  walk_at "x"
  refine x_sfldk hp17 T.cl_House T.na_House_book (by exact Nat.lt_of_le_of_lt (Nat.le_trans (length_putF _ _ _) (Nat.succ_le_succ (Nat.le_trans (length_putF _ _ _) (Nat.succ_le_succ (Nat.le_trans (length_putF _ _ _) (Nat.succ_le_succ (Nat.le_trans (length_putF _ _ _) (Nat.succ_le_succ (Nat.le_trans (length_putF _ _ _) (Nat.succ_le_succ (Nat.le_trans (length_putF _ _ _) (Nat.succ_le_succ (length_putF _ _ []))))))))))))) (by decide : 7 < 1000)) fun H18 b18 hp18 => ?_
  have sk18 := sk17.keep b18.nb (some_ne hp18)
  have hms18 := sk18.nb.at hms nms
  walk_at "x"
  refine x_compS1 (src_list (K := K) (a := ms) (xs := us)) (fun H' e => SqL.of (e.at hms18)) rfl (fun i vs _ => vs = (List.replicate i false).map V.bl) (fun H' _ => rfl) ?_ ?_
  · rintro i x D vs o G G' hi hD e4 hv hvl rfl e5 hx
    have hv5 := e5.at hv
    walk_at "x"
    rename_i G6 b6 h6
    refine ⟨⟨_, rfl⟩, b6.same (e4.trans e5) hD, _, h6, by rw [List.length_append]; exact Nat.succ_le_succ hvl, ?_⟩
    dsimp only
    rw [List.replicate_succ', List.map_append]; rfl
  rintro ou H19 vs fou e19 hou _ rfl
  rw [hul] at hou
  have sk19 := sk18.new fou e19 (some_ne hou)
  have hp19 := e19.at hp18
  walk_at "x"
  refine x_sfldk hp19 T.cl_House T.na_House_outs (by exact Nat.lt_of_le_of_lt (Nat.le_trans (length_putF _ _ _) (Nat.succ_le_succ (Nat.le_trans (length_putF _ _ _) (Nat.succ_le_succ (Nat.le_trans (length_putF _ _ _) (Nat.succ_le_succ (Nat.le_trans (length_putF _ _ _) (Nat.succ_le_succ (Nat.le_trans (length_putF _ _ _) (Nat.succ_le_succ (Nat.le_trans (length_putF _ _ _) (Nat.succ_le_succ (Nat.le_trans (length_putF _ _ _) (Nat.succ_le_succ (length_putF _ _ []))))))))))))))) (by decide : 8 < 1000)) fun H20 b20 hp20 => ?_
  have sk20 := sk19.keep b20.nb (some_ne hp20)
  walk_at "x"
  rename_i re H21 fre e21 hre
  have sk21 := sk20.new fre e21 (some_ne hre)
  have hp21 := e21.at hp20
  refine x_sfldk hp21 T.cl_House T.na_House_reports (by exact Nat.lt_of_le_of_lt (Nat.le_trans (length_putF _ _ _) (Nat.succ_le_succ (Nat.le_trans (length_putF _ _ _) (Nat.succ_le_succ (Nat.le_trans (length_putF _ _ _) (Nat.succ_le_succ (Nat.le_trans (length_putF _ _ _) (Nat.succ_le_succ (Nat.le_trans (length_putF _ _ _) (Nat.succ_le_succ (Nat.le_trans (length_putF _ _ _) (Nat.succ_le_succ (Nat.le_trans (length_putF _ _ _) (Nat.succ_le_succ (Nat.le_trans (length_putF _ _ _) (Nat.succ_le_succ (length_putF _ _ []))))))))))))))))) (by decide : 9 < 1000)) fun H22 b22 hp22 => ?_
  have sk22 := sk21.keep b22.nb (some_ne hp22)
  walk_at "x"
  have n22 : NB p H21 H22 := b22.nb
  have n21 : NB p H20 H22 := e21.nb.trans n22
  have n20 : NB p H19 H22 := b20.nb.trans n21
  have n19 : NB p H18 H22 := e19.nb.trans n20
  have n18 : NB p H17 H22 := b18.nb.trans n19
  have n17 : NB p H15 H22 := e17.nb.trans n18
  have n15 : NB p H14 H22 := b15.nb.trans n17
  have n14 : NB p H13 H22 := e14.nb.trans n15
  have n13 : NB p H12 H22 := b13.nb.trans n14
  have n12 : NB p H11 H22 := e12.nb.trans n13
  have n11 : NB p H10 H22 := b11.nb.trans n12
  have n10 : NB p H9 H22 := e10.nb.trans n11
  have n9 : NB p H8 H22 := b9.nb.trans n10
  have n8 : NB p H7 H22 := b8.nb.trans n9
  have n7 : NB p H6 H22 := e7.nb.trans n8
  have n6 : NB p H5 H22 := b6.nb.trans n7
  have n5 : NB p H4 H22 := e5.nb.trans n6
  have n4 : NB p H3 H22 := b4.nb.trans n5
  have mp : ∀ x, x ∈ (re :: ou :: d :: bk :: oo :: rr :: (bs ++ [mv, sh, pl, pu])) → x ≠ p := fun x hx => (sk22.ex x hx).2.1
  refine q0 ok hO ⟨pu, pl, sh, mv, rr, oo, bk, ou, re⟩ d bs H22 sk22.nb hp22 hbl ⟨?_, ?_, ?_, ?_, ?_, ?_, ?_, ?_, ?_, ?_, sk22⟩
  · exact n4.at hpu (mp _ (by simp))
  · exact n6.at hpl (mp _ (by simp))
  · exact n8.at hsh (mp _ (by simp))
  · exact n11.at hmv (mp _ (by simp))
  · exact ⟨hRb.1, fun i a e => n11.at (hRb.2 i a e) (ne_of (hRb.2 i a e) hp10 (by intro z; cases z))⟩
  · exact n13.at hrr (mp _ (by simp))
  · exact n15.at hoo (mp _ (by simp))
  · exact ⟨⟨dxb, n18.at hbk (mp _ (by simp))⟩, [], n18.at hd (mp _ (by simp)), trivial⟩
  · exact n20.at hou (mp _ (by simp))
  · exact n22.at hre (mp _ (by simp))

theorem ok__law_cell (T : Txt K mg) : FnOk P w K mg base (CXF P w) 1 T.d__law_cell.a T.d__law_cell.fd ["_law_script", "_law_k"] (spCellM K) := by
  refine T.d__law_cell.F.okN sc__law_cell (fun vs H Q E h => ?_) (fun cdv A outer s H vs Q E hr h => ?_)
  · obtain ⟨a, ns, k, rfl, _⟩ := h; rfl
  obtain ⟨a, ns, k, rfl, hS, h0, q⟩ := h
  have hl : (ns.map V.int).length = ns.length := List.length_map ..
  refine ⟨_, (pss_cons (ps_if (pt_cmpR (show OpR _ (compareOp .Eq) (rEqU K) from op_eqU hr.units) (pe_callB (show CallR _ _ (rLen K) from call_lenU) rfl T.z_len BT.len (pa_cons (pv 0) pa_nil)) pe_int (nomark _))
  (pss_one (ps_ret pe_int))
  pss_nil)
 (pss_one (ps_ret (pe_ix (show IxR _ (rIx K) from ix_seq) (pv 0) (pe_op op_modU (pv 1) (pe_callB (show CallR _ _ (rLen K) from call_lenU) rfl T.z_len BT.len (pa_cons (pv 0) pa_nil))) (fun _ _ => rfl))))), ?_⟩
  refine x_start (σ0 := [some (.ref a), some (.int k)]) rfl ?_
  walk_at "x"
  · exact q _
  · rename_i h
    have hm : (0 : Int) < ((ns.map V.int).length : Int) := by omega
    have m0 := Int.emod_nonneg k (b := ((ns.map V.int).length : Int)) (by omega)
    have m1 := Int.emod_lt_of_pos k hm
    exact x_ixL hS (ints_at m0 (v := ns.getD (k % ((ns.map V.int).length : Int)).toNat 0) (by rw [List.getD_eq_getElem?_getD]; rw [List.getElem?_eq_getElem (by omega)]; rfl)) (q _)
theorem ok__law_draw (T : Txt K mg) : FnOk P w K mg base (CXF P w) 2 T.d__law_draw.a T.d__law_draw.fd ["_law_script", "_law_k", "_law_many"] (spDrawM K) := by
  refine T.d__law_draw.F.okN sc__law_draw (fun vs H Q E h => ?_) (fun cdv A outer s H vs Q E hr h => ?_)
  · obtain ⟨a, ns, k, m, rfl, _⟩ := h; rfl
  obtain ⟨a, ns, k, m, rfl, hS, h0, h1, hm, q⟩ := h
  have hk := sq_le h0 h1
  have hk' := Int.mul_nonneg h0 h0
  refine ⟨_, (pss_one (ps_ret (pe_op op_modU (pe_op op_modU (pe_op op_mulU (pe_op (show OpR _ (binaryOp .Add) (rAddU K) from op_addU) (pe_op (show OpR _ (binaryOp .Add) (rAddU K) from op_addU) (pe_op op_modU (pe_call (ok__law_cell (base := base) T) (hr.mono (by decide)) rfl T.d__law_cell.m T.d__law_cell.F.kp T.d__law_cell.b .nil (passN nox_F) (pa_cons (pv 0) (pa_cons (pv 1) pa_nil))) pe_int) (pe_op op_mulU (pv 1) (pv 1))) pe_int) pe_int) pe_int) (pv 2)))), ?_⟩
  refine x_start (σ0 := [some (.ref a), some (.int k), some (.int m)]) rfl ?_
  walk_at "x"
  exact q _ (Int.emod_nonneg _ (by omega)) (Int.emod_lt_of_pos _ (by omega))
theorem ok__law_great (T : Txt K mg) : FnOk P w K mg base (CXF P w) 2 T.d__law_great.a T.d__law_great.fd ["_law_script", "_law_k", "_law_many"] (spGreatM K) := by
  refine T.d__law_great.F.okN sc__law_great (fun vs H Q E h => ?_) (fun cdv A outer s H vs Q E hr h => ?_)
  · obtain ⟨a, ns, k, m, rfl, _⟩ := h; rfl
  obtain ⟨a, ns, k, m, rfl, hS, h0, h1, hm, hm', q⟩ := h
  have hk := sq_le h0 h1
  have hk' := Int.mul_nonneg h0 h0
  have hM : ∀ i : Int, 0 ≤ i % m ∧ i % m < m := fun i => ⟨Int.emod_nonneg _ (by omega), Int.emod_lt_of_pos _ (by omega)⟩
  have zM : ∀ i : Int, sz (i % m) ≤ 200 := fun i => sz200 (by have := hM i; omega) (by have := hM i; omega)
  refine ⟨_, (pss_one (ps_ret (pe_op op_modU (pe_op (show OpR _ (binaryOp .Add) (rAddU K) from op_addU) (pe_op (show OpR _ (binaryOp .Add) (rAddU K) from op_addU) (pe_op op_mulU (pe_op op_modU (pe_call (ok__law_cell (base := base) T) (hr.mono (by decide)) rfl T.d__law_cell.m T.d__law_cell.F.kp T.d__law_cell.b .nil (passN nox_F) (pa_cons (pv 0) (pa_cons (pv 1) pa_nil))) (pv 2)) pe_int) (pe_op op_mulU (pe_op op_mulU (pv 1) (pv 1)) pe_int)) pe_int) (pv 2)))), ?_⟩
  refine x_start (σ0 := [some (.ref a), some (.int k), some (.int m)]) rfl ?_
  walk_at "x"
  rename_i x
  have z1 := zM x
  have z2 : sz k ≤ 200 := sz200 (by omega) (by omega)
  walk_at "x"
  exact q _ (Int.emod_nonneg _ (by omega)) (Int.emod_lt_of_pos _ (by omega))
theorem ok__law_amount (T : Txt K mg) : FnOk P w K mg base (CXF P w) 3 T.d__law_amount.a T.d__law_amount.fd ["_law_script", "_law_k", "_law_most"] (spAmountM K) := by
  refine T.d__law_amount.F.okN sc__law_amount (fun vs H Q E h => ?_) (fun cdv A outer s H vs Q E hr h => ?_)
  · obtain ⟨a, ns, k, m, rfl, _⟩ := h; rfl
  obtain ⟨a, ns, k, m, rfl, hS, h0, h1, hm, hm', q⟩ := h
  refine ⟨_, (pss_cons (ps_set (i := 3) sc__law_amount.nd rfl (Or.inl rfl) (pe_call (ok__law_draw (base := base) T) (hr.mono (by decide)) rfl T.d__law_draw.m T.d__law_draw.F.kp T.d__law_draw.b .nil (passN nox_F) (pa_cons (pv 0) (pa_cons (pv 1) (pa_cons pe_int pa_nil)))))
 (pss_cons (ps_if (pt_cmpR op_lt (pv 3) pe_int (nomark _))
  (pss_one (ps_ret (pv 3)))
  pss_nil)
 (pss_cons (ps_if (pt_cmpR op_lt (pv 3) pe_int (nomark _))
  (pss_one (ps_ret (pe_call (ok__law_draw (base := base) T) (hr.mono (by decide)) rfl T.d__law_draw.m T.d__law_draw.F.kp T.d__law_draw.b .nil (passN nox_F) (pa_cons (pv 0) (pa_cons (pe_op (show OpR _ (binaryOp .Add) (rAddU K) from op_addU) (pv 1) pe_int) (pa_cons pe_int pa_nil))))))
  pss_nil)
 (pss_cons (ps_if (pt_cmpR (show OpR _ (compareOp .Eq) (rEqU K) from op_eqU hr.units) (pv 3) pe_int (nomark _))
  (pss_one (ps_ret (pe_op op_sub (pv 2) (pe_call (ok__law_draw (base := base) T) (hr.mono (by decide)) rfl T.d__law_draw.m T.d__law_draw.F.kp T.d__law_draw.b .nil (passN nox_F) (pa_cons (pv 0) (pa_cons (pe_op (show OpR _ (binaryOp .Add) (rAddU K) from op_addU) (pv 1) pe_int) (pa_cons pe_int pa_nil)))))))
  pss_nil)
 (pss_one (ps_ret (pe_call (ok__law_great (base := base) T) (hr.mono (by decide)) rfl T.d__law_great.m T.d__law_great.F.kp T.d__law_great.b .nil (passN nox_F) (pa_cons (pv 0) (pa_cons (pe_op (show OpR _ (binaryOp .Add) (rAddU K) from op_addU) (pv 1) pe_int) (pa_cons (pe_op (show OpR _ (binaryOp .Add) (rAddU K) from op_addU) (pv 2) pe_int) pa_nil)))))))))), ?_⟩
  refine x_start (σ0 := [some (.ref a), some (.int k), some (.int m), none]) rfl ?_
  walk_at "x"
  all_goals exact q _ (by omega) (by omega)
theorem ok__law_coins (T : Txt K mg) : FnOk P w K mg base (CXF P w) 3 T.d__law_coins.a T.d__law_coins.fd ["_law_script", "_law_k", "_law_stock"] (spCoinsH K) := by
  refine T.d__law_coins.F.okN sc__law_coins (fun vs H Q E h => ?_) (fun cdv A outer s H vs Q E hr h => ?_)
  · obtain ⟨a, ns, k, st, rfl, _⟩ := h; rfl
  obtain ⟨a, ns, k, st, rfl, hS, h0, h1, s0, q⟩ := h
  refine ⟨_, (pss_cons (ps_set (i := 3) sc__law_coins.nd rfl (Or.inl rfl) (pe_call (ok__law_draw (base := base) T) (hr.mono (by decide)) rfl T.d__law_draw.m T.d__law_draw.F.kp T.d__law_draw.b .nil (passN nox_F) (pa_cons (pv 0) (pa_cons (pv 1) (pa_cons pe_int pa_nil)))))
 (pss_cons (ps_if (pt_cmpR op_lt (pv 3) pe_int (nomark _))
  (pss_one (ps_ret (pe_callB (call_minU rfl) rfl T.z_min BT.min (pa_cons (pe_op op_pow pe_int pe_int) (pa_cons (pe_op (show OpR _ (binaryOp .Add) (rAddU K) from op_addU) (pv 2) (pe_op op_divU (pv 3) pe_int)) pa_nil)))))
  pss_nil)
 (pss_cons (ps_if (pt_cmpR op_lt (pv 3) pe_int (nomark _))
  (pss_one (ps_ret (pe_call (ok__law_draw (base := base) T) (hr.mono (by decide)) rfl T.d__law_draw.m T.d__law_draw.F.kp T.d__law_draw.b .nil (passN nox_F) (pa_cons (pv 0) (pa_cons (pe_op (show OpR _ (binaryOp .Add) (rAddU K) from op_addU) (pv 1) pe_int) (pa_cons pe_int pa_nil))))))
  pss_nil)
 (pss_cons (ps_if (pt_cmpR (show OpR _ (compareOp .Eq) (rEqU K) from op_eqU hr.units) (pv 3) pe_int (nomark _))
  (pss_one (ps_ret (pe_un un_neg pe_int)))
  pss_nil)
 (pss_cons (ps_if (pt_cmpR (show OpR _ (compareOp .Eq) (rEqU K) from op_eqU hr.units) (pv 3) pe_int (nomark _))
  (pss_one (ps_ret (pe_op (show OpR _ (binaryOp .Add) (rAddU K) from op_addU) (pe_op op_pow pe_int pe_int) pe_int)))
  pss_nil)
 (pss_cons (ps_if (pt_cmpR (show OpR _ (compareOp .Eq) (rEqU K) from op_eqU hr.units) (pv 3) pe_int (nomark _))
  (pss_one (ps_ret (pe_op op_sub (pe_op op_pow pe_int pe_int) (pe_call (ok__law_draw (base := base) T) (hr.mono (by decide)) rfl T.d__law_draw.m T.d__law_draw.F.kp T.d__law_draw.b .nil (passN nox_F) (pa_cons (pv 0) (pa_cons (pe_op (show OpR _ (binaryOp .Add) (rAddU K) from op_addU) (pv 1) pe_int) (pa_cons pe_int pa_nil)))))))
  pss_nil)
 (pss_cons (ps_if (pt_cmpR (show OpR _ (compareOp .Eq) (rEqU K) from op_eqU hr.units) (pv 3) pe_int (nomark _))
  (pss_one (ps_ret (pe_op op_mulU (pe_op op_sub (pe_op op_mulU (pe_call (ok__law_draw (base := base) T) (hr.mono (by decide)) rfl T.d__law_draw.m T.d__law_draw.F.kp T.d__law_draw.b .nil (passN nox_F) (pa_cons (pv 0) (pa_cons (pe_op (show OpR _ (binaryOp .Add) (rAddU K) from op_addU) (pv 1) pe_int) (pa_cons pe_int pa_nil)))) pe_int) pe_int) (pe_op (show OpR _ (binaryOp .Add) (rAddU K) from op_addU) (pe_op (show OpR _ (binaryOp .Add) (rAddU K) from op_addU) (pe_op op_pow pe_int pe_int) pe_int) (pe_call (ok__law_great (base := base) T) (hr.mono (by decide)) rfl T.d__law_great.m T.d__law_great.F.kp T.d__law_great.b .nil (passN nox_F) (pa_cons (pv 0) (pa_cons (pe_op (show OpR _ (binaryOp .Add) (rAddU K) from op_addU) (pv 1) pe_int) (pa_cons (pe_op op_pow pe_int pe_int) pa_nil))))))))
  pss_nil)
 (pss_one (ps_ret (pe_call (ok__law_great (base := base) T) (hr.mono (by decide)) rfl T.d__law_great.m T.d__law_great.F.kp T.d__law_great.b .nil (passN nox_F) (pa_cons (pv 0) (pa_cons (pe_op (show OpR _ (binaryOp .Add) (rAddU K) from op_addU) (pv 1) pe_int) (pa_cons (pe_op (show OpR _ (binaryOp .Add) (rAddU K) from op_addU) (pe_callB (call_minU rfl) rfl T.z_min BT.min (pa_cons (pe_op op_pow pe_int pe_int) (pa_cons (pv 2) pa_nil))) pe_int) pa_nil))))))))))))), ?_⟩
  refine x_start (σ0 := [some (.ref a), some (.int k), some (.int st), none]) rfl ?_
  walk_at "x"
  all_goals exact q _
theorem ok__law_member (T : Txt K mg) : FnOk P w K mg base (CXF P w) 3 T.d__law_member.a T.d__law_member.fd ["_law_script", "_law_k", "_law_many"] (spMemberH K) := by
  refine T.d__law_member.F.okN sc__law_member (fun vs H Q E h => ?_) (fun cdv A outer s H vs Q E hr h => ?_)
  · obtain ⟨a, ns, k, st, rfl, _⟩ := h; rfl
  obtain ⟨a, ns, k, st, rfl, hS, h0, h1, s0, s1, q⟩ := h
  refine ⟨_, (pss_cons (ps_set (i := 3) sc__law_member.nd rfl (Or.inl rfl) (pe_call (ok__law_draw (base := base) T) (hr.mono (by decide)) rfl T.d__law_draw.m T.d__law_draw.F.kp T.d__law_draw.b .nil (passN nox_F) (pa_cons (pv 0) (pa_cons (pv 1) (pa_cons pe_int pa_nil)))))
 (pss_cons (ps_if (pt_cmpR (show OpR _ (compareOp .Eq) (rEqU K) from op_eqU hr.units) (pv 3) pe_int (nomark _))
  (pss_one (ps_ret (pe_un un_neg pe_int)))
  pss_nil)
 (pss_cons (ps_if (pt_cmpR (show OpR _ (compareOp .Eq) (rEqU K) from op_eqU hr.units) (pv 3) pe_int (nomark _))
  (pss_one (ps_ret (pv 2)))
  pss_nil)
 (pss_cons (ps_if (pt_cmpR (show OpR _ (compareOp .Eq) (rEqU K) from op_eqU hr.units) (pv 3) pe_int (nomark _))
  (pss_one (ps_ret (pe_op op_mulU (pe_op op_sub (pe_op op_mulU (pe_call (ok__law_draw (base := base) T) (hr.mono (by decide)) rfl T.d__law_draw.m T.d__law_draw.F.kp T.d__law_draw.b .nil (passN nox_F) (pa_cons (pv 0) (pa_cons (pe_op (show OpR _ (binaryOp .Add) (rAddU K) from op_addU) (pv 1) pe_int) (pa_cons pe_int pa_nil)))) pe_int) pe_int) (pe_op (show OpR _ (binaryOp .Add) (rAddU K) from op_addU) (pe_op (show OpR _ (binaryOp .Add) (rAddU K) from op_addU) (pv 2) pe_int) (pe_call (ok__law_great (base := base) T) (hr.mono (by decide)) rfl T.d__law_great.m T.d__law_great.F.kp T.d__law_great.b .nil (passN nox_F) (pa_cons (pv 0) (pa_cons (pe_op (show OpR _ (binaryOp .Add) (rAddU K) from op_addU) (pv 1) pe_int) (pa_cons (pe_op op_pow pe_int pe_int) pa_nil))))))))
  pss_nil)
 (pss_one (ps_ret (pe_call (ok__law_draw (base := base) T) (hr.mono (by decide)) rfl T.d__law_draw.m T.d__law_draw.F.kp T.d__law_draw.b .nil (passN nox_F) (pa_cons (pv 0) (pa_cons (pe_op (show OpR _ (binaryOp .Add) (rAddU K) from op_addU) (pv 1) pe_int) (pa_cons (pv 2) pa_nil)))))))))), ?_⟩
  refine x_start (σ0 := [some (.ref a), some (.int k), some (.int st), none]) rfl ?_
  walk_at "x"
  all_goals exact q _
theorem ok__law_name (T : Txt K mg) : FnOkH P w K mg base 1 T.d__law_name.a T.d__law_name.fd ["_law_e"] (spNameH T.c_NoMember T.c_NoTerms T.c_Poor) := by
  refine T.d__law_name.F.okH sc__law_name (fun vs H Q E h => ?_) (fun cdv A outer s H vs Q E hr h => ?_)
  · obtain ⟨er, C, n, rfl, _⟩ := h; rfl
  obtain ⟨er, C, n, rfl, he, hC, k⟩ := h
  have e_Bare := T.e_Bare
  have i_Bare_Bare := T.i_Bare_Bare
  have i_Bare_NoDeal := T.i_Bare_NoDeal
  have i_Bare_NoLayer := T.i_Bare_NoLayer
  have i_Bare_NoMember := T.i_Bare_NoMember
  have i_Bare_NoPart := T.i_Bare_NoPart
  have i_Bare_NoRule := T.i_Bare_NoRule
  have i_Bare_NoTerms := T.i_Bare_NoTerms
  have i_Bare_Out := T.i_Bare_Out
  have i_Bare_Poor := T.i_Bare_Poor
  have i_Bare_QuitsError := T.i_Bare_QuitsError
  have i_Bare_ValueError := T.i_Bare_ValueError
  have q_Bare_QuitsError := T.q_Bare_QuitsError
  have e_NoLayer := T.e_NoLayer
  have i_NoLayer_Bare := T.i_NoLayer_Bare
  have i_NoLayer_NoDeal := T.i_NoLayer_NoDeal
  have i_NoLayer_NoLayer := T.i_NoLayer_NoLayer
  have i_NoLayer_NoMember := T.i_NoLayer_NoMember
  have i_NoLayer_NoPart := T.i_NoLayer_NoPart
  have i_NoLayer_NoRule := T.i_NoLayer_NoRule
  have i_NoLayer_NoTerms := T.i_NoLayer_NoTerms
  have i_NoLayer_Out := T.i_NoLayer_Out
  have i_NoLayer_Poor := T.i_NoLayer_Poor
  have i_NoLayer_QuitsError := T.i_NoLayer_QuitsError
  have i_NoLayer_ValueError := T.i_NoLayer_ValueError
  have q_NoLayer_QuitsError := T.q_NoLayer_QuitsError
  have e_NoMember := T.e_NoMember
  have i_NoMember_Bare := T.i_NoMember_Bare
  have i_NoMember_NoDeal := T.i_NoMember_NoDeal
  have i_NoMember_NoLayer := T.i_NoMember_NoLayer
  have i_NoMember_NoMember := T.i_NoMember_NoMember
  have i_NoMember_NoPart := T.i_NoMember_NoPart
  have i_NoMember_NoRule := T.i_NoMember_NoRule
  have i_NoMember_NoTerms := T.i_NoMember_NoTerms
  have i_NoMember_Out := T.i_NoMember_Out
  have i_NoMember_Poor := T.i_NoMember_Poor
  have i_NoMember_QuitsError := T.i_NoMember_QuitsError
  have i_NoMember_ValueError := T.i_NoMember_ValueError
  have q_NoMember_QuitsError := T.q_NoMember_QuitsError
  have e_NoPart := T.e_NoPart
  have i_NoPart_Bare := T.i_NoPart_Bare
  have i_NoPart_NoDeal := T.i_NoPart_NoDeal
  have i_NoPart_NoLayer := T.i_NoPart_NoLayer
  have i_NoPart_NoMember := T.i_NoPart_NoMember
  have i_NoPart_NoPart := T.i_NoPart_NoPart
  have i_NoPart_NoRule := T.i_NoPart_NoRule
  have i_NoPart_NoTerms := T.i_NoPart_NoTerms
  have i_NoPart_Out := T.i_NoPart_Out
  have i_NoPart_Poor := T.i_NoPart_Poor
  have i_NoPart_QuitsError := T.i_NoPart_QuitsError
  have i_NoPart_ValueError := T.i_NoPart_ValueError
  have q_NoPart_QuitsError := T.q_NoPart_QuitsError
  have e_NoRule := T.e_NoRule
  have i_NoRule_Bare := T.i_NoRule_Bare
  have i_NoRule_NoDeal := T.i_NoRule_NoDeal
  have i_NoRule_NoLayer := T.i_NoRule_NoLayer
  have i_NoRule_NoMember := T.i_NoRule_NoMember
  have i_NoRule_NoPart := T.i_NoRule_NoPart
  have i_NoRule_NoRule := T.i_NoRule_NoRule
  have i_NoRule_NoTerms := T.i_NoRule_NoTerms
  have i_NoRule_Out := T.i_NoRule_Out
  have i_NoRule_Poor := T.i_NoRule_Poor
  have i_NoRule_QuitsError := T.i_NoRule_QuitsError
  have i_NoRule_ValueError := T.i_NoRule_ValueError
  have q_NoRule_QuitsError := T.q_NoRule_QuitsError
  have e_NoTerms := T.e_NoTerms
  have i_NoTerms_Bare := T.i_NoTerms_Bare
  have i_NoTerms_NoDeal := T.i_NoTerms_NoDeal
  have i_NoTerms_NoLayer := T.i_NoTerms_NoLayer
  have i_NoTerms_NoMember := T.i_NoTerms_NoMember
  have i_NoTerms_NoPart := T.i_NoTerms_NoPart
  have i_NoTerms_NoRule := T.i_NoTerms_NoRule
  have i_NoTerms_NoTerms := T.i_NoTerms_NoTerms
  have i_NoTerms_Out := T.i_NoTerms_Out
  have i_NoTerms_Poor := T.i_NoTerms_Poor
  have i_NoTerms_QuitsError := T.i_NoTerms_QuitsError
  have i_NoTerms_ValueError := T.i_NoTerms_ValueError
  have q_NoTerms_QuitsError := T.q_NoTerms_QuitsError
  have e_Poor := T.e_Poor
  have i_Poor_Bare := T.i_Poor_Bare
  have i_Poor_NoDeal := T.i_Poor_NoDeal
  have i_Poor_NoLayer := T.i_Poor_NoLayer
  have i_Poor_NoMember := T.i_Poor_NoMember
  have i_Poor_NoPart := T.i_Poor_NoPart
  have i_Poor_NoRule := T.i_Poor_NoRule
  have i_Poor_NoTerms := T.i_Poor_NoTerms
  have i_Poor_Out := T.i_Poor_Out
  have i_Poor_Poor := T.i_Poor_Poor
  have i_Poor_QuitsError := T.i_Poor_QuitsError
  have i_Poor_ValueError := T.i_Poor_ValueError
  have q_Poor_QuitsError := T.q_Poor_QuitsError
  have cl_Book := T.cl_Book
  have na_Book_day := T.na_Book_day
  have na_Book_deals := T.na_Book_deals
  have na_Book_many := T.na_Book_many
  have na_Book_wares := T.na_Book_wares
  have cl_House := T.cl_House
  have na_House_book := T.na_House_book
  have na_House_kept := T.na_House_kept
  have na_House_moves := T.na_House_moves
  have na_House_order := T.na_House_order
  have na_House_outs := T.na_House_outs
  have na_House_pledges := T.na_House_pledges
  have na_House_purses := T.na_House_purses
  have na_House_reports := T.na_House_reports
  have na_House_rule := T.na_House_rule
  have na_House_shares := T.na_House_shares
  refine ⟨_, (pss_cons (ps_set (i := 1) sc__law_name.nd rfl (Or.inl rfl) (pe_lst pa_nil))
 (pss_mid (ps_if (show PT _ _ (tTru K _) from pt_truthU (pe_callB (show CallR _ _ (rIsiU K) from call_isiU) rfl T.z_isinstance BT.isinstance (pa_cons (pv 0) (pa_cons (pe_glob (v := .ref T.c_NoMember) rfl T.m_NoMember rfl) pa_nil))) (fun _ => rfl))
  (pss_one (ps_expr (show PE _ _ (tBM K _ _ _ _) from pe_bm PySem.F.plainAttrs_list PySem.F.slot_list_append PySem.F.type_list_append mt_append (pv 1) (pa_cons pe_str pa_nil))))
  pss_nil)
 (pss_mid (ps_if (show PT _ _ (tTru K _) from pt_truthU (pe_callB (show CallR _ _ (rIsiU K) from call_isiU) rfl T.z_isinstance BT.isinstance (pa_cons (pv 0) (pa_cons (pe_glob (v := .ref T.c_NoTerms) rfl T.m_NoTerms rfl) pa_nil))) (fun _ => rfl))
  (pss_one (ps_expr (show PE _ _ (tBM K _ _ _ _) from pe_bm PySem.F.plainAttrs_list PySem.F.slot_list_append PySem.F.type_list_append mt_append (pv 1) (pa_cons pe_str pa_nil))))
  pss_nil)
 (pss_mid (ps_if (show PT _ _ (tTru K _) from pt_truthU (pe_callB (show CallR _ _ (rIsiU K) from call_isiU) rfl T.z_isinstance BT.isinstance (pa_cons (pv 0) (pa_cons (pe_glob (v := .ref T.c_Poor) rfl T.m_Poor rfl) pa_nil))) (fun _ => rfl))
  (pss_one (ps_expr (show PE _ _ (tBM K _ _ _ _) from pe_bm PySem.F.plainAttrs_list PySem.F.slot_list_append PySem.F.type_list_append mt_append (pv 1) (pa_cons pe_str pa_nil))))
  pss_nil)
 (pss_mid (ps_if (PW.pt (pw_or (show PT _ _ (tTru K _) from pt_truthU (pe_callB (show CallR _ _ (rIsiU K) from call_isiU) rfl T.z_isinstance BT.isinstance (pa_cons (pv 0) (pa_cons (pe_glob (v := .ref T.c_Bare) rfl T.m_Bare rfl) pa_nil))) (fun _ => rfl)) (pw_or (show PT _ _ (tTru K _) from pt_truthU (pe_callB (show CallR _ _ (rIsiU K) from call_isiU) rfl T.z_isinstance BT.isinstance (pa_cons (pv 0) (pa_cons (pe_glob (v := .ref T.c_Out) rfl T.m_Out rfl) pa_nil))) (fun _ => rfl)) (pw_or1 (show PT _ _ (tTru K _) from pt_truthU (pe_callB (show CallR _ _ (rIsiU K) from call_isiU) rfl T.z_isinstance BT.isinstance (pa_cons (pv 0) (pa_cons (pe_glob (v := .ref T.c_NoDeal) rfl T.m_NoDeal rfl) pa_nil))) (fun _ => rfl))))))
  (pss_one (ps_expr (show PE _ _ (tBM K _ _ _ _) from pe_bm PySem.F.plainAttrs_list PySem.F.slot_list_append PySem.F.type_list_append mt_append (pv 1) (pa_cons pe_str pa_nil))))
  pss_nil)
 (pss_cons (ps_if (PW.pt (pw_or (pt_cmpR (show OpR _ (compareOp .NotEq) (rNeU K) from op_neU hr.units) (pe_callB (show CallR _ _ (rLen K) from call_lenU) rfl T.z_len BT.len (pa_cons (pv 1) pa_nil)) pe_int (nomark _)) (pw_or1 (pt_not (show PT _ _ (tTru K _) from pt_truthU (pe_callB (show CallR _ _ (rIsiU K) from call_isiU) rfl T.z_isinstance BT.isinstance (pa_cons (pv 0) (pa_cons (pe_bltn (v := .ty "ValueError") rfl T.z_ValueError BT.ValueError rfl) pa_nil))) (fun _ => rfl))))))
  (pss_one (ps_ret pe_str))
  pss_nil)
 (pss_one (ps_ret (pe_ix (show IxR _ (rIx K) from ix_seq) (pv 1) pe_int (fun _ _ => rfl)))))))))), ?_⟩
  refine x_start (σ0 := [some (.ref er), none]) rfl ?_
  rcases hC with ⟨rfl, rfl⟩ | ⟨rfl, rfl⟩ | ⟨rfl, rfl⟩
  · walk_at "x"
    rename_i fo H1 ffo e1 hfo
    refine x_mid (fun σ' H' => σ' = [some (.ref er), some (.ref fo)] ∧ H' fo = some (.lst [V.str "member"]) ∧ Same H H') ?_ ?_
    · walk_at "x"
      first | exact ⟨rfl, hfo, e1⟩ | (refine x_appN (by assumption) (by show 0 ≤ 100000; decide) fun Hn bn hn => ?_; walk_at "x"; exact ⟨rfl, hn, bn.same e1 ffo⟩)
    rintro σ' G0 ⟨rfl, hg0, eg0⟩
    have he0 := eg0.at he
    refine x_mid (fun σ' H' => σ' = [some (.ref er), some (.ref fo)] ∧ H' fo = some (.lst [V.str "member"]) ∧ Same H H') ?_ ?_
    · walk_at "x"
      first | exact ⟨rfl, hg0, eg0⟩ | (refine x_appN (by assumption) (by show 0 ≤ 100000; decide) fun Hn bn hn => ?_; walk_at "x"; exact ⟨rfl, hn, bn.same eg0 ffo⟩)
    rintro σ' G1 ⟨rfl, hg1, eg1⟩
    have he1 := eg1.at he
    refine x_mid (fun σ' H' => σ' = [some (.ref er), some (.ref fo)] ∧ H' fo = some (.lst [V.str "member"]) ∧ Same H H') ?_ ?_
    · walk_at "x"
      first | exact ⟨rfl, hg1, eg1⟩ | (refine x_appN (by assumption) (by show 0 ≤ 100000; decide) fun Hn bn hn => ?_; walk_at "x"; exact ⟨rfl, hn, bn.same eg1 ffo⟩)
    rintro σ' G2 ⟨rfl, hg2, eg2⟩
    have he2 := eg2.at he
    refine x_mid (fun σ' H' => σ' = [some (.ref er), some (.ref fo)] ∧ H' fo = some (.lst [V.str "member"]) ∧ Same H H') ?_ ?_
    · walk_at "x"
      first | exact ⟨rfl, hg2, eg2⟩ | (refine x_appN (by assumption) (by show 0 ≤ 100000; decide) fun Hn bn hn => ?_; walk_at "x"; exact ⟨rfl, hn, bn.same eg2 ffo⟩)
    rintro σ' G3 ⟨rfl, hg3, eg3⟩
    have he3 := eg3.at he
    walk_at "x"
    all_goals first | (rename_i h; exact absurd rfl h) | exact k _ eg3
  · walk_at "x"
    rename_i fo H1 ffo e1 hfo
    refine x_mid (fun σ' H' => σ' = [some (.ref er), some (.ref fo)] ∧ H' fo = some (.lst []) ∧ Same H H') ?_ ?_
    · walk_at "x"
      first | exact ⟨rfl, hfo, e1⟩ | (refine x_appN (by assumption) (by show 0 ≤ 100000; decide) fun Hn bn hn => ?_; walk_at "x"; exact ⟨rfl, hn, bn.same e1 ffo⟩)
    rintro σ' G0 ⟨rfl, hg0, eg0⟩
    have he0 := eg0.at he
    refine x_mid (fun σ' H' => σ' = [some (.ref er), some (.ref fo)] ∧ H' fo = some (.lst [V.str "terms"]) ∧ Same H H') ?_ ?_
    · walk_at "x"
      first | exact ⟨rfl, hg0, eg0⟩ | (refine x_appN (by assumption) (by show 0 ≤ 100000; decide) fun Hn bn hn => ?_; walk_at "x"; exact ⟨rfl, hn, bn.same eg0 ffo⟩)
    rintro σ' G1 ⟨rfl, hg1, eg1⟩
    have he1 := eg1.at he
    refine x_mid (fun σ' H' => σ' = [some (.ref er), some (.ref fo)] ∧ H' fo = some (.lst [V.str "terms"]) ∧ Same H H') ?_ ?_
    · walk_at "x"
      first | exact ⟨rfl, hg1, eg1⟩ | (refine x_appN (by assumption) (by show 0 ≤ 100000; decide) fun Hn bn hn => ?_; walk_at "x"; exact ⟨rfl, hn, bn.same eg1 ffo⟩)
    rintro σ' G2 ⟨rfl, hg2, eg2⟩
    have he2 := eg2.at he
    refine x_mid (fun σ' H' => σ' = [some (.ref er), some (.ref fo)] ∧ H' fo = some (.lst [V.str "terms"]) ∧ Same H H') ?_ ?_
    · walk_at "x"
      first | exact ⟨rfl, hg2, eg2⟩ | (refine x_appN (by assumption) (by show 0 ≤ 100000; decide) fun Hn bn hn => ?_; walk_at "x"; exact ⟨rfl, hn, bn.same eg2 ffo⟩)
    rintro σ' G3 ⟨rfl, hg3, eg3⟩
    have he3 := eg3.at he
    walk_at "x"
    all_goals first | (rename_i h; exact absurd rfl h) | exact k _ eg3
  · walk_at "x"
    rename_i fo H1 ffo e1 hfo
    refine x_mid (fun σ' H' => σ' = [some (.ref er), some (.ref fo)] ∧ H' fo = some (.lst []) ∧ Same H H') ?_ ?_
    · walk_at "x"
      first | exact ⟨rfl, hfo, e1⟩ | (refine x_appN (by assumption) (by show 0 ≤ 100000; decide) fun Hn bn hn => ?_; walk_at "x"; exact ⟨rfl, hn, bn.same e1 ffo⟩)
    rintro σ' G0 ⟨rfl, hg0, eg0⟩
    have he0 := eg0.at he
    refine x_mid (fun σ' H' => σ' = [some (.ref er), some (.ref fo)] ∧ H' fo = some (.lst []) ∧ Same H H') ?_ ?_
    · walk_at "x"
      first | exact ⟨rfl, hg0, eg0⟩ | (refine x_appN (by assumption) (by show 0 ≤ 100000; decide) fun Hn bn hn => ?_; walk_at "x"; exact ⟨rfl, hn, bn.same eg0 ffo⟩)
    rintro σ' G1 ⟨rfl, hg1, eg1⟩
    have he1 := eg1.at he
    refine x_mid (fun σ' H' => σ' = [some (.ref er), some (.ref fo)] ∧ H' fo = some (.lst [V.str "poor"]) ∧ Same H H') ?_ ?_
    · walk_at "x"
      first | exact ⟨rfl, hg1, eg1⟩ | (refine x_appN (by assumption) (by show 0 ≤ 100000; decide) fun Hn bn hn => ?_; walk_at "x"; exact ⟨rfl, hn, bn.same eg1 ffo⟩)
    rintro σ' G2 ⟨rfl, hg2, eg2⟩
    have he2 := eg2.at he
    refine x_mid (fun σ' H' => σ' = [some (.ref er), some (.ref fo)] ∧ H' fo = some (.lst [V.str "poor"]) ∧ Same H H') ?_ ?_
    · walk_at "x"
      first | exact ⟨rfl, hg2, eg2⟩ | (refine x_appN (by assumption) (by show 0 ≤ 100000; decide) fun Hn bn hn => ?_; walk_at "x"; exact ⟨rfl, hn, bn.same eg2 ffo⟩)
    rintro σ' G3 ⟨rfl, hg3, eg3⟩
    have he3 := eg3.at he
    walk_at "x"
    all_goals first | (rename_i h; exact absurd rfl h) | exact k _ eg3

theorem ok__law_done (T : Txt K mg) : FnOk P w K mg base (CXF P w) 6 T.d__law_done.a T.d__law_done.fd ["_law_house", "_law_word", "_law_member_here", "_law_coins_here"] (spDoneH K T.c_House T.c_Book lP lQ T.c_NoMember T.c_NoTerms T.c_Poor) := by
  refine T.d__law_done.F.okX sc__law_done (fun vs H Q E h => ?_) (fun cdv A outer s H vs Q E hr h => ?_)
  · obtain ⟨H0, X, P, L, R, wd, m, c, B, rfl, _⟩ := h; rfl
  obtain ⟨H0, X, P, L, R, wd, m, c, B, rfl, hw, hW, hB, hB1, q0, q1, q2, q3⟩ := h
  obtain ⟨dx, hh⟩ := hW.hc.ob
  have cl_House := T.cl_House
  have e1 : ¬ ("take" : Str) = "put" := by decide
  have e2 : ¬ ("take" : Str) = "free" := by decide
  have e3 : ¬ ("lay" : Str) = "put" := by decide
  have e4 : ¬ ("lay" : Str) = "free" := by decide
  have e5 : ¬ ("put" : Str) = "lay" := by decide
  have e6 : ¬ ("put" : Str) = "free" := by decide
  have e7 : ¬ ("take" : Str) = "lay" := by decide
  have e8 : ¬ ("free" : Str) = "lay" := by decide
  have e9 : ¬ ("lay" : Str) = "take" := by decide
  have e10 : ¬ ("free" : Str) = "put" := by decide
  have e11 : ¬ ("free" : Str) = "take" := by decide
  have e12 : ¬ ("put" : Str) = "take" := by decide
  have r1 : ("put" : Str) = "put" := rfl
  have r2 : ("take" : Str) = "take" := rfl
  have r3 : ("lay" : Str) = "lay" := rfl
  refine ⟨_, (pss_cons (ps_if (pt_cmpR (show OpR _ (compareOp .Eq) (rEqU K) from op_eqU hr.units) (pv 1) pe_str (nomark _))
  (pss_one (ps_ret (pe_meth (pv 0) T.cl_House T.d_House_put.mt (ok_House_put (base := base) T) (hr.mono (by decide)) T.d_House_put.b .nil pass_F (pa_cons (pv 2) (pa_cons (pv 3) pa_nil)))))
  pss_nil)
 (pss_cons (ps_if (pt_cmpR (show OpR _ (compareOp .Eq) (rEqU K) from op_eqU hr.units) (pv 1) pe_str (nomark _))
  (pss_one (ps_ret (pe_meth (pv 0) T.cl_House T.d_House_take.mt (ok_House_take (base := base) T) (hr.mono (by decide)) T.d_House_take.b .nil pass_F (pa_cons (pv 2) (pa_cons (pv 3) pa_nil)))))
  pss_nil)
 (pss_cons (ps_if (pt_cmpR (show OpR _ (compareOp .Eq) (rEqU K) from op_eqU hr.units) (pv 1) pe_str (nomark _))
  (pss_one (ps_ret (pe_meth (pv 0) T.cl_House T.d_House_lay.mt (ok_House_lay (base := base) T) (hr.mono (by decide)) T.d_House_lay.b .nil pass_F (pa_cons (pv 2) (pa_cons (pv 3) pa_nil)))))
  pss_nil)
 (pss_one (ps_ret (pe_meth (pv 0) T.cl_House T.d_House_free.mt (ok_House_free (base := base) T) (hr.mono (by decide)) T.d_House_free.b .nil pass_F (pa_cons (pv 2) (pa_cons (pv 3) pa_nil)))))))), ?_⟩
  refine x_start (σ0 := [some (.ref X.h), some (.str wd), some (.int m), some (.int c)]) rfl ?_
  simp only [words4, List.mem_cons, List.not_mem_nil, or_false] at hw
  rcases hw with rfl | rfl | rfl | rfl
  · walk_at "x"
    refine ⟨X.h, X.A, X.own, m, c, X.n, P, L, rfl, hW.hc, fun hm ht H1 b1 h1 => ?_, fun hm => q1 (dK1 hm), fun hm ht => q2 (dK2 hm ht)⟩
    refine q0 (dK0 hm ht (fun z => z.elim (fun y => e6 y.1) fun y => y.1.elim e12 e5)) H1 b1.tups ?_
    rw [show pC "put" c = c from if_pos (.inl rfl), show lC "put" c = 0 by unfold lC; rw [if_neg e5, if_neg e6], addF_zero]
    exact hW.pu b1 h1
  · walk_at "x"
    refine ⟨X.h, X.A, X.own, m, c, X.n, P, L, rfl, hW.hc, fun hm ht hle H1 b1 h1 => ?_, fun hm => q1 (dK1 hm), fun hm ht => q2 (dK2 hm ht), fun hm ht hlt => q3 (dK3 hm ht (.inr ⟨.inl rfl, hlt⟩))⟩
    refine q0 (dK0 hm ht (fun z => z.elim (fun y => e2 y.1) fun y => by have := y.2; omega)) H1 b1.tups ?_
    rw [show pC "take" c = -c from if_neg (fun z => z.elim e1 e2), show lC "take" c = 0 by unfold lC; rw [if_neg e7, if_neg e2], addF_zero]
    exact hW.pu b1 h1
  · walk_at "x"
    refine ⟨X.h, X.A, X.own, m, c, X.n, P, L, rfl, hW.hc, fun hm ht hle H1 H2 b1 h1 b2 h2 => ?_, fun hm => q1 (dK1 hm), fun hm ht => q2 (dK2 hm ht), fun hm ht hlt => q3 (dK3 hm ht (.inr ⟨.inr rfl, hlt⟩))⟩
    refine q0 (dK0 hm ht (fun z => z.elim (fun y => e4 y.1) fun y => by have := y.2; omega)) H2 (fun a xs z => b2.tup (b1.tup z)) ?_
    rw [show pC "lay" c = -c from if_neg (fun z => z.elim e3 e4), show lC "lay" c = c from if_pos rfl]
    exact (hW.pu b1 h1).pl b2 h2
  · walk_at "x"
    refine ⟨X.h, X.d, X.A, X.own, m, c, _, _, X.n, P, L, [], [X.mr], 2, mvF, "mean", 1, rfl, hW.hc, hW.hn, fun hm ht => ?_, fun hm ht hle H1 q s1 t1 hL => ⟨fun hlt => ?_, fun hnl H2 H3 b2 h2 b3 h3 => ?_⟩, fun hm => q1 (dK1 hm), fun hm ht => q2 (dK2 hm ht), fun hm ht hlt => q3 (dK3 hm ht (.inl ⟨rfl, hlt⟩))⟩
    · have h1 := hB m.toNat (by have := hm.1; have := hm.2; omega)
      have h2 := ht.1
      have h3 := ht.2
      exact Nat.le_trans (sz200 (by omega) (by omega)) (by decide)
    · rw [need_none] at hlt
      have : (L m.toNat - c) < 0 := by exact_mod_cast hlt
      omega
    · refine q0 (dK0 hm ht (fun z => z.elim (fun y => by have := y.2; omega) fun y => y.1.elim e11 e8)) H3 (fun a xs z => b3.tup (b2.tup (s1.tup z))) ?_
      rw [show pC "free" c = c from if_pos (.inr rfl), show lC "free" c = -c by unfold lC; rw [if_neg e8, if_pos rfl]]
      exact ((hW.sameT s1 t1).pl b2 h2).pu b3 h3
theorem ok__law_found (T : Txt K mg) : FnOk P w K mg base (CXF P w) 7 T.d__law_found.a T.d__law_found.fd ["_law_house", "_law_word", "_law_member_here", "_law_coins_here"] (spFoundH K T.c_House T.c_Book lP lQ) := by
  refine T.d__law_found.F.okN sc__law_found (fun vs H Q E h => ?_) (fun cdv A outer s H vs Q E hr h => ?_)
  · obtain ⟨H0, X, P, L, R, wd, m, c, B, rfl, _⟩ := h; rfl
  obtain ⟨H0, X, P, L, R, wd, m, c, B, rfl, hw, hW, hB, hB1, q⟩ := h
  have e_Bare := T.e_Bare
  have i_Bare_Bare := T.i_Bare_Bare
  have i_Bare_NoDeal := T.i_Bare_NoDeal
  have i_Bare_NoLayer := T.i_Bare_NoLayer
  have i_Bare_NoMember := T.i_Bare_NoMember
  have i_Bare_NoPart := T.i_Bare_NoPart
  have i_Bare_NoRule := T.i_Bare_NoRule
  have i_Bare_NoTerms := T.i_Bare_NoTerms
  have i_Bare_Out := T.i_Bare_Out
  have i_Bare_Poor := T.i_Bare_Poor
  have i_Bare_QuitsError := T.i_Bare_QuitsError
  have i_Bare_ValueError := T.i_Bare_ValueError
  have q_Bare_QuitsError := T.q_Bare_QuitsError
  have e_NoLayer := T.e_NoLayer
  have i_NoLayer_Bare := T.i_NoLayer_Bare
  have i_NoLayer_NoDeal := T.i_NoLayer_NoDeal
  have i_NoLayer_NoLayer := T.i_NoLayer_NoLayer
  have i_NoLayer_NoMember := T.i_NoLayer_NoMember
  have i_NoLayer_NoPart := T.i_NoLayer_NoPart
  have i_NoLayer_NoRule := T.i_NoLayer_NoRule
  have i_NoLayer_NoTerms := T.i_NoLayer_NoTerms
  have i_NoLayer_Out := T.i_NoLayer_Out
  have i_NoLayer_Poor := T.i_NoLayer_Poor
  have i_NoLayer_QuitsError := T.i_NoLayer_QuitsError
  have i_NoLayer_ValueError := T.i_NoLayer_ValueError
  have q_NoLayer_QuitsError := T.q_NoLayer_QuitsError
  have e_NoMember := T.e_NoMember
  have i_NoMember_Bare := T.i_NoMember_Bare
  have i_NoMember_NoDeal := T.i_NoMember_NoDeal
  have i_NoMember_NoLayer := T.i_NoMember_NoLayer
  have i_NoMember_NoMember := T.i_NoMember_NoMember
  have i_NoMember_NoPart := T.i_NoMember_NoPart
  have i_NoMember_NoRule := T.i_NoMember_NoRule
  have i_NoMember_NoTerms := T.i_NoMember_NoTerms
  have i_NoMember_Out := T.i_NoMember_Out
  have i_NoMember_Poor := T.i_NoMember_Poor
  have i_NoMember_QuitsError := T.i_NoMember_QuitsError
  have i_NoMember_ValueError := T.i_NoMember_ValueError
  have q_NoMember_QuitsError := T.q_NoMember_QuitsError
  have e_NoPart := T.e_NoPart
  have i_NoPart_Bare := T.i_NoPart_Bare
  have i_NoPart_NoDeal := T.i_NoPart_NoDeal
  have i_NoPart_NoLayer := T.i_NoPart_NoLayer
  have i_NoPart_NoMember := T.i_NoPart_NoMember
  have i_NoPart_NoPart := T.i_NoPart_NoPart
  have i_NoPart_NoRule := T.i_NoPart_NoRule
  have i_NoPart_NoTerms := T.i_NoPart_NoTerms
  have i_NoPart_Out := T.i_NoPart_Out
  have i_NoPart_Poor := T.i_NoPart_Poor
  have i_NoPart_QuitsError := T.i_NoPart_QuitsError
  have i_NoPart_ValueError := T.i_NoPart_ValueError
  have q_NoPart_QuitsError := T.q_NoPart_QuitsError
  have e_NoRule := T.e_NoRule
  have i_NoRule_Bare := T.i_NoRule_Bare
  have i_NoRule_NoDeal := T.i_NoRule_NoDeal
  have i_NoRule_NoLayer := T.i_NoRule_NoLayer
  have i_NoRule_NoMember := T.i_NoRule_NoMember
  have i_NoRule_NoPart := T.i_NoRule_NoPart
  have i_NoRule_NoRule := T.i_NoRule_NoRule
  have i_NoRule_NoTerms := T.i_NoRule_NoTerms
  have i_NoRule_Out := T.i_NoRule_Out
  have i_NoRule_Poor := T.i_NoRule_Poor
  have i_NoRule_QuitsError := T.i_NoRule_QuitsError
  have i_NoRule_ValueError := T.i_NoRule_ValueError
  have q_NoRule_QuitsError := T.q_NoRule_QuitsError
  have e_NoTerms := T.e_NoTerms
  have i_NoTerms_Bare := T.i_NoTerms_Bare
  have i_NoTerms_NoDeal := T.i_NoTerms_NoDeal
  have i_NoTerms_NoLayer := T.i_NoTerms_NoLayer
  have i_NoTerms_NoMember := T.i_NoTerms_NoMember
  have i_NoTerms_NoPart := T.i_NoTerms_NoPart
  have i_NoTerms_NoRule := T.i_NoTerms_NoRule
  have i_NoTerms_NoTerms := T.i_NoTerms_NoTerms
  have i_NoTerms_Out := T.i_NoTerms_Out
  have i_NoTerms_Poor := T.i_NoTerms_Poor
  have i_NoTerms_QuitsError := T.i_NoTerms_QuitsError
  have i_NoTerms_ValueError := T.i_NoTerms_ValueError
  have q_NoTerms_QuitsError := T.q_NoTerms_QuitsError
  have e_Poor := T.e_Poor
  have i_Poor_Bare := T.i_Poor_Bare
  have i_Poor_NoDeal := T.i_Poor_NoDeal
  have i_Poor_NoLayer := T.i_Poor_NoLayer
  have i_Poor_NoMember := T.i_Poor_NoMember
  have i_Poor_NoPart := T.i_Poor_NoPart
  have i_Poor_NoRule := T.i_Poor_NoRule
  have i_Poor_NoTerms := T.i_Poor_NoTerms
  have i_Poor_Out := T.i_Poor_Out
  have i_Poor_Poor := T.i_Poor_Poor
  have i_Poor_QuitsError := T.i_Poor_QuitsError
  have i_Poor_ValueError := T.i_Poor_ValueError
  have q_Poor_QuitsError := T.q_Poor_QuitsError
  have cl_Book := T.cl_Book
  have na_Book_day := T.na_Book_day
  have na_Book_deals := T.na_Book_deals
  have na_Book_many := T.na_Book_many
  have na_Book_wares := T.na_Book_wares
  have cl_House := T.cl_House
  have na_House_book := T.na_House_book
  have na_House_kept := T.na_House_kept
  have na_House_moves := T.na_House_moves
  have na_House_order := T.na_House_order
  have na_House_outs := T.na_House_outs
  have na_House_pledges := T.na_House_pledges
  have na_House_purses := T.na_House_purses
  have na_House_reports := T.na_House_reports
  have na_House_rule := T.na_House_rule
  have na_House_shares := T.na_House_shares
  refine ⟨_, (pss_cons (ps_set (i := 4) sc__law_found.nd rfl (Or.inl rfl) (pe_tup (pa_cons pe_str (pa_cons pe_int pa_nil))))
 (pss_cons (show PS _ _ (tTryG K _ _ _ _) from ps_tryG (i := 5) ⟨rfl, rfl⟩ (ptrs_one (ptr_set (i := 4) sc__law_found.nd rfl (Or.inl rfl) (per_tup (par_cons pe_str (par_last (per_call (ok__law_done (base := base) T) (hr.mono (by decide)) rfl T.d__law_done.m T.d__law_done.F.kp T.d__law_done.b (pa_cons (pv 0) (pa_cons (pv 1) (pa_cons (pv 2) (pa_cons (pv 3) pa_nil)))))))))) rfl T.m_QuitsError sc__law_found.nd rfl rfl (fun _ => (pss_one (ps_set (i := 4) sc__law_found.nd rfl (Or.inl rfl) (pe_tup (pa_cons pe_str (pa_cons (show PE _ _ (tCall _ [] E0 _) from pe_callH (ok__law_name (base := base) T) (Room.mark (hr.mono (j := 1) (by decide)) _) (by rfl) T.d__law_name.m T.d__law_name.F.kp T.d__law_name.b (pa_cons (pv 5) pa_nil)) pa_nil)))))))
 (pss_one (ps_ret (pv 4))))), ?_⟩
  refine x_start (σ0 := [some (.ref X.h), some (.str wd), some (.int m), some (.int c), none, none]) rfl ?_
  walk_at "x"
  refine x_tupN (by first | decide | simp) fun t0' H1 ft0 e1 ht0 => ?_
  have hW1 := hW.same e1
  walk_at "x"
  refine ⟨H0, X, P, L, R, wd, m, c, B, rfl, hw, hW1, hB, hB1, fun h0 H2 t2 hW2 => ?_, fun h1 => ⟨_, rfl, ?_⟩, fun h1 => ⟨_, rfl, ?_⟩, fun h1 => ⟨_, rfl, ?_⟩⟩
  · walk_at "x"
    refine x_tupN (by first | decide | simp) fun p H3 fp e3 hp => ?_
    walk_at "x"
    rw [newP0 h0, newL0 h0, h0] at q
    exact q p H3 (fun a xs z => e3.at (t2 a xs (e1.at z))) (hW2.same e3) hp
  · have hne : ¬ dK wd X.n P L m c = 0 := by rw [h1]; decide
    rw [newP1 hne, newL1 hne, h1] at q
    refine x_catch (by assumption) fun er H3 f3 e3 h3 => ?_
    walk_at "x"
    refine ⟨er, _, 1, rfl, h3, .inl ⟨rfl, rfl⟩, fun H4 e4 => ?_⟩
    walk_at "x"
    refine x_tupN (by first | decide | simp) fun p H5 fp e5 hp => ?_
    walk_at "x"
    have e15 : Same H1 H5 := e3.trans (e4.trans e5)
    exact q p H5 (e1.trans e15).tups (hW1.same e15) hp
  · have hne : ¬ dK wd X.n P L m c = 0 := by rw [h1]; decide
    rw [newP1 hne, newL1 hne, h1] at q
    refine x_catch (by assumption) fun er H3 f3 e3 h3 => ?_
    walk_at "x"
    refine ⟨er, _, 2, rfl, h3, .inr (.inl ⟨rfl, rfl⟩), fun H4 e4 => ?_⟩
    walk_at "x"
    refine x_tupN (by first | decide | simp) fun p H5 fp e5 hp => ?_
    walk_at "x"
    have e15 : Same H1 H5 := e3.trans (e4.trans e5)
    exact q p H5 (e1.trans e15).tups (hW1.same e15) hp
  · have hne : ¬ dK wd X.n P L m c = 0 := by rw [h1]; decide
    rw [newP1 hne, newL1 hne, h1] at q
    refine x_catch (by assumption) fun er H3 f3 e3 h3 => ?_
    walk_at "x"
    refine ⟨er, _, 3, rfl, h3, .inr (.inr ⟨rfl, rfl⟩), fun H4 e4 => ?_⟩
    walk_at "x"
    refine x_tupN (by first | decide | simp) fun p H5 fp e5 hp => ?_
    walk_at "x"
    have e15 : Same H1 H5 := e3.trans (e4.trans e5)
    exact q p H5 (e1.trans e15).tups (hW1.same e15) hp

theorem ok__law_due (T : Txt K mg) : FnOk P w K mg base (CXF P w) 1 T.d__law_due.a T.d__law_due.fd ["_law_rows", "_law_word", "_law_member_here", "_law_coins_here"] (spDueH K T.c_House T.c_Book lP lQ) := by
  refine T.d__law_due.F.okN sc__law_due (fun vs H Q E h => ?_) (fun cdv A outer s H vs Q E hr h => ?_)
  · obtain ⟨H0, X, P, L, R, wd, m, c, rfl, _⟩ := h; rfl
  obtain ⟨H0, X, P, L, R, wd, m, c, rfl, hw, hW, hT, hn, q⟩ := h
  have hro := hW.ro
  have hal := hW.al
  have haml : (X.as.map V.ref).length = X.n := by rw [List.length_map]; exact hal
  have stay : HW K T.c_House T.c_Book lP lQ H0 X H P L (rowN P L R) := hW.congr fun i hi j hj => by
    obtain ⟨t0, t1, t2⟩ := hT i
    unfold rowN
    split
    · rename_i h; rw [h]; exact t0
    · split
      · rename_i h; rw [h]; exact t1
      · rfl
  refine ⟨_, (pss_cons (ps_if (PW.pt (pw_or (pt_cmpR op_lt (pv 2) pe_int (nomark _)) (pw_or1 (pt_cmpR op_ge (pv 2) (pe_callB (show CallR _ _ (rLen K) from call_lenU) rfl T.z_len BT.len (pa_cons (pv 0) pa_nil)) (nomark _)))))
  (pss_one (ps_ret (pe_tup (pa_cons pe_str (pa_cons pe_str pa_nil)))))
  pss_nil)
 (pss_cons (ps_if (PW.pt (pw_or (pt_cmpR op_lt (pv 3) pe_int (nomark _)) (pw_or1 (pt_cmpR op_gt (pv 3) (pe_op op_pow pe_int pe_int) (nomark _)))))
  (pss_one (ps_ret (pe_tup (pa_cons pe_str (pa_cons pe_str pa_nil)))))
  pss_nil)
 (pss_cons (ps_set (i := 4) sc__law_due.nd rfl (Or.inl rfl) (pe_ix (show IxR _ (rIx K) from ix_seq) (pv 0) (pv 2) (fun _ _ => rfl)))
 (pss_cons (ps_if (PW.pt (pw_or (PW.pt (pw_and (pt_cmpR (show OpR _ (compareOp .Eq) (rEqU K) from op_eqU hr.units) (pv 1) pe_str (nomark _)) (pw_and1 (pt_cmpR op_lt (pe_ix (show IxR _ (rIx K) from ix_seq) (pv 4) pe_int (fun _ _ => rfl)) (pv 3) (nomark _))))) (pw_or1 (PW.pt (pw_and (pt_cmpR (show OpR _ (compareOp .In) (rIn K false) from op_in_seq) (pv 1) (pe_lst (pa_cons pe_str (pa_cons pe_str pa_nil))) (by with_unfolding_all rfl)) (pw_and1 (pt_cmpR op_lt (pe_ix (show IxR _ (rIx K) from ix_seq) (pv 4) pe_int (fun _ _ => rfl)) (pv 3) (nomark _))))))))
  (pss_one (ps_ret (pe_tup (pa_cons pe_str (pa_cons pe_str pa_nil)))))
  pss_nil)
 (pss_cons (ps_asg (pe_op (show OpR _ (binaryOp .Add) (rAddU K) from op_addU) (pe_ix (show IxR _ (rIx K) from ix_seq) (pv 4) pe_int (fun _ _ => rfl)) (pe_dget (Nat.lt_of_le_of_lt (Nat.add_le_add_left (by decide : (1 : Nat) ≤ 64) _) hr.units) (pe_disp (pps_cons pe_str (pv 3) (pps_cons pe_str (pe_op op_sub pe_int (pv 3)) (pps_cons pe_str (pe_op op_sub pe_int (pv 3)) (pps_cons pe_str (pv 3) pps_nil)))) rfl rfl (by simp) (by decide)) (pv 1) (fun _ _ => rfl))) (pg_sub (pv 4) pe_int set_list))
 (pss_cons (ps_asg (pe_op (show OpR _ (binaryOp .Add) (rAddU K) from op_addU) (pe_ix (show IxR _ (rIx K) from ix_seq) (pv 4) pe_int (fun _ _ => rfl)) (pe_dget (Nat.lt_of_le_of_lt (Nat.add_le_add_left (by decide : (1 : Nat) ≤ 64) _) hr.units) (pe_disp (pps_cons pe_str pe_int (pps_cons pe_str pe_int (pps_cons pe_str (pv 3) (pps_cons pe_str (pe_op op_sub pe_int (pv 3)) pps_nil)))) rfl rfl (by simp) (by decide)) (pv 1) (fun _ _ => rfl))) (pg_sub (pv 4) pe_int set_list))
 (pss_one (ps_ret (pe_tup (pa_cons pe_str (pa_cons pe_non pa_nil))))))))))), ?_⟩
  refine x_start (σ0 := [some (.ref X.ro), some (.str wd), some (.int m), some (.int c), none]) rfl ?_
  by_cases hm : mOk X.n m
  case neg =>
    have hk := dK1 (wd := wd) (P := P) (L := L) (c := c) hm
    have hne : ¬ dK wd X.n P L m c = 0 := by rw [hk]; decide
    rw [newP1 hne, newL1 hne, hk] at q
    unfold mOk at hm
    walk_at "x"
    all_goals first | (exfalso; omega) | (refine x_tupN (by first | decide | simp) fun p H1 fp e1 hp => ?_; walk_at "x"; exact q p H1 (stay.same e1) hp)
  have ⟨m0, m1⟩ := hm
  by_cases ht : tOk c
  case neg =>
    have hk := dK2 (wd := wd) (P := P) (L := L) (c := c) hm ht
    have hne : ¬ dK wd X.n P L m c = 0 := by rw [hk]; decide
    rw [newP1 hne, newL1 hne, hk] at q
    unfold tOk at ht
    walk_at "x"
    all_goals first | (exfalso; omega) | (refine x_tupN (by first | decide | simp) fun p H1 fp e1 hp => ?_; walk_at "x"; exact q p H1 (stay.same e1) hp)
  have ⟨c0, c1⟩ := ht
  obtain ⟨r, hra⟩ := lt_some (show m.toNat < X.as.length by omega)
  have hat : atI (X.as.map V.ref) m = some (.ref r) := atI_lt m0 (by rw [List.getElem?_map, hra]; rfl)
  have hrow := hW.rw.2 _ _ hra
  obtain ⟨t0, t1, t2⟩ := hT m.toNat
  have n1 : ¬ m < 0 := by omega
  have n2 : ¬ m ≥ ((X.as.map V.ref).length : Int) := by omega
  have n3 : ¬ c < 0 := by omega
  have n4 : ¬ c > 1000000000 := by omega
  have e1 : ¬ ("take" : Str) = "put" := by decide
  have e2 : ¬ ("take" : Str) = "free" := by decide
  have e3 : ¬ ("lay" : Str) = "put" := by decide
  have e4 : ¬ ("lay" : Str) = "free" := by decide
  have e5 : ¬ ("put" : Str) = "lay" := by decide
  have e6 : ¬ ("put" : Str) = "free" := by decide
  have e7 : ¬ ("take" : Str) = "lay" := by decide
  have e8 : ¬ ("free" : Str) = "lay" := by decide
  have e9 : ¬ ("lay" : Str) = "take" := by decide
  have e10 : ¬ ("free" : Str) = "put" := by decide
  have e11 : ¬ ("free" : Str) = "take" := by decide
  have e12 : ¬ ("put" : Str) = "take" := by decide
  have r1 : ("free" : Str) = "free" := rfl
  have hw' := hw
  simp only [words4, List.mem_cons, List.not_mem_nil, or_false] at hw'
  rcases hw' with rfl | rfl | rfl | rfl
  · have hk := dK0 (wd := "put") (P := P) (L := L) hm ht (by exact fun z => z.elim (fun y => e6 y.1) fun y => y.1.elim e12 e5)
    rw [newP0 hk, newL0 hk, hk] at q
    walk_at "x"
    rename_i tl H1 ftl e1' htl
    refine x_inLs (ws := ["take", "lay"]) (SqL.of htl) ?_
    rw [decide_eq_false (by decide)]
    have hrow1 := e1'.at hrow
    walk_at "x"
    refine x_disp4 (fun _ _ q => x_var rfl q) (fun _ _ q => by walk_at "x"; exact q) (fun _ _ q => by walk_at "x"; exact q) (fun _ _ q => x_var rfl q) (fun _ _ q => x_var rfl q) hw fun H2 e2 => ?_
    rw [val4_p hw]
    have hrow2 := e2.at hrow1
    walk_at "x"
    rename_i H3 b3 h3
    refine x_disp4 (fun _ _ q => q) (fun _ _ q => q) (fun _ _ q => x_var rfl q) (fun _ _ q => by walk_at "x"; exact q) (fun _ _ q => x_var rfl q) hw fun H4 e4 => ?_
    rw [val4_l hw]
    have hrow4 := e4.at h3
    walk_at "x"
    rename_i H5 b5 h5
    refine x_tupN (by first | decide | simp) fun p H6 fp e6 hp => ?_
    walk_at "x"
    refine q p H6 (HW.same (HW.done (HW.row (HW.same (HW.row ((hW.same e1').same e2) b3 hra h3) e4) b5 hra h5) hT ?_ ?_ ?_ (fun i hi => ?_)) e6) hp
    · (try dsimp only); rw [if_pos rfl]; rfl
    · (try dsimp only); rw [if_pos rfl]; rfl
    · (try dsimp only); rw [if_pos rfl]; rfl
    · (try dsimp only); rw [if_neg hi, if_neg hi]
  · by_cases hlt : P m.toNat < c
    · have hlt2 : R m.toNat (Int.toNat 0) < c := by rw [show (0 : Int).toNat = 0 from rfl, t0]; exact hlt
      have hk := dK3 (wd := "take") (P := P) (L := L) hm ht (by exact .inr ⟨.inl rfl, hlt⟩)
      have hne : ¬ dK "take" X.n P L m c = 0 := by rw [hk]; decide
      rw [newP1 hne, newL1 hne, hk] at q
      walk_at "x"
      rename_i tl H1 ftl e1' htl
      refine x_inLs (ws := ["take", "lay"]) (SqL.of htl) ?_
      rw [decide_eq_true (by decide)]
      have hrow1 := e1'.at hrow
      walk_at "x"
      refine x_tupN (by first | decide | simp) fun p H2 fp e2 hp => ?_
      walk_at "x"
      exact q p H2 ((stay.same e1').same e2) hp
    have hlt2 : ¬ R m.toNat (Int.toNat 0) < c := by rw [show (0 : Int).toNat = 0 from rfl, t0]; exact hlt
    have hk := dK0 (wd := "take") (P := P) (L := L) hm ht (by exact fun z => z.elim (fun y => e2 y.1) fun y => hlt y.2)
    rw [newP0 hk, newL0 hk, hk] at q
    walk_at "x"
    rename_i tl H1 ftl e1' htl
    refine x_inLs (ws := ["take", "lay"]) (SqL.of htl) ?_
    rw [decide_eq_true (by decide)]
    have hrow1 := e1'.at hrow
    walk_at "x"
    refine x_disp4 (fun _ _ q => x_var rfl q) (fun _ _ q => by walk_at "x"; exact q) (fun _ _ q => by walk_at "x"; exact q) (fun _ _ q => x_var rfl q) (fun _ _ q => x_var rfl q) hw fun H2 e2 => ?_
    rw [val4_p hw]
    have hrow2 := e2.at hrow1
    walk_at "x"
    rename_i H3 b3 h3
    refine x_disp4 (fun _ _ q => q) (fun _ _ q => q) (fun _ _ q => x_var rfl q) (fun _ _ q => by walk_at "x"; exact q) (fun _ _ q => x_var rfl q) hw fun H4 e4 => ?_
    rw [val4_l hw]
    have hrow4 := e4.at h3
    walk_at "x"
    rename_i H5 b5 h5
    refine x_tupN (by first | decide | simp) fun p H6 fp e6 hp => ?_
    walk_at "x"
    refine q p H6 (HW.same (HW.done (HW.row (HW.same (HW.row ((hW.same e1').same e2) b3 hra h3) e4) b5 hra h5) hT ?_ ?_ ?_ (fun i hi => ?_)) e6) hp
    · (try dsimp only); rw [if_pos rfl]; rfl
    · (try dsimp only); rw [if_pos rfl]; rfl
    · (try dsimp only); rw [if_pos rfl]; rfl
    · (try dsimp only); rw [if_neg hi, if_neg hi]
  · by_cases hlt : P m.toNat < c
    · have hlt2 : R m.toNat (Int.toNat 0) < c := by rw [show (0 : Int).toNat = 0 from rfl, t0]; exact hlt
      have hk := dK3 (wd := "lay") (P := P) (L := L) hm ht (by exact .inr ⟨.inr rfl, hlt⟩)
      have hne : ¬ dK "lay" X.n P L m c = 0 := by rw [hk]; decide
      rw [newP1 hne, newL1 hne, hk] at q
      walk_at "x"
      rename_i tl H1 ftl e1' htl
      refine x_inLs (ws := ["take", "lay"]) (SqL.of htl) ?_
      rw [decide_eq_true (by decide)]
      have hrow1 := e1'.at hrow
      walk_at "x"
      refine x_tupN (by first | decide | simp) fun p H2 fp e2 hp => ?_
      walk_at "x"
      exact q p H2 ((stay.same e1').same e2) hp
    have hlt2 : ¬ R m.toNat (Int.toNat 0) < c := by rw [show (0 : Int).toNat = 0 from rfl, t0]; exact hlt
    have hk := dK0 (wd := "lay") (P := P) (L := L) hm ht (by exact fun z => z.elim (fun y => e4 y.1) fun y => hlt y.2)
    rw [newP0 hk, newL0 hk, hk] at q
    walk_at "x"
    rename_i tl H1 ftl e1' htl
    refine x_inLs (ws := ["take", "lay"]) (SqL.of htl) ?_
    rw [decide_eq_true (by decide)]
    have hrow1 := e1'.at hrow
    walk_at "x"
    refine x_disp4 (fun _ _ q => x_var rfl q) (fun _ _ q => by walk_at "x"; exact q) (fun _ _ q => by walk_at "x"; exact q) (fun _ _ q => x_var rfl q) (fun _ _ q => x_var rfl q) hw fun H2 e2 => ?_
    rw [val4_p hw]
    have hrow2 := e2.at hrow1
    walk_at "x"
    rename_i H3 b3 h3
    refine x_disp4 (fun _ _ q => q) (fun _ _ q => q) (fun _ _ q => x_var rfl q) (fun _ _ q => by walk_at "x"; exact q) (fun _ _ q => x_var rfl q) hw fun H4 e4 => ?_
    rw [val4_l hw]
    have hrow4 := e4.at h3
    walk_at "x"
    rename_i H5 b5 h5
    refine x_tupN (by first | decide | simp) fun p H6 fp e6 hp => ?_
    walk_at "x"
    refine q p H6 (HW.same (HW.done (HW.row (HW.same (HW.row ((hW.same e1').same e2) b3 hra h3) e4) b5 hra h5) hT ?_ ?_ ?_ (fun i hi => ?_)) e6) hp
    · (try dsimp only); rw [if_pos rfl]; rfl
    · (try dsimp only); rw [if_pos rfl]; rfl
    · (try dsimp only); rw [if_pos rfl]; rfl
    · (try dsimp only); rw [if_neg hi, if_neg hi]
  · by_cases hlt : L m.toNat < c
    · have hlt2 : R m.toNat (Int.toNat 1) < c := by rw [show (1 : Int).toNat = 1 from rfl, t1]; exact hlt
      have hk := dK3 (wd := "free") (P := P) (L := L) hm ht (by exact .inl ⟨rfl, hlt⟩)
      have hne : ¬ dK "free" X.n P L m c = 0 := by rw [hk]; decide
      rw [newP1 hne, newL1 hne, hk] at q
      walk_at "x"
      refine x_tupN (by first | decide | simp) fun p H2 fp e2 hp => ?_
      walk_at "x"
      exact q p H2 (stay.same e2) hp
    have hlt2 : ¬ R m.toNat (Int.toNat 1) < c := by rw [show (1 : Int).toNat = 1 from rfl, t1]; exact hlt
    have hk := dK0 (wd := "free") (P := P) (L := L) hm ht (by exact fun z => z.elim (fun y => hlt y.2) fun y => y.1.elim e11 e8)
    rw [newP0 hk, newL0 hk, hk] at q
    walk_at "x"
    rename_i tl H1 ftl e1' htl
    refine x_inLs (ws := ["take", "lay"]) (SqL.of htl) ?_
    rw [decide_eq_false (by decide)]
    have hrow1 := e1'.at hrow
    walk_at "x"
    refine x_disp4 (fun _ _ q => x_var rfl q) (fun _ _ q => by walk_at "x"; exact q) (fun _ _ q => by walk_at "x"; exact q) (fun _ _ q => x_var rfl q) (fun _ _ q => x_var rfl q) hw fun H2 e2 => ?_
    rw [val4_p hw]
    have hrow2 := e2.at hrow1
    walk_at "x"
    rename_i H3 b3 h3
    refine x_disp4 (fun _ _ q => q) (fun _ _ q => q) (fun _ _ q => x_var rfl q) (fun _ _ q => by walk_at "x"; exact q) (fun _ _ q => x_var rfl q) hw fun H4 e4 => ?_
    rw [val4_l hw]
    have hrow4 := e4.at h3
    walk_at "x"
    rename_i H5 b5 h5
    refine x_tupN (by first | decide | simp) fun p H6 fp e6 hp => ?_
    walk_at "x"
    refine q p H6 (HW.same (HW.done (HW.row (HW.same (HW.row ((hW.same e1').same e2) b3 hra h3) e4) b5 hra h5) hT ?_ ?_ ?_ (fun i hi => ?_)) e6) hp
    · (try dsimp only); rw [if_pos rfl]; rfl
    · (try dsimp only); rw [if_pos rfl]; rfl
    · (try dsimp only); rw [if_pos rfl]; rfl
    · (try dsimp only); rw [if_neg hi, if_neg hi]

theorem ok__law_stands (T : Txt K mg) : FnOk P w K mg base (CXF P w) 2 T.d__law_stands.a T.d__law_stands.fd ["_law_house", "_law_rows", "_law_own"] (spStandsH K T.c_House T.c_Book lP lQ) := by
  refine T.d__law_stands.F.okN sc__law_stands (fun vs H Q E h => ?_) (fun cdv A outer s H vs Q E hr h => ?_)
  · obtain ⟨H0, X, P, L, R, rfl, _⟩ := h; rfl
  obtain ⟨H0, X, P, L, R, rfl, hW, hT, hn, q⟩ := h
  obtain ⟨dx, hh⟩ := hW.hc.ob
  have hro := hW.ro
  have hal := hW.al
  have haml : (X.as.map V.ref).length = X.n := by rw [List.length_map]; exact hal
  have cl_House := T.cl_House
  refine ⟨_, (pss_cons (ps_for PassesOwn.never rfl (pi_range1 rfl T.z_range (pa_cons (pe_callB (show CallR _ _ (rLen K) from call_lenU) rfl T.z_len BT.len (pa_cons (pv 1) pa_nil)) pa_nil)) (pg_name (i := 3) sc__law_stands.nd rfl (Or.inl rfl))
  (pss_cons (ps_set (i := 4) sc__law_stands.nd rfl (Or.inl rfl) (pe_lst (pa_cons (pe_meth (pv 0) T.cl_House T.d_House_purse.mt (ok_House_purse (base := base) T) (hr.mono (by decide)) T.d_House_purse.b .nil (passN nox_F) (pa_cons (pv 3) pa_nil)) (pa_cons (pe_meth (pv 0) T.cl_House T.d_House_pledge.mt (ok_House_pledge (base := base) T) (hr.mono (by decide)) T.d_House_pledge.b .nil (passN nox_F) (pa_cons (pv 3) pa_nil)) (pa_cons (pe_meth (pv 0) T.cl_House T.d_House_share.mt (ok_House_share (base := base) T) (hr.mono (by decide)) T.d_House_share.b .nil (passN nox_F) (pa_cons (pv 3) pa_nil)) pa_nil)))))
 (pss_cons (ps_for PassesOwn.never rfl (show PI _ _ _ (iList K _) from pi_list (pv 4)) (pg_name (i := 5) sc__law_stands.nd rfl (Or.inl rfl))
  (pss_one (ps_if (PW.pt (pw_or (pt_not (show PT _ _ (tTru K _) from pt_truthU (pe_callB (show CallR _ _ (rIsiU K) from call_isiU) rfl T.z_isinstance BT.isinstance (pa_cons (pv 5) (pa_cons (pe_bltn (v := .ty "int") rfl T.z_int BT.int rfl) pa_nil))) (fun _ => rfl))) (pw_or1 (show PT _ _ (tTru K _) from pt_truthU (pe_callB (show CallR _ _ (rIsiU K) from call_isiU) rfl T.z_isinstance BT.isinstance (pa_cons (pv 5) (pa_cons (pe_bltn (v := .ty "bool") rfl T.z_bool BT.bool rfl) pa_nil))) (fun _ => rfl)))))
  (pss_one (ps_ret pe_bl))
  pss_nil)))
 (pss_one (ps_if (pt_cmpR (show OpR _ (compareOp .NotEq) (rNeU K) from op_neU hr.units) (pv 4) (pe_ix (show IxR _ (rIx K) from ix_seq) (pv 1) (pv 3) (fun _ _ => rfl)) (nomark _))
  (pss_one (ps_ret pe_bl))
  pss_nil)))))
 (pss_one (ps_ret (pe_and (pe_cmpR (show OpR _ (compareOp .Eq) (rEqU K) from op_eqU hr.units) (pe_meth0 (pv 0) T.cl_House T.d_House_own.mt (ok_House_own (base := base) T) (hr.mono (by decide)) T.d_House_own.b .nil (passN nox_F)) (pv 2) (nomark _)) (pe_one (pe_cmpR (show OpR _ (compareOp .Eq) (rEqU K) from op_eqU hr.units) (pe_meth0 (pv 0) T.cl_House T.d_House_coins.mt (ok_House_coins (base := base) T) (hr.mono (by decide)) T.d_House_coins.b .nil (passN nox_F)) (pe_op (show OpR _ (binaryOp .Add) (rAddU K) from op_addU) (pv 2) (pe_callB (show CallR _ _ (rSum K) from call_sumU rfl) rfl T.z_sum BT.sum (pa_cons (pe_comp rfl (show PI _ _ _ (iList K _) from pi_list (pv 1)) (compScope_of (Ni := ["_law_row"]) (caps := [none]) (by rfl)) (fun S _ _ _ _ _ => (pg_nameC (gi := 0) S (Or.inl rfl) rfl)) (fun _ _ _ _ _ => pf_nil) (fun _ _ _ _ _ => (pe_callB (show CallR _ _ (rSum K) from call_sumU rfl) rfl T.z_sum BT.sum (pa_cons (pv 0) pa_nil)))) pa_nil))) (nomark _))))))), ?_⟩
  refine x_start (σ0 := [some (.ref X.h), some (.ref X.ro), some (.int X.own), none, none, none]) rfl ?_
  have hpu := hW.hc.pu
  have hpl := hW.hc.pl
  have hsh := hW.sh
  have hRw := hW.rw
  walk_at "x"
  refine x_forR (fun i σ' H' => ∃ f3 f4 f5 : Option V, σ' = [some (.ref X.h), some (.ref X.ro), some (.int X.own), f3, f4, f5] ∧ Same H H') ⟨_, _, _, rfl, Same.refl _⟩ ?_ ?_
  · rintro i σ' H1 hi ⟨f3, f4, f5, rfl, e1⟩
    have hi' : i < X.n := by omega
    obtain ⟨t0, t1, t2⟩ := hT i
    have hh1 := e1.at hh
    have hpu1 := e1.at hpu
    have hpl1 := e1.at hpl
    have hsh1 := e1.at hsh
    obtain ⟨c, hc⟩ := lt_some (show i < X.as.length by omega)
    have hrow1 := e1.at (hRw.2 _ _ hc)
    have hro1 := e1.at hro
    have ez : (0 : Int) + (i : Int) = i := by omega
    have hat : atI (X.as.map V.ref) ((0 : Int) + (i : Int)) = some (.ref c) := by rw [ez]; exact atI_nat (by rw [List.getElem?_map, hc]; rfl)
    walk_at "x"
    rename_i to H2 fto e2 hto
    rw [ez, Int.toNat_natCast, ← t0, ← t1, ← t2] at hto
    have hto2 : H2 to = some (.lst ((vec 3 (R i)).map V.int)) := hto
    clear hto
    have hrow2 := e2.at hrow1
    walk_at "x"
    refine x_forL (xs := (vec 3 (R i)).map V.int) (fun j σ' H' => ∃ f5 : Option V, σ' = [some (.ref X.h), some (.ref X.ro), some (.int X.own), some (.int ((0 : Int) + (i : Int))), some (.ref to), f5] ∧ H' = H2) ⟨_, rfl, rfl⟩ ?_ ?_ ?_
    · rintro j σ' H' _ ⟨_, _, rfl⟩; exact SqL.of hto2
    · rintro j x σ' H' hx ⟨f5', rfl, rfl⟩
      obtain ⟨v, ex⟩ : ∃ v, x = .int v := by
        rw [List.getElem?_map] at hx
        cases h : (vec 3 (R i))[j]? with
        | none => rw [h] at hx; cases hx
        | some v => rw [h] at hx; exact ⟨v, (Option.some.inj hx).symm⟩
      subst ex
      walk_at "x"
      exact ⟨_, rfl, rfl⟩
    · rintro σ' H' ⟨f5', rfl, rfl⟩
      have hro2 := e2.at hro1
      walk_at "x"
      exact ⟨_, _, _, rfl, e1.trans e2⟩
  · rintro σ' H1 ⟨f3, f4, f5, rfl, e1⟩
    have hh1 := e1.at hh
    have hpu1 := e1.at hpu
    have hpl1 := e1.at hpl
    have hsh1 := e1.at hsh
    have hro1 := e1.at hro
    have rown : X.own = X.own := rfl
    walk_at "x"
    refine x_compS1 (src_list (K := K) (a := X.ro) (xs := X.as.map V.ref)) (fun H' e => SqL.of (e.at hro1)) rfl (fun i vs _ => vs = (vec i fun i => R i 0 + R i 1 + R i 2).map V.int) (fun H' _ => rfl) ?_ ?_
    · rintro i x D vs o H4 H5 hi hD e4 hv hvl rfl e5 hx
      rw [List.length_map] at hi
      obtain ⟨c, hc⟩ := lt_some hi
      have ex : x = .ref c := by rw [List.getElem?_map, hc] at hx; exact (Option.some.inj hx).symm
      subst ex
      have hrow5 := (e4.trans e5).at (e1.at (hRw.2 _ _ hc))
      have hv5 := e5.at hv
      walk_at "x"
      rename_i H6 b6 h6
      refine ⟨⟨_, rfl⟩, b6.same (e4.trans e5) hD, _, h6, by rw [List.length_append]; exact Nat.succ_le_succ hvl, ?_⟩
      dsimp only
      rw [show sumI (vec 3 (R i)) = R i 0 + R i 1 + R i 2 by rw [vec_succ, vec_succ, vec_succ, sumI_snoc, sumI_snoc, sumI_snoc]; show 0 + _ + _ + _ = _; omega, vec_succ, List.map_append]; rfl
    rintro su H2 vs fsu e2 hsu _ rfl
    rw [List.length_map, hal] at hsu
    walk_at "x"
    have hs : sumI (vec X.n P) + sumI (vec X.n L) + sumI (vec X.n X.S) + X.own = X.own + sumI (vec X.n fun i => R i 0 + R i 1 + R i 2) := by
      rw [sum3, show (fun i => P i + L i + X.S i) = fun i => R i 0 + R i 1 + R i 2 from funext fun i => by obtain ⟨t0, t1, t2⟩ := hT i; rw [t0, t1, t2]]
      omega
    rw [decide_eq_true hs]
    exact q H2 (e1.trans e2)
theorem ok__law_tried (T : Txt K mg) : FnOk P w K mg base (CXF P w) 8 T.d__law_tried.a T.d__law_tried.fd ["_law_house", "_law_rows", "_law_own", "_law_word", "_law_member_here", "_law_coins_here"] (spTriedH K T.c_House T.c_Book lP lQ) := by
  refine T.d__law_tried.F.okN sc__law_tried (fun vs H Q E h => ?_) (fun cdv A outer s H vs Q E hr h => ?_)
  · obtain ⟨H0, X, P, L, R, wd, m, c, B, rfl, _⟩ := h; rfl
  obtain ⟨H0, X, P, L, R, wd, m, c, B, rfl, hw, hW, hT, hn, hB, hB1, q⟩ := h
  refine ⟨_, (pss_cons (ps_set (i := 6) sc__law_tried.nd rfl (Or.inl rfl) (pe_call (ok__law_due (base := base) T) (hr.mono (by decide)) rfl T.d__law_due.m T.d__law_due.F.kp T.d__law_due.b .nil (passN nox_F) (pa_cons (pv 1) (pa_cons (pv 3) (pa_cons (pv 4) (pa_cons (pv 5) pa_nil))))))
 (pss_one (ps_ret (pe_and (pe_cmpR (show OpR _ (compareOp .Eq) (rEqU K) from op_eqU hr.units) (pe_call (ok__law_found (base := base) T) (hr.mono (by decide)) rfl T.d__law_found.m T.d__law_found.F.kp T.d__law_found.b .nil (passN nox_F) (pa_cons (pv 0) (pa_cons (pv 3) (pa_cons (pv 4) (pa_cons (pv 5) pa_nil))))) (pv 6) (nomark _)) (pe_one (pe_call (ok__law_stands (base := base) T) (hr.mono (by decide)) rfl T.d__law_stands.m T.d__law_stands.F.kp T.d__law_stands.b .nil (passN nox_F) (pa_cons (pv 0) (pa_cons (pv 1) (pa_cons (pv 2) pa_nil))))))))), ?_⟩
  refine x_start (σ0 := [some (.ref X.h), some (.ref X.ro), some (.int X.own), some (.str wd), some (.int m), some (.int c), none]) rfl ?_
  walk_at "x"
  refine ⟨H0, X, P, L, R, wd, m, c, rfl, hw, hW, hT, hn, fun p H1 hW1 hp => ?_⟩
  walk_at "x"
  refine ⟨H0, X, P, L, _, wd, m, c, B, rfl, hw, hW1, hB, hB1, fun p2 H2 t2 hW2 hp2 => ?_⟩
  walk_at "x"
  refine x_eqOut hp2 (t2 _ _ hp) ?_
  walk_at "x"
  have hT2 : TieR (newP wd X.n P L m c) (newL wd X.n P L m c) X.S (rowN (newP wd X.n P L m c) (newL wd X.n P L m c) R) := fun i => ⟨rfl, rfl, (hT i).2.2⟩
  refine ⟨H0, X, _, _, _, rfl, hW2, hT2, hn, fun H3 e3 => ?_⟩
  walk_at "x"
  exact q H3 _ (hW2.same e3) hT2

noncomputable def spLaw (K : PySem.W.Frag) : Sp := fun vs H Q _ => ∃ (a : Addr) (ns : List Int), vs = [.ref a] ∧ SqL K H a (ns.map V.int) ∧ ns.length ≤ 63 ∧ Light ns ∧ (∀ pos qual, Tb H (tabP K "worst_days") pos qual) ∧ ∀ H', Q (.bl true) H'
theorem ok_law (T : Txt K mg) : FnOk P w K mg base (CXF P w) 9 T.d_law.a T.d_law.fd ["_law_script"] (spLaw K) := by
  refine T.d_law.F.okN sc_law (fun vs H Q E h => ?_) (fun cdv A outer s H vs Q E hr h => ?_)
  · obtain ⟨a, ns, rfl, _⟩ := h; rfl
  obtain ⟨a, ns, rfl, hS, h63, hz, hTb, k⟩ := h
  have hT0 : TbW K "worst_days" lP lQ H := hTb lP lQ
  refine ⟨_, (pss_cons (ps_set (i := 1) sc_law.nd rfl (Or.inl rfl) (pe_lst pa_nil))
 (pss_cons (ps_for PassesOwn.never rfl (pi_range1 rfl T.z_range (pa_cons (pe_op (show OpR _ (binaryOp .Add) (rAddU K) from op_addU) pe_int (pe_call (ok__law_draw (base := base) T) (hr.mono (by decide)) rfl T.d__law_draw.m T.d__law_draw.F.kp T.d__law_draw.b .nil (passN nox_F) (pa_cons (pv 0) (pa_cons pe_int (pa_cons pe_int pa_nil))))) pa_nil)) (pg_name (i := 2) sc_law.nd rfl (Or.inl rfl))
  (pss_cons (ps_set (i := 3) sc_law.nd rfl (Or.inl rfl) (pe_call (ok__law_amount (base := base) T) (hr.mono (by decide)) rfl T.d__law_amount.m T.d__law_amount.F.kp T.d__law_amount.b .nil (passN nox_F) (pa_cons (pv 0) (pa_cons (pe_op (show OpR _ (binaryOp .Add) (rAddU K) from op_addU) pe_int (pe_op op_mulU pe_int (pv 2))) (pa_cons (pe_op op_pow pe_int pe_int) pa_nil)))))
 (pss_cons (ps_set (i := 4) sc_law.nd rfl (Or.inl rfl) (pe_call (ok__law_amount (base := base) T) (hr.mono (by decide)) rfl T.d__law_amount.m T.d__law_amount.F.kp T.d__law_amount.b .nil (passN nox_F) (pa_cons (pv 0) (pa_cons (pe_op (show OpR _ (binaryOp .Add) (rAddU K) from op_addU) pe_int (pe_op op_mulU pe_int (pv 2))) (pa_cons (pe_op op_pow pe_int pe_int) pa_nil)))))
 (pss_one (ps_expr (show PE _ _ (tBM K _ _ _ _) from pe_bm PySem.F.plainAttrs_list PySem.F.slot_list_append PySem.F.type_list_append mt_append (pv 1) (pa_cons (pe_lst (pa_cons (pv 3) (pa_cons (pv 4) (pa_cons (pe_call (ok__law_amount (base := base) T) (hr.mono (by decide)) rfl T.d__law_amount.m T.d__law_amount.F.kp T.d__law_amount.b .nil (passN nox_F) (pa_cons (pv 0) (pa_cons (pe_op (show OpR _ (binaryOp .Add) (rAddU K) from op_addU) pe_int (pe_op op_mulU pe_int (pv 2))) (pa_cons (pe_op op_pow pe_int pe_int) pa_nil)))) pa_nil)))) pa_nil)))))))
 (pss_cons (ps_set (i := 5) sc_law.nd rfl (Or.inl rfl) (pe_call (ok__law_amount (base := base) T) (hr.mono (by decide)) rfl T.d__law_amount.m T.d__law_amount.F.kp T.d__law_amount.b .nil (passN nox_F) (pa_cons (pv 0) (pa_cons pe_int (pa_cons (pe_op op_pow pe_int pe_int) pa_nil)))))
 (pss_cons (ps_set (i := 6) sc_law.nd rfl (Or.inl rfl) (pe_make T.mk_House (ok_House___init__ (base := base) T) (hr.mono (by decide)) rfl T.m_House T.d_House___init__.b .nil (passN nox_F) (pa_cons (pe_comp rfl (show PI _ _ _ (iList K _) from pi_list (pv 1)) (compScope_of (Ni := ["_law_row"]) (caps := [none]) (by rfl)) (fun S _ _ _ _ _ => (pg_nameC (gi := 0) S (Or.inl rfl) rfl)) (fun _ _ _ _ _ => pf_nil) (fun _ _ _ _ _ => (pe_callTy (show CallR _ _ (rTupleOf K) from call_tupleU) rfl T.z_tuple BT.tuple (pa_cons (pv 0) pa_nil)))) (pa_cons (pe_lst (pa_cons (pe_lst (pa_cons pe_int (pa_cons (pe_un un_neg pe_int) pa_nil))) pa_nil)) (pa_cons (pe_tup (pa_cons pe_str (pa_cons pe_int pa_nil))) (pa_cons (pe_lst (pa_cons pe_str (pa_cons pe_str pa_nil))) (pa_cons (pv 5) pa_nil)))))))
 (pss_cons (ps_if (pt_not (show PT _ _ (tTru K _) from pt_truthU (pe_call (ok__law_stands (base := base) T) (hr.mono (by decide)) rfl T.d__law_stands.m T.d__law_stands.F.kp T.d__law_stands.b .nil (passN nox_F) (pa_cons (pv 6) (pa_cons (pv 1) (pa_cons (pv 5) pa_nil)))) (fun _ => rfl)))
  (pss_one (ps_ret pe_bl))
  pss_nil)
 (pss_cons (ps_for PassesOwn.never rfl (pi_range1 rfl T.z_range (pa_cons (pe_op (show OpR _ (binaryOp .Add) (rAddU K) from op_addU) pe_int (pe_callB (show CallR _ _ (rLen K) from call_lenU) rfl T.z_len BT.len (pa_cons (pe_slice (show SlR _ (rSlL K) from sl_list) (pv 0) po_none (po_some pe_int)) pa_nil))) pa_nil)) (pg_name (i := 2) sc_law.nd rfl (Or.inl rfl))
  (pss_cons (ps_set (i := 7) sc_law.nd rfl (Or.inl rfl) (pe_op (show OpR _ (binaryOp .Add) (rAddU K) from op_addU) pe_int (pe_op op_mulU pe_int (pv 2))))
 (pss_cons (ps_set (i := 8) sc_law.nd rfl (Or.inl rfl) (pe_ix (show IxR _ (rIx K) from ix_seq) (pe_lst (pa_cons pe_str (pa_cons pe_str (pa_cons pe_str (pa_cons pe_str pa_nil))))) (pe_call (ok__law_draw (base := base) T) (hr.mono (by decide)) rfl T.d__law_draw.m T.d__law_draw.F.kp T.d__law_draw.b .nil (passN nox_F) (pa_cons (pv 0) (pa_cons (pv 7) (pa_cons pe_int pa_nil)))) (fun _ _ => rfl)))
 (pss_cons (ps_set (i := 9) sc_law.nd rfl (Or.inl rfl) (pe_call (ok__law_member (base := base) T) (hr.mono (by decide)) rfl T.d__law_member.m T.d__law_member.F.kp T.d__law_member.b .nil (passN nox_F) (pa_cons (pv 0) (pa_cons (pe_op (show OpR _ (binaryOp .Add) (rAddU K) from op_addU) (pv 7) pe_int) (pa_cons (pe_callB (show CallR _ _ (rLen K) from call_lenU) rfl T.z_len BT.len (pa_cons (pv 1) pa_nil)) pa_nil)))))
 (pss_cons (ps_set (i := 10) sc_law.nd rfl (Or.inl rfl) (pe_ix (show IxR _ (rIx K) from ix_seq) (pe_ix (show IxR _ (rIx K) from ix_seq) (pv 1) (pe_op op_modU (pe_callB (call_maxU rfl) rfl T.z_max BT.max (pa_cons pe_int (pa_cons (pv 9) pa_nil))) (pe_callB (show CallR _ _ (rLen K) from call_lenU) rfl T.z_len BT.len (pa_cons (pv 1) pa_nil))) (fun _ _ => rfl)) (pe_callTy call_int1 rfl T.z_int BT.int (pa_cons (pe_cmpR (show OpR _ (compareOp .Eq) (rEqU K) from op_eqU hr.units) (pv 8) pe_str (nomark _)) pa_nil)) (fun _ _ => rfl)))
 (pss_cons (ps_set (i := 11) sc_law.nd rfl (Or.inl rfl) (pe_call (ok__law_coins (base := base) T) (hr.mono (by decide)) rfl T.d__law_coins.m T.d__law_coins.F.kp T.d__law_coins.b .nil (passN nox_F) (pa_cons (pv 0) (pa_cons (pe_op (show OpR _ (binaryOp .Add) (rAddU K) from op_addU) (pv 7) pe_int) (pa_cons (pv 10) pa_nil)))))
 (pss_cons (ps_if (pt_not (show PT _ _ (tTru K _) from pt_truthU (pe_call (ok__law_tried (base := base) T) (hr.mono (by decide)) rfl T.d__law_tried.m T.d__law_tried.F.kp T.d__law_tried.b .nil (passN nox_F) (pa_cons (pv 6) (pa_cons (pv 1) (pa_cons (pv 5) (pa_cons (pv 8) (pa_cons (pv 9) (pa_cons (pv 11) pa_nil))))))) (fun _ => rfl)))
  (pss_one (ps_ret pe_bl))
  pss_nil)
 (pss_one (ps_if (PW.pt (pw_and (pt_chain op_le op_lt pe_int (pv 9) (pe_callB (show CallR _ _ (rLen K) from call_lenU) rfl T.z_len BT.len (pa_cons (pv 1) pa_nil))) (pw_and (pt_chain op_lt op_le (pv 10) (pv 11) (pe_op op_pow pe_int pe_int)) (pw_and1 (pt_cmpR (show OpR _ (compareOp .NotEq) (rNeU K) from op_neU hr.units) (pv 8) pe_str (nomark _))))))
  (pss_cons (ps_set (i := 12) sc_law.nd rfl (Or.inl rfl) (pe_lst (pa_cons (pv 8) (pa_cons (pv 9) (pa_cons (pv 11) pa_nil)))))
 (pss_cons (ps_if (pt_not (show PT _ _ (tTru K _) from pt_truthU (pe_call (ok__law_tried (base := base) T) (hr.mono (by decide)) rfl T.d__law_tried.m T.d__law_tried.F.kp T.d__law_tried.b .nil (passN nox_F) (pa_cons (pv 6) (pa_cons (pv 1) (pa_cons (pv 5) (pa_cons pe_str (pa_cons (pv 9) (pa_cons (pv 11) pa_nil))))))) (fun _ => rfl)))
  (pss_one (ps_ret pe_bl))
  pss_nil)
 (pss_cons (ps_if (PW.pt (pw_and (pt_cmpR (show OpR _ (compareOp .Eq) (rEqU K) from op_eqU hr.units) (pv 8) pe_str (nomark _)) (pw_and1 (pt_not (show PT _ _ (tTru K _) from pt_truthU (pe_call (ok__law_tried (base := base) T) (hr.mono (by decide)) rfl T.d__law_tried.m T.d__law_tried.F.kp T.d__law_tried.b .nil (passN nox_F) (pa_cons (pv 6) (pa_cons (pv 1) (pa_cons (pv 5) (pa_cons pe_str (pa_cons (pv 9) (pa_cons (pv 11) pa_nil))))))) (fun _ => rfl))))))
  (pss_one (ps_ret pe_bl))
  pss_nil)
 (pss_one (ps_if (pt_not (show PT _ _ (tTru K _) from pt_truthU (pe_call (ok__law_tried (base := base) T) (hr.mono (by decide)) rfl T.d__law_tried.m T.d__law_tried.F.kp T.d__law_tried.b .nil (passN nox_F) (pa_cons (pv 6) (pa_cons (pv 1) (pa_cons (pv 5) (pa_cons (pe_ix (show IxR _ (rIx K) from ix_seq) (pv 12) pe_int (fun _ _ => rfl)) (pa_cons (pe_ix (show IxR _ (rIx K) from ix_seq) (pv 12) pe_int (fun _ _ => rfl)) (pa_cons (pe_ix (show IxR _ (rIx K) from ix_seq) (pv 12) pe_int (fun _ _ => rfl)) pa_nil))))))) (fun _ => rfl)))
  (pss_one (ps_ret pe_bl))
  pss_nil)))))
  pss_nil)))))))))
 (pss_one (ps_ret (pe_cmpR (show OpR _ (compareOp .Eq) (rEqU K) from op_eqU hr.units) (pe_meth0 (pv 6) T.cl_House T.d_House_today.mt (ok_House_today (base := base) T) (hr.mono (by decide)) T.d_House_today.b .nil (passN nox_F)) pe_int (nomark _)))))))))), ?_⟩
  refine x_start (σ0 := [some (.ref a), none, none, none, none, none, none, none, none, none, none, none, none]) rfl ?_
  walk_at "x"
  rename_i ro H1 fro e1 hro x x0 x1
  obtain ⟨N, eN, N0, N1⟩ : ∃ N : Nat, 1 + x = (N : Int) ∧ 1 ≤ N ∧ N ≤ 8 := ⟨(1 + x).toNat, by omega, by omega, by omega⟩
  rw [eN, Int.toNat_natCast]
  refine x_forR (fun i σ' H' => ∃ (f2 f3 f4 : Option V) (as : List Addr) (R : Nat → Nat → Int), σ' = [some (.ref a), some (.ref ro), f2, f3, f4, none, none, none, none, none, none, none, none] ∧ H' ro = some (.lst (as.map V.ref)) ∧ as.length = i ∧ Rows H' as 3 R ∧ (∀ j, j < 3 → BdF i (fun i => R i j) 1000000000) ∧ (∀ b ∈ as, H b = none) ∧ ro ∉ as ∧ Same H H') ⟨_, _, _, [], fun _ _ => 0, rfl, hro, rfl, ⟨List.nodup_nil, fun i a h => nomatch h⟩, (fun j _ i h => absurd h (by omega)), (fun _ h => nomatch h), (fun h => nomatch h), e1⟩ ?_ ?_
  · rintro i σ' H2 hi ⟨f2, f3, f4, as, R, rfl, hro2, hal, hR, hB, hF, nro, e2⟩
    have hS2 := e2.seq hS
    have hin : (i : Int) < 8 := by omega
    have hal2 : (as.map V.ref).length ≤ 1000 := by rw [List.length_map]; omega
    walk_at "x"
    rename_i p p0 p1 l l0 l1 s s0 s1 r H3 fr e3 hr3 H4 b4 h4
    refine ⟨_, _, _, as ++ [r], fun i => if i = as.length then (fun j => if j = 0 then p else if j = 1 then l else s) else R i, rfl, by rw [List.map_append]; exact h4, by rw [List.length_append, hal]; rfl, Rows.snoc ((hR.same e3).but b4 nro) (hR.fresh fr) (b4.lst hr3 (ne_new' fr hro2)), fun j hj t ht => ?_, fun b hb => ?_, fun hm => ?_, b4.same (e2.trans e3) fro⟩
    · dsimp only
      by_cases h : t = as.length
      · rw [if_pos h]
        by_cases h0 : j = 0
        · rw [if_pos h0]; omega
        · rw [if_neg h0]
          by_cases h1 : j = 1
          · rw [if_pos h1]; omega
          · rw [if_neg h1]; omega
      · rw [if_neg h]; exact hB j hj t (by omega)
    · rcases List.mem_append.mp hb with hb | hb
      · exact hF b hb
      · rw [List.mem_singleton.mp hb]; exact Same.none fr e2
    · rcases List.mem_append.mp hm with hm | hm
      · exact nro hm
      · exact ne_new' fr hro2 (List.mem_singleton.mp hm).symm
  rintro σ' H2 ⟨f2, f3, f4, as, R, rfl, hro2, hal, hR, hB, hF, nro, e2⟩
  have hS2 := e2.seq hS
  walk_at "x"
  rename_i own o0 o1
  refine x_compS1 (src_list (K := K) (a := ro) (xs := as.map V.ref)) (fun H' e => SqL.of (e.at hro2)) rfl (fun i vs H' => IsTs m3V H' vs ((List.range i).map fun i => (R i 0, R i 1, R i 2))) (fun H' _ => trivial) ?_ ?_
  · rintro i x D vs o H4 H5 hi hD e4 hv hvl hI e5 hx
    rw [List.length_map] at hi
    obtain ⟨c, hc⟩ := lt_some hi
    have ex : x = .ref c := by rw [List.getElem?_map, hc] at hx; exact (Option.some.inj hx).symm
    subst ex
    have hrow5 := (e4.trans e5).at (hR.2 _ _ hc)
    have hvl2 : vs.length ≤ 1000 := by omega
    walk_at "x"
    refine x_tupOfL hrow5 fun t H6 ft e6 ht => ?_
    have hv6 := e6.at (e5.at hv)
    walk_at "x"
    rename_i H7 b7 h7
    refine ⟨⟨_, rfl⟩, b7.same (e4.trans (e5.trans e6)) hD, _, h7, by rw [List.length_append]; exact Nat.succ_le_succ hvl, ?_⟩
    dsimp only
    rw [List.range_succ, List.map_append]
    exact IsTs.app (f := m3V) (x := (R i 0, R i 1, R i 2)) (b7.tup ht) (LBut.isTs b7 ((hI.same e5).same e6))
  rintro ms H3 us fms e3 hms _ hI3
  rw [List.length_map, hal] at hI3
  walk_at "x"
  rename_i mr0 H4 fmr0 e4 hmr0 mo H5 fmo e5 hmo
  refine x_tupN (by first | decide | simp) fun ru H6 fru e6 hru => ?_
  walk_at "x"
  rename_i od H7 fod e7 hod
  refine x_makek fun h dx H8 fh e8 h8 => ?_
  have e38 : Same H3 H8 := e4.trans (e5.trans (e6.trans (e7.trans e8)))
  have hmo8 : H8 mo = some (.lst ([mr0].map V.ref)) := (e6.trans (e7.trans e8)).at hmo
  have hmr8 : H8 mr0 = some (.lst ((vec 2 (mvF 0)).map V.int)) := (e5.trans (e6.trans (e7.trans e8))).at hmr0
  have hRm : Rows H8 [mr0] 2 mvF := ⟨List.nodup_cons.mpr ⟨by simp, List.nodup_nil⟩, fun i a hi => by
    cases i with
    | zero => cases hi; exact hmr8
    | succ i => cases hi⟩
  have okr : OkRule "mean" 1 [mr0].length := ⟨.inr rfl, by decide, by show (1 : Int) ≤ ((1 : Nat) : Int); decide⟩
  have oko : OkO ["share", "own"] := ⟨by decide, by decide⟩
  refine ⟨h, dx, ms, mo, ru, od, us, _, [mr0], 2, mvF, "mean", 1, ["share", "own"], own, rfl, h8, e38.at hms, hI3.same e38, by rw [List.length_map, List.length_range]; omega, hmo8, hRm, by show 1 ≤ 1; decide, by show 1 ≤ 1000; decide, by decide, by decide, (e7.trans e8).at hru, e8.at hod, by decide, fun _ _ B d bs H9 nb9 h9 hbl hN => ⟨rfl, ?_⟩, fun z => absurd okr z, fun _ z => absurd oko z⟩
  obtain ⟨mr, rfl⟩ : ∃ mr, bs = [mr] := List.length_eq_one_iff.mp hbl
  have hxl : ((List.range N).map fun i => (R i 0, R i 1, R i 2)).length = N := by rw [List.length_map, List.length_range]
  have hxg : ∀ i, i < N → ((List.range N).map fun i => (R i 0, R i 1, R i 2)).getD i (0, 0, 0) = (R i 0, R i 1, R i 2) := fun i hi => by
    rw [List.getD_eq_getElem?_getD, List.getElem?_map, List.getElem?_range hi]; rfl
  have hpu9 : H9 B.pu = some (.lst ((vec N fun i => R i 0).map V.int)) := by
    rw [hN.pu, hxl]; congr 3; exact vec_congr fun i hi => by rw [hxg i hi]
  have hpl9 : H9 B.pl = some (.lst ((vec N fun i => R i 1).map V.int)) := by
    rw [hN.pl, hxl]; congr 3; exact vec_congr fun i hi => by rw [hxg i hi]
  have hsh9 : H9 B.sh = some (.lst ((vec N fun i => R i 2).map V.int)) := by
    rw [hN.sh, hxl]; congr 3; exact vec_congr fun i hi => by rw [hxg i hi]
  have e28 : Same H2 H8 := e3.trans e38
  have e08 : Same H H8 := e2.trans e28
  have fhH : H h = none := Same.none fh (e2.trans (e3.trans (e4.trans (e5.trans (e6.trans e7)))))
  have e09 : Same H H9 := nb9.same e08 fhH
  have nroh : ro ≠ h := ne_of (e28.at hro2) h8 (by intro z; cases z)
  have hro9 : H9 ro = some (.lst (as.map V.ref)) := nb9.at (e28.at hro2) nroh
  have hR9 : Rows H9 as 3 R := ⟨hR.1, fun i a e => nb9.at (e28.at (hR.2 i a e)) (ne_of (e28.at (hR.2 i a e)) h8 (by intro z; cases z))⟩
  have fr8 : ∀ y, y ∈ [d, mr, B.mv, B.sh, B.pl, B.pu] → H8 y = none := fun y hy => (hN.st.ex y (by simp only [List.mem_cons, List.not_mem_nil, or_false] at hy; simp only [List.mem_cons, List.mem_append, List.not_mem_nil, or_false]; rcases hy with h | h | h | h | h | h <;> simp [h])).2.2
  obtain ⟨ap1, ap2⟩ := apart hN.st.nd
  obtain ⟨X, hX⟩ : ∃ X : HX, X = ⟨h, ro, d, mr, B, as, own, N, fun i => R i 2, []⟩ := ⟨_, rfl⟩
  have hXh : X.h = h := by rw [hX]
  have hXro : X.ro = ro := by rw [hX]
  have hXown : X.own = own := by rw [hX]
  have hXn : X.n = N := by rw [hX]
  have hXas : X.as = as := by rw [hX]
  have hXbk : X.A.bk = B.bk := by rw [hX]
  have hXz : X.zs = [] := by rw [hX]
  have hW0 : HW K T.c_House T.c_Book lP lQ H X H9 (fun i => R i 0) (fun i => R i 1) R := by
    rw [hX]
    refine ⟨⟨ap1, fun x hx => ?_, fun c hc => ⟨?_, ?_, ?_⟩, Same.none (fr8 _ (by simp)) e08, Same.none (fr8 _ (by simp)) e08, hF, (fun z hz => nomatch hz)⟩, e09.t, ⟨⟨dx, h9⟩, hpu9, hpl9, ap1⟩, hsh9, ⟨by have := hN.bk; rw [hxl] at this; exact this, (fun t ht => nomatch ht), (fun t ht => nomatch ht), by show 0 ≤ 1000; decide, hN.ru, hN.mv, hN.rows, ?_, okr, by decide, by show 1 < 64; decide, TbW.same e09 hT0⟩, hro9, hR9, hal, (fun z hz => nomatch hz)⟩
    · simp only [List.mem_cons, List.not_mem_nil, or_false] at hx
      rcases hx with rfl | rfl | rfl | rfl | rfl
      · exact ap2 _ (by simp)
      · exact ap2 _ (by simp)
      · exact ap2 _ (by simp)
      · exact ap2 _ (by simp)
      · exact ⟨ne_of_none (e28.at hro2) (fr8 _ (by simp)), ne_of_none (e28.at hro2) (fr8 _ (by simp))⟩
    · obtain ⟨j, _, _, hcj⟩ := hR.mem hc
      exact ne_of_none (e28.at hcj) (fr8 _ (by simp))
    · obtain ⟨j, _, _, hcj⟩ := hR.mem hc
      exact ne_of_none (e28.at hcj) (fr8 _ (by simp))
    · obtain ⟨j, _, _, hcj⟩ := hR.mem hc
      intro hm
      simp only [List.mem_cons, List.not_mem_nil, or_false] at hm
      rcases hm with z | z | z | z | z
      · exact ne_of_none (e28.at hcj) (fr8 _ (by simp)) z
      · exact ne_of_none (e28.at hcj) (fr8 _ (by simp)) z
      · exact ne_of_none (e28.at hcj) (fr8 _ (by simp)) z
      · exact ne_of_none (e28.at hcj) (fr8 _ (by simp)) z
      · exact nro (by rw [← z]; exact hc)
    · intro i hi j hj
      unfold mvF
      split <;> omega
  have hT : TieR (fun i => R i 0) (fun i => R i 1) X.S R := fun i => ⟨rfl, rfl, by rw [hX]⟩
  clear hN fr8 ap1 ap2 hpu9 hpl9 hsh9 hro9 hR9 nb9 h9 hxg hxl hRm hmr8 hmo8 hod hru hmo hmr0 hI3 hms
  walk_at "x"
  refine ⟨H, X, _, _, R, by rw [hXh, hXro, hXown], hW0, hT, by rw [hXn]; omega, fun H10 e10 => ?_⟩
  have hW10 := hW0.same e10
  have hS10 : SqL K H10 a (ns.map V.int) := hW10.e0.seq hS
  have hcl : (cutV (ns.map V.int) none (some 24)).length ≤ 24 := cut_le (k := 24)
  walk_at "x"
  rename_i sc H11 fsc e11 hsc
  have hat4 : ∀ x : Int, 0 ≤ x → x < 4 → ∃ wd : Str, wd ∈ words4 ∧ atI [V.str "put", V.str "take", V.str "lay", V.str "free"] x = some (.str wd) := fun x h0 h1 => by
    obtain rfl | rfl | rfl | rfl : x = 0 ∨ x = 1 ∨ x = 2 ∨ x = 3 := by omega
    · exact ⟨"put", by simp [words4], rfl⟩
    · exact ⟨"take", by simp [words4], rfl⟩
    · exact ⟨"lay", by simp [words4], rfl⟩
    · exact ⟨"free", by simp [words4], rfl⟩
  refine x_forR (fun i σ' H' => ∃ (g2 g7 g8 g9 g10 g11 g12 : Option V) (P L : Nat → Int) (R' : Nat → Nat → Int), σ' = [some (.ref a), some (.ref ro), g2, f3, f4, some (.int own), some (.ref h), g7, g8, g9, g10, g11, g12] ∧ HW K T.c_House T.c_Book lP lQ H X H' P L R' ∧ TieR P L X.S R' ∧ BdF N P (1000000000 * (1 + 4 * (i : Int))) ∧ BdF N L (1000000000 * (1 + 4 * (i : Int)))) ⟨_, _, _, _, _, _, _, _, _, R, rfl, hW10.same e11, hT, fun i hi => by have := hB 0 (by decide) i hi; omega, fun i hi => by have := hB 1 (by decide) i hi; omega⟩ ?_ ?_
  · rintro i σ' H12 hi ⟨g2, g7, g8, g9, g10, g11, g12, P, L, R', rfl, hW, hT', hP, hL⟩
    have hi28 : i < 28 := by omega
    have hS12 : SqL K H12 a (ns.map V.int) := hW.e0.seq hS
    have hro12 : H12 ro = some (.lst (as.map V.ref)) := by have := hW.ro; rw [hXro, hXas] at this; exact this
    have haml : (as.map V.ref).length = N := by rw [List.length_map]; exact hal
    have hR12 : Rows H12 as 3 R' := by have := hW.rw; rw [hXas] at this; exact this
    walk_at "x"
    rename_i wl H13 fwl e13 hwl x4 x40 x41
    obtain ⟨wd, hwd, hat⟩ := hat4 x4 x40 x41
    have hro13 := e13.at hro12
    have hS13 : SqL K H13 a (ns.map V.int) := e13.seq hS12
    walk_at "x"
    rename_i mm
    obtain ⟨ix, hix⟩ : ∃ ix : Int, (if mm > 0 then mm else 0) % ((as.map V.ref).length : Int) = ix := ⟨_, rfl⟩
    have ix0 : 0 ≤ ix := by rw [← hix]; exact Int.emod_nonneg _ (by omega)
    have ix1 : ix < N := by rw [← hix, haml]; exact Int.emod_lt_of_pos _ (by omega)
    rw [hix]
    obtain ⟨c, hc⟩ := lt_some (show ix.toNat < as.length by omega)
    have hatc : atI (as.map V.ref) ix = some (.ref c) := atI_lt ix0 (by rw [List.getElem?_map, hc]; rfl)
    have hrow13 := e13.at (hR12.2 _ _ hc)
    walk_at "x"
    refine .inr ⟨_, rfl, ?_⟩
    obtain ⟨b, eb, b0, b1⟩ : ∃ b : Int, (if decide (wd = "free") = true then (1 : Int) else 0) = b ∧ 0 ≤ b ∧ b < 2 := ⟨_, rfl, by split <;> decide, by split <;> decide⟩
    rw [eb]
    have hst : 0 ≤ R' ix.toNat b.toNat := by
      obtain ⟨t0, t1, t2⟩ := hT' ix.toNat
      have h1 := hP ix.toNat (by omega)
      have h2 := hL ix.toNat (by omega)
      obtain rfl | rfl : b = 0 ∨ b = 1 := by omega
      · rw [show (0 : Int).toNat = 0 from rfl, t0]; exact h1.1
      · rw [show (1 : Int).toNat = 1 from rfl, t1]; exact h2.1
    walk_at "x"
    rename_i cc
    have hn100 : X.n ≤ 100 := by omega
    have hW13 := hW.same e13
    have hB0 : (1000000000 * (1 + 4 * (i : Int))) ≤ 1000000000000 := by omega
    refine ⟨H, X, P, L, R', wd, mm, cc, _, by rw [hXh, hXro, hXown], hwd, hW13, hT', hn100, by rw [hXn]; exact hL, by omega, fun H14 R2 hW14 hT14 => ?_⟩
    obtain ⟨hP14, hL14⟩ := new_bd (n := X.n) (m := mm) (c := cc) hwd (by rw [hXn]; exact hP) (by rw [hXn]; exact hL) (by omega)
    have hro14 : H14 ro = some (.lst (as.map V.ref)) := by have := hW14.ro; rw [hXro, hXas] at this; exact this
    generalize newP wd X.n P L mm cc = P14 at *
    generalize newL wd X.n P L mm cc = L14 at *
    have fin : ∀ {σ' : St} {H' : Hp} {P' L' : Nat → Int} {R' : Nat → Nat → Int} {g2 g7 g8 g9 g10 g11 g12 : Option V} {B : Int}, σ' = [some (.ref a), some (.ref ro), g2, f3, f4, some (.int own), some (.ref h), g7, g8, g9, g10, g11, g12] → HW K T.c_House T.c_Book lP lQ H X H' P' L' R' → TieR P' L' X.S R' → BdF X.n P' B → BdF X.n L' B → B ≤ 1000000000 * (1 + 4 * (i : Int)) + 4000000000 → (∃ (g2 g7 g8 g9 g10 g11 g12 : Option V) (P L : Nat → Int) (R' : Nat → Nat → Int), σ' = [some (.ref a), some (.ref ro), g2, f3, f4, some (.int own), some (.ref h), g7, g8, g9, g10, g11, g12] ∧ HW K T.c_House T.c_Book lP lQ H X H' P L R' ∧ TieR P L X.S R' ∧ BdF N P (1000000000 * (1 + 4 * ((i + 1 : Nat) : Int))) ∧ BdF N L (1000000000 * (1 + 4 * ((i + 1 : Nat) : Int)))) := fun h1 h2 h3 h4 h5 h6 => ⟨_, _, _, _, _, _, _, _, _, _, h1, h2, h3, by rw [← hXn]; exact h4.mono (by omega), by rw [← hXn]; exact h5.mono (by omega)⟩
    walk_at "x"
    · rename_i c1 c2 c3 c4 c5 ah H15 fah e15 hah
      have hW15 := hW14.on fah e15 hah
      refine ⟨H, X.on ah _, P14, L14, R2, "put", mm, cc, _, by show _ = [V.ref X.h, V.ref X.ro, V.int X.own, _, _, _]; rw [hXh, hXro, hXown], by simp [words4], hW15, hT14, hn100, hL14, by omega, fun H16 R16 hW16 hT16 => ?_⟩
      obtain ⟨hP16, hL16⟩ := new_bd (n := X.n) (wd := "put") (m := mm) (c := cc) (by simp [words4]) hP14 hL14 (by omega)
      have hn16 : (X.on ah [.str wd, .int mm, .int cc]).n = X.n := rfl
      rw [hn16] at hW16 hT16
      generalize newP "put" X.n P14 L14 mm cc = P16 at *
      generalize newL "put" X.n P14 L14 mm cc = L16 at *
      by_cases hf : wd = "free"
      · walk_at "x"
        refine ⟨H, X.on ah _, P16, L16, R16, "lay", mm, cc, _, by show _ = [V.ref X.h, V.ref X.ro, V.int X.own, _, _, _]; rw [hXh, hXro, hXown], by simp [words4], hW16, hT16, hn100, hL16, by omega, fun H17 R17 hW17 hT17 => ?_⟩
        obtain ⟨hP17, hL17⟩ := new_bd (n := X.n) (wd := "lay") (m := mm) (c := cc) (by simp [words4]) hP16 hL16 (by omega)
        rw [hn16] at hW17 hT17
        generalize newP "lay" X.n P16 L16 mm cc = P17 at *
        generalize newL "lay" X.n P16 L16 mm cc = L17 at *
        have hah17 : H17 ah = some (.lst [.str wd, .int mm, .int cc]) := hW17.zl (ah, _) (List.mem_singleton.mpr rfl)
        walk_at "x"
        refine ⟨H, X.on ah _, P17, L17, R17, wd, mm, cc, _, by show _ = [V.ref X.h, V.ref X.ro, V.int X.own, _, _, _]; rw [hXh, hXro, hXown], hwd, hW17, hT17, hn100, hL17, by omega, fun H18 R18 hW18 hT18 => ?_⟩
        obtain ⟨hP18, hL18⟩ := new_bd (n := X.n) (m := mm) (c := cc) hwd hP17 hL17 (by omega)
        walk_at "x"
        exact fin rfl (hW18.off hXz) hT18 hP18 hL18 (by omega)
      · have dummy := hf
        have hah16 : H16 ah = some (.lst [.str wd, .int mm, .int cc]) := hW16.zl (ah, _) (List.mem_singleton.mpr rfl)
        walk_at "x"
        refine ⟨H, X.on ah _, P16, L16, R16, wd, mm, cc, _, by show _ = [V.ref X.h, V.ref X.ro, V.int X.own, _, _, _]; rw [hXh, hXro, hXown], hwd, hW16, hT16, hn100, hL16, by omega, fun H18 R18 hW18 hT18 => ?_⟩
        obtain ⟨hP18, hL18⟩ := new_bd (n := X.n) (m := mm) (c := cc) hwd hP16 hL16 (by omega)
        walk_at "x"
        exact fin rfl (hW18.off hXz) hT18 hP18 hL18 (by omega)
    all_goals exact fin rfl hW14 hT14 hP14 hL14 (by omega)
  · rintro σ' H12 ⟨g2, g7, g8, g9, g10, g11, g12, P, L, R', rfl, hW, hT', hP, hL⟩
    obtain ⟨dxb, hbk⟩ := hW.hn.bk.ob
    obtain ⟨dxh, hhh⟩ := hW.hc.ob
    rw [hXh] at hhh
    walk_at "x"
    refine ⟨h, dxh, X.d, X.A, X.own, _, _, 0, [], rfl, hhh, hW.hn.bk, ?_⟩
    walk_at "x"
    exact k _

end
theorem fin {P : Program} {w : World} {K : PySem.W.Frag} {mg : Str → Option Value} {fa : Addr} (T : Txt K mg) (hfa : mg "law" = some (.ref fa)) :
    ∃ fd : FuncData, (∀ (s : Shared) (v : Value), BindsTo s fd ⟨[v], []⟩ [("_law_script", v)]) ∧ (∃ p, PySem.W.tabIn K "worst_days" = some p) ∧ ∀ base : Heap, K.In base → base.Ns mainGlobals mg → TabX K mg base "worst_days" → FnOk P w K mg base (CXF P w) 9 fa fd ["_law_script"] (spLaw K) := by
  have e := hfa.symm.trans T.d_law.m
  cases e
  exact ⟨_, T.bl_law, ⟨_, T.tb_worst_days⟩, fun base _ _ _ => ok_law T⟩
theorem walk {l : PySem.W.OpenLaw} {q : Program} {loose : List Str} {XP : (Str → Option Value) → Heap → Prop} {YP : World → Heap → Prop} {d : DefRec} {K : Params → PySem.W.Frag} (hn : l.most = some 63) (hdf : d.params.defaults = [])
    (hY : ∀ (w : World) (h : Heap), YP w h → (K w.params).In h)
    (hrec : ∃ d', (PyProof.Rows.recsOf q).find? (fun e => e.name == ("worst_days" : Str)) = some d') (hnt : ∀ w : World, PySem.W.noTabs (K w.params) = true)
    (F : ∀ (w : World) (mg : Str → Option Value) (fa : Addr) (h : Heap), (K w.params).In h → h.Ns mainGlobals mg → mg d.name = some (.ref fa) →
      ∃ fd : FuncData, (∀ (s : Shared) (u : Value), BindsTo s fd ⟨[u], []⟩ [("_law_script", u)]) ∧ (∃ p, PySem.W.tabIn (K w.params) "worst_days" = some p) ∧ ∀ base : Heap, (K w.params).In base → base.Ns mainGlobals mg → TabX (K w.params) mg base "worst_days" → FnOk l.prog w (K w.params) mg base (CXF l.prog w) 9 fa fd ["_law_script"] (spLaw (K w.params))) :
    PySem.W.WalkO q loose XP YP l.row.toRowW d [] (fun f vs => PySem.call f vs) :=
  let ⟨_, hrec'⟩ := hrec
  Internal.walk_ofT (n := 63) (k := 9) (x := "_law_script") (CX := fun w => CXF l.prog w) (sp := fun w => spLaw (K w.params)) hn (by decide) hdf ⟨rfl, by decide, by decide⟩ hY hrec' hnt F (fun _ _ a ns hl hz hS hT => ⟨a, ns, rfl, hS, hl, hz, hT, fun _ => rfl⟩) fun _ H s e s' z => nox_F _ H s e s' z
end Internal.K
theorem PySem.W.Fast.tw17576187324400057220 : True := trivial
theorem PySem.W.Fast.tw1922772172490564584 : True := trivial
theorem PySem.W.Fast.tw11016597289742385759 : True := trivial
theorem PySem.W.Fast.tw16110180072517606023 : True := trivial
theorem PySem.W.Fast.tw539101199847101562 : True := trivial
theorem PySem.W.Fast.tw476704990369291632 : True := trivial
theorem PySem.W.Fast.tw16119041514085905166 : True := trivial
theorem PySem.W.Fast.tw4966804411847177483 : True := trivial
theorem PySem.W.Fast.tw8155746179275296678 : True := trivial
theorem PySem.W.Fast.tw12144143232082236150 : True := trivial
theorem PySem.W.Fast.tw15826680348235535254 : True := trivial
theorem PySem.W.Fast.tw6634757633392770970 : True := trivial
theorem PySem.W.Fast.tw6660307652657862676 : True := trivial
theorem PySem.W.Fast.tw1415981240938210707 : True := trivial
theorem PySem.W.Fast.tw9383118457267808590 : True := trivial
theorem PySem.W.Fast.tw11056180497747237458 : True := trivial
theorem PySem.W.Fast.tw7871068998232646751 : True := trivial
theorem PySem.W.Fast.tw7892789783436068544 : True := trivial
theorem PySem.W.Fast.tw4601100270483788454 : True := trivial
theorem PySem.W.Fast.tw3884152354995764079 : True := trivial
theorem PySem.W.Fast.tw3562066090389868471 : True := trivial
theorem PySem.W.Fast.tw17822575835925565089 : True := trivial
theorem PySem.W.Fast.tw11247067660118364870 : True := trivial
theorem PySem.W.Fast.tw3728624073777433838 : True := trivial
theorem PySem.W.Fast.tw18400633961891624336 : True := trivial
theorem PySem.W.Fast.tw5341355528604690639 : True := trivial
theorem PySem.W.Fast.tw17448919691825774900 : True := trivial
theorem PySem.W.Fast.tw4552974892707473257 : True := trivial
theorem PySem.W.Fast.tw692149486486390645 : True := trivial
theorem PySem.W.Fast.tw16790058119762977120 : True := trivial
theorem PySem.W.Fast.tw15796607657613986928 : True := trivial
theorem PySem.W.Fast.tw3786228958486535168 : True := trivial
theorem PySem.W.Fast.tw9184807231500903252 : True := trivial
theorem PySem.W.Fast.tw428551470186786553 : True := trivial
theorem PySem.W.Fast.tw3021734451525530979 : True := trivial
theorem PySem.W.Fast.tw15984329272137646475 : True := trivial
theorem PySem.W.Fast.tw11304302498342729441 : True := trivial
theorem PySem.W.Fast.tw15467186051167733639 : True := trivial
theorem PySem.W.Fast.tw8890459863853480249 : True := trivial
theorem PySem.W.Fast.tw16116041894013656757 : True := trivial
theorem PySem.W.Fast.tw5928419696641648613 : True := trivial
theorem PySem.W.Fast.tw15266462819407358109 : True := trivial
theorem PySem.W.Fast.tw5153491686708372521 : True := trivial
theorem PySem.W.Fast.tw9850348451239945592 : True := trivial
theorem PySem.W.Fast.tw9389835261612963145 : True := trivial
theorem PySem.W.Fast.tw6275250775382860708 : True := trivial
theorem PySem.W.Fast.tw16401689827058096333 : True := trivial
theorem PySem.W.Fast.tw17227745998585474190 : True := trivial
theorem PySem.W.Fast.tw7341801127582160831 : True := trivial
theorem PySem.W.Fast.tw14941241901133332900 : True := trivial
theorem PySem.W.Fast.tw13994318961667011379 : True := trivial
theorem PySem.W.Fast.tw11611157331447972989 : True := trivial
open PySem PySem.W PyProof.Rows
set_option maxRecDepth 100000 in
set_option maxHeartbeats 0 in
theorem PySem.Challenge.cw_quits_k77_coins_moved_holds : PySem.Challenge.rw_quits_k77_coins_moved.Holds := by
  w_on; o_law; k_head; (case hw => w_witness2)
  k_fill
  refine Internal.K.walk (l := PySem.Challenge.rw_quits_k77_coins_moved) rfl rfl (fun w h Y => PySem.W.km_in_of Y) ?xRec ?xTab ?F
  case xRec => exact ⟨_, rfl⟩
  case xTab => intro w; kernel_rfl
  case F =>
    intro w mg fa h KX G hmg
    refine Internal.K.fin ?T hmg
    case T =>
      refine' Internal.K.txt_mk KX G ?m_Bare ?m_NoDeal ?m_NoLayer ?m_NoMember ?m_NoPart ?m_NoRule ?m_NoTerms ?m_Out ?m_Poor ?m_QuitsError ?hd_Bare ?ty_Bare ?hd_NoDeal ?ty_NoDeal ?hd_NoLayer ?ty_NoLayer ?hd_NoMember ?ty_NoMember ?hd_NoPart ?ty_NoPart ?hd_NoRule ?ty_NoRule ?hd_NoTerms ?ty_NoTerms ?hd_Out ?ty_Out ?hd_Poor ?ty_Poor ?hd_QuitsError ?ty_QuitsError ?sn_ ?tk_ ?b_QuitsError ?x_Bare ?ga_Bare ?gn_Bare ?be_Bare ?fa_Bare ?mo_Bare ?s_Bare_Bare ?s_Bare_NoDeal ?n_Bare_NoDeal ?s_Bare_NoLayer ?n_Bare_NoLayer ?s_Bare_NoMember ?n_Bare_NoMember ?s_Bare_NoPart ?n_Bare_NoPart ?s_Bare_NoRule ?n_Bare_NoRule ?s_Bare_NoTerms ?n_Bare_NoTerms ?s_Bare_Out ?n_Bare_Out ?s_Bare_Poor ?n_Bare_Poor ?s_Bare_QuitsError ?n_Bare_QuitsError ?v_Bare ?x_NoLayer ?ga_NoLayer ?gn_NoLayer ?be_NoLayer ?fa_NoLayer ?mo_NoLayer ?s_NoLayer_Bare ?n_NoLayer_Bare ?s_NoLayer_NoDeal ?n_NoLayer_NoDeal ?s_NoLayer_NoLayer ?s_NoLayer_NoMember ?n_NoLayer_NoMember ?s_NoLayer_NoPart ?n_NoLayer_NoPart ?s_NoLayer_NoRule ?n_NoLayer_NoRule ?s_NoLayer_NoTerms ?n_NoLayer_NoTerms ?s_NoLayer_Out ?n_NoLayer_Out ?s_NoLayer_Poor ?n_NoLayer_Poor ?s_NoLayer_QuitsError ?n_NoLayer_QuitsError ?v_NoLayer ?x_NoMember ?ga_NoMember ?gn_NoMember ?be_NoMember ?fa_NoMember ?mo_NoMember ?s_NoMember_Bare ?n_NoMember_Bare ?s_NoMember_NoDeal ?n_NoMember_NoDeal ?s_NoMember_NoLayer ?n_NoMember_NoLayer ?s_NoMember_NoMember ?s_NoMember_NoPart ?n_NoMember_NoPart ?s_NoMember_NoRule ?n_NoMember_NoRule ?s_NoMember_NoTerms ?n_NoMember_NoTerms ?s_NoMember_Out ?n_NoMember_Out ?s_NoMember_Poor ?n_NoMember_Poor ?s_NoMember_QuitsError ?n_NoMember_QuitsError ?v_NoMember ?x_NoPart ?ga_NoPart ?gn_NoPart ?be_NoPart ?fa_NoPart ?mo_NoPart ?s_NoPart_Bare ?n_NoPart_Bare ?s_NoPart_NoDeal ?n_NoPart_NoDeal ?s_NoPart_NoLayer ?n_NoPart_NoLayer ?s_NoPart_NoMember ?n_NoPart_NoMember ?s_NoPart_NoPart ?s_NoPart_NoRule ?n_NoPart_NoRule ?s_NoPart_NoTerms ?n_NoPart_NoTerms ?s_NoPart_Out ?n_NoPart_Out ?s_NoPart_Poor ?n_NoPart_Poor ?s_NoPart_QuitsError ?n_NoPart_QuitsError ?v_NoPart ?x_NoRule ?ga_NoRule ?gn_NoRule ?be_NoRule ?fa_NoRule ?mo_NoRule ?s_NoRule_Bare ?n_NoRule_Bare ?s_NoRule_NoDeal ?n_NoRule_NoDeal ?s_NoRule_NoLayer ?n_NoRule_NoLayer ?s_NoRule_NoMember ?n_NoRule_NoMember ?s_NoRule_NoPart ?n_NoRule_NoPart ?s_NoRule_NoRule ?s_NoRule_NoTerms ?n_NoRule_NoTerms ?s_NoRule_Out ?n_NoRule_Out ?s_NoRule_Poor ?n_NoRule_Poor ?s_NoRule_QuitsError ?n_NoRule_QuitsError ?v_NoRule ?x_NoTerms ?ga_NoTerms ?gn_NoTerms ?be_NoTerms ?fa_NoTerms ?mo_NoTerms ?s_NoTerms_Bare ?n_NoTerms_Bare ?s_NoTerms_NoDeal ?n_NoTerms_NoDeal ?s_NoTerms_NoLayer ?n_NoTerms_NoLayer ?s_NoTerms_NoMember ?n_NoTerms_NoMember ?s_NoTerms_NoPart ?n_NoTerms_NoPart ?s_NoTerms_NoRule ?n_NoTerms_NoRule ?s_NoTerms_NoTerms ?s_NoTerms_Out ?n_NoTerms_Out ?s_NoTerms_Poor ?n_NoTerms_Poor ?s_NoTerms_QuitsError ?n_NoTerms_QuitsError ?v_NoTerms ?x_Poor ?ga_Poor ?gn_Poor ?be_Poor ?fa_Poor ?mo_Poor ?s_Poor_Bare ?n_Poor_Bare ?s_Poor_NoDeal ?n_Poor_NoDeal ?s_Poor_NoLayer ?n_Poor_NoLayer ?s_Poor_NoMember ?n_Poor_NoMember ?s_Poor_NoPart ?n_Poor_NoPart ?s_Poor_NoRule ?n_Poor_NoRule ?s_Poor_NoTerms ?n_Poor_NoTerms ?s_Poor_Out ?n_Poor_Out ?s_Poor_Poor ?s_Poor_QuitsError ?n_Poor_QuitsError ?v_Poor ?m_Book ?pg_Book ?hd_Book ?po_Book ?sa_Book ?mk_Book ?kc_Book ?na_Book_day ?na_Book_deals ?na_Book_many ?na_Book_wares ?m_House ?pg_House ?hd_House ?po_House ?sa_House ?mk_House ?kc_House ?na_House_book ?na_House_kept ?na_House_moves ?na_House_order ?na_House_outs ?na_House_pledges ?na_House_purses ?na_House_reports ?na_House_rule ?na_House_shares ?g_MOST_COINS ?g_PAYEE ?g_PAYER ?g_STATE ?g_UNITS ?g_WARE ?g_WORDS ?o_WORDS ?a_Book___init__ ?i_Book___init__ ?l_Book___init__ ?c_Book___init__ ?k_Book___init__ ?a_Book_today ?i_Book_today ?l_Book_today ?c_Book_today ?k_Book_today ?a_Book_position ?i_Book_position ?l_Book_position ?c_Book_position ?k_Book_position ?a_House___init__ ?i_House___init__ ?l_House___init__ ?c_House___init__ ?k_House___init__ ?a_House_put ?i_House_put ?l_House_put ?c_House_put ?k_House_put ?a_House_take ?i_House_take ?l_House_take ?c_House_take ?k_House_take ?a_House_lay ?i_House_lay ?l_House_lay ?c_House_lay ?k_House_lay ?a_House_free ?i_House_free ?l_House_free ?c_House_free ?k_House_free ?a_House_check_coins ?i_House_check_coins ?l_House_check_coins ?c_House_check_coins ?k_House_check_coins ?a_House_purse ?i_House_purse ?l_House_purse ?c_House_purse ?k_House_purse ?a_House_pledge ?i_House_pledge ?l_House_pledge ?c_House_pledge ?k_House_pledge ?a_House_share ?i_House_share ?l_House_share ?c_House_share ?k_House_share ?a_House_own ?i_House_own ?l_House_own ?c_House_own ?k_House_own ?a_House_coins ?i_House_coins ?l_House_coins ?c_House_coins ?k_House_coins ?a_House_need ?i_House_need ?l_House_need ?c_House_need ?k_House_need ?a_House_today ?i_House_today ?l_House_today ?c_House_today ?k_House_today ?a_check_order ?l_check_order ?c_check_order ?k_check_order ?a_divisor ?l_divisor ?c_divisor ?k_divisor ?a_part ?l_part ?c_part ?k_part ?a_under ?l_under ?c_under ?k_under ?a_losses_of ?l_losses_of ?c_losses_of ?k_losses_of ?a_worst_days ?l_worst_days ?c_worst_days ?k_worst_days ?a_need_of ?l_need_of ?c_need_of ?k_need_of ?a_check_rule ?l_check_rule ?c_check_rule ?k_check_rule ?a_check_enough ?l_check_enough ?c_check_enough ?k_check_enough ?a_check_covered ?l_check_covered ?c_check_covered ?k_check_covered ?a__law_cell ?l__law_cell ?c__law_cell ?k__law_cell ?a__law_draw ?l__law_draw ?c__law_draw ?k__law_draw ?a__law_great ?l__law_great ?c__law_great ?k__law_great ?a__law_amount ?l__law_amount ?c__law_amount ?k__law_amount ?a__law_coins ?l__law_coins ?c__law_coins ?k__law_coins ?a__law_member ?l__law_member ?c__law_member ?k__law_member ?a__law_name ?l__law_name ?c__law_name ?k__law_name ?a__law_done ?l__law_done ?c__law_done ?k__law_done ?a__law_found ?l__law_found ?c__law_found ?k__law_found ?a__law_due ?l__law_due ?c__law_due ?k__law_due ?a__law_stands ?l__law_stands ?c__law_stands ?k__law_stands ?a__law_tried ?l__law_tried ?c__law_tried ?k__law_tried ?a_law ?l_law ?c_law ?k_law ?cq_worst_days ?lc_worst_days ?ve_worst_days ?w_ValueError ?w_abs ?w_bool ?w_enumerate ?w_int ?w_isinstance ?w_len ?w_list ?w_max ?w_min ?w_range ?w_sorted ?w_sum ?w_tuple ?w_zip
      (case m_Bare => k_is)
      (case m_NoDeal => k_is)
      (case m_NoLayer => k_is)
      (case m_NoMember => k_is)
      (case m_NoPart => k_is)
      (case m_NoRule => k_is)
      (case m_NoTerms => k_is)
      (case m_Out => k_is)
      (case m_Poor => k_is)
      (case m_QuitsError => k_is)
      (case hd_Bare => k_is)
      (case ty_Bare => k_is)
      (case hd_NoDeal => k_is)
      (case ty_NoDeal => k_is)
      (case hd_NoLayer => k_is)
      (case ty_NoLayer => k_is)
      (case hd_NoMember => k_is)
      (case ty_NoMember => k_is)
      (case hd_NoPart => k_is)
      (case ty_NoPart => k_is)
      (case hd_NoRule => k_is)
      (case ty_NoRule => k_is)
      (case hd_NoTerms => k_is)
      (case ty_NoTerms => k_is)
      (case hd_Out => k_is)
      (case ty_Out => k_is)
      (case hd_Poor => k_is)
      (case ty_Poor => k_is)
      (case hd_QuitsError => k_is)
      (case ty_QuitsError => k_is)
      (case sn_ => k_is)
      (case tk_ => k_is)
      (case b_QuitsError => k_is)
      (case x_Bare => k_exc)
      (case ga_Bare => k_is)
      (case gn_Bare => k_is)
      (case be_Bare => k_is)
      (case fa_Bare => k_is)
      (case mo_Bare => k_is)
      (case s_Bare_Bare => k_is)
      (case s_Bare_NoDeal => k_is)
      (case n_Bare_NoDeal => decide)
      (case s_Bare_NoLayer => k_is)
      (case n_Bare_NoLayer => decide)
      (case s_Bare_NoMember => k_is)
      (case n_Bare_NoMember => decide)
      (case s_Bare_NoPart => k_is)
      (case n_Bare_NoPart => decide)
      (case s_Bare_NoRule => k_is)
      (case n_Bare_NoRule => decide)
      (case s_Bare_NoTerms => k_is)
      (case n_Bare_NoTerms => decide)
      (case s_Bare_Out => k_is)
      (case n_Bare_Out => decide)
      (case s_Bare_Poor => k_is)
      (case n_Bare_Poor => decide)
      (case s_Bare_QuitsError => k_is)
      (case n_Bare_QuitsError => decide)
      (case v_Bare => k_is)
      (case x_NoLayer => k_exc)
      (case ga_NoLayer => k_is)
      (case gn_NoLayer => k_is)
      (case be_NoLayer => k_is)
      (case fa_NoLayer => k_is)
      (case mo_NoLayer => k_is)
      (case s_NoLayer_Bare => k_is)
      (case n_NoLayer_Bare => decide)
      (case s_NoLayer_NoDeal => k_is)
      (case n_NoLayer_NoDeal => decide)
      (case s_NoLayer_NoLayer => k_is)
      (case s_NoLayer_NoMember => k_is)
      (case n_NoLayer_NoMember => decide)
      (case s_NoLayer_NoPart => k_is)
      (case n_NoLayer_NoPart => decide)
      (case s_NoLayer_NoRule => k_is)
      (case n_NoLayer_NoRule => decide)
      (case s_NoLayer_NoTerms => k_is)
      (case n_NoLayer_NoTerms => decide)
      (case s_NoLayer_Out => k_is)
      (case n_NoLayer_Out => decide)
      (case s_NoLayer_Poor => k_is)
      (case n_NoLayer_Poor => decide)
      (case s_NoLayer_QuitsError => k_is)
      (case n_NoLayer_QuitsError => decide)
      (case v_NoLayer => k_is)
      (case x_NoMember => k_exc)
      (case ga_NoMember => k_is)
      (case gn_NoMember => k_is)
      (case be_NoMember => k_is)
      (case fa_NoMember => k_is)
      (case mo_NoMember => k_is)
      (case s_NoMember_Bare => k_is)
      (case n_NoMember_Bare => decide)
      (case s_NoMember_NoDeal => k_is)
      (case n_NoMember_NoDeal => decide)
      (case s_NoMember_NoLayer => k_is)
      (case n_NoMember_NoLayer => decide)
      (case s_NoMember_NoMember => k_is)
      (case s_NoMember_NoPart => k_is)
      (case n_NoMember_NoPart => decide)
      (case s_NoMember_NoRule => k_is)
      (case n_NoMember_NoRule => decide)
      (case s_NoMember_NoTerms => k_is)
      (case n_NoMember_NoTerms => decide)
      (case s_NoMember_Out => k_is)
      (case n_NoMember_Out => decide)
      (case s_NoMember_Poor => k_is)
      (case n_NoMember_Poor => decide)
      (case s_NoMember_QuitsError => k_is)
      (case n_NoMember_QuitsError => decide)
      (case v_NoMember => k_is)
      (case x_NoPart => k_exc)
      (case ga_NoPart => k_is)
      (case gn_NoPart => k_is)
      (case be_NoPart => k_is)
      (case fa_NoPart => k_is)
      (case mo_NoPart => k_is)
      (case s_NoPart_Bare => k_is)
      (case n_NoPart_Bare => decide)
      (case s_NoPart_NoDeal => k_is)
      (case n_NoPart_NoDeal => decide)
      (case s_NoPart_NoLayer => k_is)
      (case n_NoPart_NoLayer => decide)
      (case s_NoPart_NoMember => k_is)
      (case n_NoPart_NoMember => decide)
      (case s_NoPart_NoPart => k_is)
      (case s_NoPart_NoRule => k_is)
      (case n_NoPart_NoRule => decide)
      (case s_NoPart_NoTerms => k_is)
      (case n_NoPart_NoTerms => decide)
      (case s_NoPart_Out => k_is)
      (case n_NoPart_Out => decide)
      (case s_NoPart_Poor => k_is)
      (case n_NoPart_Poor => decide)
      (case s_NoPart_QuitsError => k_is)
      (case n_NoPart_QuitsError => decide)
      (case v_NoPart => k_is)
      (case x_NoRule => k_exc)
      (case ga_NoRule => k_is)
      (case gn_NoRule => k_is)
      (case be_NoRule => k_is)
      (case fa_NoRule => k_is)
      (case mo_NoRule => k_is)
      (case s_NoRule_Bare => k_is)
      (case n_NoRule_Bare => decide)
      (case s_NoRule_NoDeal => k_is)
      (case n_NoRule_NoDeal => decide)
      (case s_NoRule_NoLayer => k_is)
      (case n_NoRule_NoLayer => decide)
      (case s_NoRule_NoMember => k_is)
      (case n_NoRule_NoMember => decide)
      (case s_NoRule_NoPart => k_is)
      (case n_NoRule_NoPart => decide)
      (case s_NoRule_NoRule => k_is)
      (case s_NoRule_NoTerms => k_is)
      (case n_NoRule_NoTerms => decide)
      (case s_NoRule_Out => k_is)
      (case n_NoRule_Out => decide)
      (case s_NoRule_Poor => k_is)
      (case n_NoRule_Poor => decide)
      (case s_NoRule_QuitsError => k_is)
      (case n_NoRule_QuitsError => decide)
      (case v_NoRule => k_is)
      (case x_NoTerms => k_exc)
      (case ga_NoTerms => k_is)
      (case gn_NoTerms => k_is)
      (case be_NoTerms => k_is)
      (case fa_NoTerms => k_is)
      (case mo_NoTerms => k_is)
      (case s_NoTerms_Bare => k_is)
      (case n_NoTerms_Bare => decide)
      (case s_NoTerms_NoDeal => k_is)
      (case n_NoTerms_NoDeal => decide)
      (case s_NoTerms_NoLayer => k_is)
      (case n_NoTerms_NoLayer => decide)
      (case s_NoTerms_NoMember => k_is)
      (case n_NoTerms_NoMember => decide)
      (case s_NoTerms_NoPart => k_is)
      (case n_NoTerms_NoPart => decide)
      (case s_NoTerms_NoRule => k_is)
      (case n_NoTerms_NoRule => decide)
      (case s_NoTerms_NoTerms => k_is)
      (case s_NoTerms_Out => k_is)
      (case n_NoTerms_Out => decide)
      (case s_NoTerms_Poor => k_is)
      (case n_NoTerms_Poor => decide)
      (case s_NoTerms_QuitsError => k_is)
      (case n_NoTerms_QuitsError => decide)
      (case v_NoTerms => k_is)
      (case x_Poor => k_exc)
      (case ga_Poor => k_is)
      (case gn_Poor => k_is)
      (case be_Poor => k_is)
      (case fa_Poor => k_is)
      (case mo_Poor => k_is)
      (case s_Poor_Bare => k_is)
      (case n_Poor_Bare => decide)
      (case s_Poor_NoDeal => k_is)
      (case n_Poor_NoDeal => decide)
      (case s_Poor_NoLayer => k_is)
      (case n_Poor_NoLayer => decide)
      (case s_Poor_NoMember => k_is)
      (case n_Poor_NoMember => decide)
      (case s_Poor_NoPart => k_is)
      (case n_Poor_NoPart => decide)
      (case s_Poor_NoRule => k_is)
      (case n_Poor_NoRule => decide)
      (case s_Poor_NoTerms => k_is)
      (case n_Poor_NoTerms => decide)
      (case s_Poor_Out => k_is)
      (case n_Poor_Out => decide)
      (case s_Poor_Poor => k_is)
      (case s_Poor_QuitsError => k_is)
      (case n_Poor_QuitsError => decide)
      (case v_Poor => k_is)
      (case m_Book => k_is)
      (case pg_Book => k_is)
      (case hd_Book => k_is)
      (case po_Book => k_is)
      (case sa_Book => k_is)
      (case mk_Book => k_is)
      (case kc_Book => k_is)
      (case na_Book_day => k_is)
      (case na_Book_deals => k_is)
      (case na_Book_many => k_is)
      (case na_Book_wares => k_is)
      (case m_House => k_is)
      (case pg_House => k_is)
      (case hd_House => k_is)
      (case po_House => k_is)
      (case sa_House => k_is)
      (case mk_House => k_is)
      (case kc_House => k_is)
      (case na_House_book => k_is)
      (case na_House_kept => k_is)
      (case na_House_moves => k_is)
      (case na_House_order => k_is)
      (case na_House_outs => k_is)
      (case na_House_pledges => k_is)
      (case na_House_purses => k_is)
      (case na_House_reports => k_is)
      (case na_House_rule => k_is)
      (case na_House_shares => k_is)
      (case g_MOST_COINS => k_is)
      (case g_PAYEE => k_is)
      (case g_PAYER => k_is)
      (case g_STATE => k_is)
      (case g_UNITS => k_is)
      (case g_WARE => k_is)
      (case g_WORDS => k_is)
      (case o_WORDS => k_is)
      (case a_Book___init__ => k_is)
      (case i_Book___init__ => k_is)
      (case l_Book___init__ => k_is)
      (case c_Book___init__ => k_is)
      (case k_Book___init__ => k_is)
      (case a_Book_today => k_is)
      (case i_Book_today => k_is)
      (case l_Book_today => k_is)
      (case c_Book_today => k_is)
      (case k_Book_today => k_is)
      (case a_Book_position => k_is)
      (case i_Book_position => k_is)
      (case l_Book_position => k_is)
      (case c_Book_position => k_is)
      (case k_Book_position => k_is)
      (case a_House___init__ => k_is)
      (case i_House___init__ => k_is)
      (case l_House___init__ => k_is)
      (case c_House___init__ => k_is)
      (case k_House___init__ => k_is)
      (case a_House_put => k_is)
      (case i_House_put => k_is)
      (case l_House_put => k_is)
      (case c_House_put => k_is)
      (case k_House_put => k_is)
      (case a_House_take => k_is)
      (case i_House_take => k_is)
      (case l_House_take => k_is)
      (case c_House_take => k_is)
      (case k_House_take => k_is)
      (case a_House_lay => k_is)
      (case i_House_lay => k_is)
      (case l_House_lay => k_is)
      (case c_House_lay => k_is)
      (case k_House_lay => k_is)
      (case a_House_free => k_is)
      (case i_House_free => k_is)
      (case l_House_free => k_is)
      (case c_House_free => k_is)
      (case k_House_free => k_is)
      (case a_House_check_coins => k_is)
      (case i_House_check_coins => k_is)
      (case l_House_check_coins => k_is)
      (case c_House_check_coins => k_is)
      (case k_House_check_coins => k_is)
      (case a_House_purse => k_is)
      (case i_House_purse => k_is)
      (case l_House_purse => k_is)
      (case c_House_purse => k_is)
      (case k_House_purse => k_is)
      (case a_House_pledge => k_is)
      (case i_House_pledge => k_is)
      (case l_House_pledge => k_is)
      (case c_House_pledge => k_is)
      (case k_House_pledge => k_is)
      (case a_House_share => k_is)
      (case i_House_share => k_is)
      (case l_House_share => k_is)
      (case c_House_share => k_is)
      (case k_House_share => k_is)
      (case a_House_own => k_is)
      (case i_House_own => k_is)
      (case l_House_own => k_is)
      (case c_House_own => k_is)
      (case k_House_own => k_is)
      (case a_House_coins => k_is)
      (case i_House_coins => k_is)
      (case l_House_coins => k_is)
      (case c_House_coins => k_is)
      (case k_House_coins => k_is)
      (case a_House_need => k_is)
      (case i_House_need => k_is)
      (case l_House_need => k_is)
      (case c_House_need => k_is)
      (case k_House_need => k_is)
      (case a_House_today => k_is)
      (case i_House_today => k_is)
      (case l_House_today => k_is)
      (case c_House_today => k_is)
      (case k_House_today => k_is)
      (case a_check_order => k_is)
      (case l_check_order => k_is)
      (case c_check_order => k_is)
      (case k_check_order => k_is)
      (case a_divisor => k_is)
      (case l_divisor => k_is)
      (case c_divisor => k_is)
      (case k_divisor => k_is)
      (case a_part => k_is)
      (case l_part => k_is)
      (case c_part => k_is)
      (case k_part => k_is)
      (case a_under => k_is)
      (case l_under => k_is)
      (case c_under => k_is)
      (case k_under => k_is)
      (case a_losses_of => k_is)
      (case l_losses_of => k_is)
      (case c_losses_of => k_is)
      (case k_losses_of => k_is)
      (case a_worst_days => k_is)
      (case l_worst_days => k_is)
      (case c_worst_days => k_is)
      (case k_worst_days => k_is)
      (case a_need_of => k_is)
      (case l_need_of => k_is)
      (case c_need_of => k_is)
      (case k_need_of => k_is)
      (case a_check_rule => k_is)
      (case l_check_rule => k_is)
      (case c_check_rule => k_is)
      (case k_check_rule => k_is)
      (case a_check_enough => k_is)
      (case l_check_enough => k_is)
      (case c_check_enough => k_is)
      (case k_check_enough => k_is)
      (case a_check_covered => k_is)
      (case l_check_covered => k_is)
      (case c_check_covered => k_is)
      (case k_check_covered => k_is)
      (case a__law_cell => k_is)
      (case l__law_cell => k_is)
      (case c__law_cell => k_is)
      (case k__law_cell => k_is)
      (case a__law_draw => k_is)
      (case l__law_draw => k_is)
      (case c__law_draw => k_is)
      (case k__law_draw => k_is)
      (case a__law_great => k_is)
      (case l__law_great => k_is)
      (case c__law_great => k_is)
      (case k__law_great => k_is)
      (case a__law_amount => k_is)
      (case l__law_amount => k_is)
      (case c__law_amount => k_is)
      (case k__law_amount => k_is)
      (case a__law_coins => k_is)
      (case l__law_coins => k_is)
      (case c__law_coins => k_is)
      (case k__law_coins => k_is)
      (case a__law_member => k_is)
      (case l__law_member => k_is)
      (case c__law_member => k_is)
      (case k__law_member => k_is)
      (case a__law_name => k_is)
      (case l__law_name => k_is)
      (case c__law_name => k_is)
      (case k__law_name => k_is)
      (case a__law_done => k_is)
      (case l__law_done => k_is)
      (case c__law_done => k_is)
      (case k__law_done => k_is)
      (case a__law_found => k_is)
      (case l__law_found => k_is)
      (case c__law_found => k_is)
      (case k__law_found => k_is)
      (case a__law_due => k_is)
      (case l__law_due => k_is)
      (case c__law_due => k_is)
      (case k__law_due => k_is)
      (case a__law_stands => k_is)
      (case l__law_stands => k_is)
      (case c__law_stands => k_is)
      (case k__law_stands => k_is)
      (case a__law_tried => k_is)
      (case l__law_tried => k_is)
      (case c__law_tried => k_is)
      (case k__law_tried => k_is)
      (case a_law => k_is)
      (case l_law => k_is)
      (case c_law => k_is)
      (case k_law => k_is)
      (case cq_worst_days => exact rfl)
      (case lc_worst_days => k_is)
      (case ve_worst_days => exact rfl)
      (case w_ValueError => k_is)
      (case w_abs => k_is)
      (case w_bool => k_is)
      (case w_enumerate => k_is)
      (case w_int => k_is)
      (case w_isinstance => k_is)
      (case w_len => k_is)
      (case w_list => k_is)
      (case w_max => k_is)
      (case w_min => k_is)
      (case w_range => k_is)
      (case w_sorted => k_is)
      (case w_sum => k_is)
      (case w_tuple => k_is)
      (case w_zip => k_is)
