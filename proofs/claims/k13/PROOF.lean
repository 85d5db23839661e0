import PyProof.Rows.All
import Wide.All
import OpenK.AllK
import Wide.FinOn
import Lean
import PyProof.EqAt
import PyProof.EqKinds
import PyProof.TupleCall
import PyProof.CompFree
import PyProof.Cells
import KE.KTryMore
import PyProof.ExcBaseAll.ValueError
import PyProof.ExcAttrAll.ValueError
import PyProof.EnumFor
import PyProof.EnumStmt
import PyProof.EnumMake
import PyProof.ZipIter
import PyProof.SumAny
import PyProof.MinMaxWalk
import PyProof.ConsumeWalk
import PyProof.Rows.EnumRows
import PyProof.Rows.FactsT2
import PyProof.Rows.SeqGen
import PyProof.ListRange
import PyProof.Rows.SortShell
import PyProof.Rows.SortWalk
import PySem.Challenge.RW_quits_k13_ringed
set_option compiler.extract_closed false
set_option Elab.async false
set_option linter.all false
set_option maxRecDepth 100000
namespace Internal
theorem aut0 (h : True := by first | exact .inl rfl | exact .inr rfl | assumption) : True := h
theorem aut1 (h : True := by decide) : True := h
theorem aut2 (h : True := by rfl) : True := h
theorem aut3 (h : True := by intro _; rfl) : True := h
theorem aut4 (h : True := by with_unfolding_all rfl) : True := h
open PySem PySem.Spec PyProof.Rows

noncomputable abbrev Key := Sum Int Str
noncomputable def keyIs : Key → Value → Bool
  | .inl k, v => Value.isInt k v
  | .inr x, v => Value.isStrOf x v
noncomputable def keyH (w : World) : Key → Int
  | .inl k => hashInt k
  | .inr x => hashStr w x
theorem keyIs_shape : ∀ {k : Key} {v : Value}, keyIs k v = true → (∃ i t, k = Sum.inl i ∧ v = Value.int i t) ∨ (∃ x t, k = Sum.inr x ∧ v = Value.str x t)
  | .inl i, v, h => by
    obtain ⟨t, e⟩ := Value.isInt_shape (k := i) (v := v) h
    exact .inl ⟨i, t, rfl, e⟩
  | .inr x, v, h => by
    obtain ⟨t, e⟩ := Value.isStrOf_shape (x := x) (v := v) h
    exact .inr ⟨x, t, rfl, e⟩
theorem key_ll (a b : Int) : decide ((Sum.inl a : Key) = Sum.inl b) = (a == b) := by
  by_cases e : a = b
  · subst e; simp
  · have h : ¬ (Sum.inl a : Key) = Sum.inl b := fun q => e (Sum.inl.inj q)
    rw [decide_eq_false h]
    exact (beq_eq_false_iff_ne.mpr e).symm
theorem key_rr (a b : Str) : decide ((Sum.inr a : Key) = Sum.inr b) = decide (a = b) := by
  by_cases e : a = b
  · subst e; simp
  · have h : ¬ (Sum.inr a : Key) = Sum.inr b := fun q => e (Sum.inr.inj q)
    rw [decide_eq_false h, decide_eq_false e]
theorem key_lr (a : Int) (b : Str) : decide ((Sum.inl a : Key) = Sum.inr b) = false := decide_eq_false (fun q => nomatch q)
theorem key_rl (a : Str) (b : Int) : decide ((Sum.inr a : Key) = Sum.inl b) = false := decide_eq_false (fun q => nomatch q)

noncomputable def mixKind (prog : Program) (w : World) : PySem.KeyKind prog w Key where
  is := keyIs
  hash := keyH w
  inj := fun v a b ha hb => by
    rcases keyIs_shape ha with ⟨i, t, rfl, rfl⟩ | ⟨x, t, rfl, rfl⟩
    · rcases keyIs_shape hb with ⟨j, u, rfl, e⟩ | ⟨y, u, rfl, e⟩
      · injection e with e1 _; rw [e1]
      · exact nomatch e
    · rcases keyIs_shape hb with ⟨j, u, rfl, e⟩ | ⟨y, u, rfl, e⟩
      · exact nomatch e
      · injection e with e1 _; rw [e1]
  byValue := fun k v h => by
    rcases keyIs_shape h with ⟨i, t, rfl, rfl⟩ | ⟨x, t, rfl, rfl⟩ <;> rfl
  pyHash := fun hv h => by
    rcases keyIs_shape hv with ⟨i, t, rfl, rfl⟩ | ⟨x, t, rfl, rfl⟩
    · exact wpAny_pyHash_int h
    · exact wpAny_pyHash_str h
  eqBool := fun hu hv h => by
    rcases keyIs_shape hu with ⟨i, t, rfl, rfl⟩ | ⟨x, t, rfl, rfl⟩
    · rcases keyIs_shape hv with ⟨j, u, rfl, rfl⟩ | ⟨y, u, rfl, rfl⟩
      · rw [key_ll] at h; exact wpAny_eqBool_int h
      · rw [key_lr] at h; exact SeqAt.EqAt.int_str i t y u _ _ _ _ h
    · rcases keyIs_shape hv with ⟨j, u, rfl, rfl⟩ | ⟨y, u, rfl, rfl⟩
      · rw [key_rl] at h; exact SeqAt.EqAt.str_int x t j u _ _ _ _ h
      · rw [key_rr] at h; exact wpAny_eqBool_str h
  «strs» := fun k x t v h => by
    rcases keyIs_shape h with ⟨i, u, rfl, e⟩ | ⟨y, u, rfl, e⟩
    · exact nomatch e
    · injection e with e1 _
      subst e1
      cases v <;> rfl

end Internal

namespace Internal
open PySem PySem.Spec PyProof.Rows

inductive V where
  | non | bl (b : Bool) | int (i : Int) | str (x : Str) | byt (b : Array UInt8) | flt (b : UInt64) | ref (a : Addr) | ty (n : String)
  deriving DecidableEq

noncomputable def RelV : V → Value → Prop
  | .non, u => u = Value.none
  | .bl b, u => u = Value.bool b
  | .int i, u => ∃ t, u = Value.int i t
  | .str x, u => ∃ t, u = Value.str x t
  | .byt b, u => ∃ t, u = Value.bytes b t
  | .flt b, u => ∃ t, u = Value.float b t
  | .ref a, u => u = Value.ref a
  | .ty n, u => u = Value.type n

noncomputable abbrev Vals : List V → List Value → Prop := Paired RelV
theorem Vals.length {xs : List V} {us : List Value} (r : Vals xs us) : xs.length = us.length := Paired.length r
theorem Vals.get : ∀ {xs : List V} {us : List Value} {i : Nat} {x : V}, Vals xs us → xs[i]? = some x → ∃ u, us[i]? = some u ∧ RelV x u
  | _, _, _, _, .nil, e => by simp at e
  | _, _, 0, _, .cons r _, e => by simp at e; subst e; exact ⟨_, rfl, r⟩
  | _, _, i + 1, x, .cons _ t, e => by
    obtain ⟨u, h1, h2⟩ := Vals.get (i := i) (x := x) t (by simpa using e)
    exact ⟨u, by simpa using h1, h2⟩
theorem Vals.set {x : V} {u : Value} (r : RelV x u) : ∀ {xs : List V} {us : List Value} (i : Nat), Vals xs us → Vals (xs.set i x) (us.set i u)
  | _, _, _, .nil => .nil
  | _, _, 0, .cons _ t => .cons r t
  | _, _, i + 1, .cons q t => .cons q (Vals.set r i t)
theorem Vals.append : ∀ {xs ys : List V} {us ws : List Value}, Vals xs us → Vals ys ws → Vals (xs ++ ys) (us ++ ws)
  | _, _, _, _, .nil, s => s
  | _, _, _, _, .cons r t, s => .cons r (Vals.append t s)
theorem Vals.take : ∀ {xs : List V} {us : List Value} (n : Nat), Vals xs us → Vals (xs.take n) (us.take n)
  | _, _, 0, _ => .nil
  | _, _, _ + 1, .nil => .nil
  | _, _, n + 1, .cons r t => .cons r (Vals.take n t)
theorem Vals.drop : ∀ {xs : List V} {us : List Value} (n : Nat), Vals xs us → Vals (xs.drop n) (us.drop n)
  | _, _, 0, r => r
  | _, _, _ + 1, .nil => .nil
  | _, _, n + 1, .cons _ t => Vals.drop n t
noncomputable def RelO : Option V → Option Value → Prop
  | some v, some u => RelV v u
  | none, none => True
  | _, _ => False
noncomputable def KV {κ : Type} : List (κ × V) → List (κ × Value) → Prop := Paired fun (p : κ × V) (q : κ × Value) => p.1 = q.1 ∧ RelV p.2 q.2

noncomputable def kV : Key → V
  | .inl i => .int i
  | .inr x => .str x

inductive HO where
  /-- a list -/
  | lst (xs : List V)
  /-- a tuple (never changes) -/
  | tup (xs : List V)
  /-- a dict whose keys are ints and texts; one whose keys are tuples of ints and texts (the empty one is both) -/
  | dK (kvs : List (Key × V)) | dT (kvs : List (List Key × V))
  /-- a set of ints: its members, its size -/
  | set (S : Int → Bool) (n : Nat)
  /-- an instance of the class at C, its dict at dx, its attributes -/
  | ins (C dx : Addr) (fs : List (Str × V))
  /-- the dict of the instance at x -/
  | own (x : Addr)
  /-- the dict of an exception -/
  | xd (fs : List (Str × V))
  /-- a bound method, f of x -/
  | met (f x : Addr)
  /-- a range object lo, lo + 1, .. below hi -/
  | rng (lo hi : Int)
  /-- a thing that is known to the object (the script; a dict while a loop walks it): read, never written while it is so -/
  | frz (o : Obj) (u : HO)
  /-- a code object's table -/
  | tbl (ps : Array Value)
  /-- any other thing, by what is true of its one object (a def of one's own: SetO a S n := HO.ext fun h => ..) -/
  | ext (φ : Heap → Prop)

noncomputable abbrev Hp := Addr → Option HO
noncomputable def upd (H : Hp) (a : Addr) (o : HO) : Hp := fun b => if b = a then some o else H b
theorem upd_same {H : Hp} {a : Addr} {o : HO} : upd H a o a = some o := by unfold upd; rw [if_pos rfl]
theorem upd_ne {H : Hp} {a b : Addr} {o : HO} (h : b ≠ a) : upd H a o b = H b := by unfold upd; rw [if_neg h]
theorem ne_of {H : Hp} {a b : Addr} {o u : HO} (h : H a = some o) (h' : H b = some u) (d : o ≠ u) : a ≠ b := by
  intro e; subst e; rw [h] at h'; exact d (Option.some.inj h')
theorem ne_of_none {H : Hp} {a b : Addr} {o : HO} (h : H a = some o) (h' : H b = none) : a ≠ b := by
  intro e; subst e; rw [h] at h'; cases h'

section
variable (P : Program) (w : World)
noncomputable def ObjOk (H : Hp) (h : Heap) (a : Addr) : HO → Prop
  | .lst xs => xs.length ≤ sizeLine ∧ ∃ (its : List Value) (n : Nat), Vals xs its ∧ h.get? a = some { cls := .type "list", data := .seq its.toArray n }
  | .tup xs => xs.length ≤ sizeLine ∧ ∃ its : List Value, Vals xs its ∧ IsTup h a its.toArray
  | .dK kvs => kvs.length ≤ sizeLine ∧ (a == sysModules) = false ∧ ∃ vs, KV kvs vs ∧ h.DictOf (mixKind P w) a vs
  | .dT kvs => kvs.length ≤ sizeLine ∧ (a == sysModules) = false ∧ ∃ xs : List (List Key × Addr × Value),
      Paired (fun (p : List Key × V) (q : List Key × Addr × Value) => p.1 = q.1 ∧ H q.2.1 = some (.tup (p.1.map kV)) ∧ RelV p.2 q.2.2) kvs xs ∧
      ∃ o es ep, h.get? a = some o ∧ o.ExactDict ∧ o.data = .dict es ep ∧ es.toList = xs.map (entryOfKey (tupleKind (mixKind P w))) ∧ (xs.map (·.1)).Nodup
  | .set S n => h.SetOf (intKind P w) a S n
  | .ins C dx fs => H dx = some (.own a) ∧ fs.length ≤ 1000 ∧ dx ≠ a ∧ h.get? a = some (PySem.W.instObj C dx) ∧
      ∃ mA, h.Ns1 dx mA ∧ (∀ f, RelO (fs.lookup f) (mA f)) ∧ PySem.Within mA (fs.map (·.1))
  | .own _ => ∃ o, h.get? a = some o
  | .xd fs => ∃ mA, h.Ns1 a mA ∧ ∀ f, RelO (fs.lookup f) (mA f)
  | .rng lo hi => ∃ t u v, h.get? a = some { cls := .type "range", data := .fields #[.int lo t, .int hi u, .int 1 v] }
  | .frz o u => h.get? a = some o ∧ ObjOk H h a u
  | .tbl ps => h.get? a = some { cls := .none, data := .fields ps }
  | .met f x => h.get? a = some (PySem.W.methodObj (.ref f) (.ref x))
  | .ext φ => φ h ∧ (∃ o, h.get? a = some o) ∧ ∀ h1 h2 : Heap, φ h1 → (∀ o, h1.get? a = some o → h2.get? a = some o) → φ h2
noncomputable def HOk (H : Hp) (h : Heap) : Prop := ∀ a o, H a = some o → ObjOk P w H h a o
end

section
variable {P : Program} {w : World} {H H' : Hp} {h h' : Heap} {a : Addr} {o : HO}
theorem ObjOk.lt (x : ObjOk P w H h a o) : a < h.objs.size := by
  cases o with
  | lst xs => obtain ⟨_, _, _, _, e⟩ := x; exact Heap.lt_size e
  | tup xs => obtain ⟨_, _, _, p⟩ := x; exact p.lt
  | dK kvs => obtain ⟨_, _, _, _, o, _, _, e, _⟩ := x; exact Heap.lt_size e
  | dT kvs => obtain ⟨_, _, _, _, o, _, _, e, _⟩ := x; exact Heap.lt_size e
  | set S n => obtain ⟨o, _, _, _, e, _⟩ := x; exact Heap.lt_size e
  | ins C dx fs => obtain ⟨_, _, _, e, _⟩ := x; exact Heap.lt_size e
  | own y => obtain ⟨_, e⟩ := x; exact Heap.lt_size e
  | xd fs => obtain ⟨_, ⟨_, _, _, e, _⟩, _⟩ := x; exact Heap.lt_size e
  | rng lo hi => obtain ⟨_, _, _, e⟩ := x; exact Heap.lt_size e
  | frz ob u => obtain ⟨e, _⟩ := x; exact Heap.lt_size e
  | tbl ps => exact Heap.lt_size (show h.get? a = some _ from x)
  | met f y => exact Heap.lt_size (show h.get? a = some _ from x)
  | ext φ => obtain ⟨_, ⟨_, e⟩, _⟩ := x; exact Heap.lt_size e
theorem Paired.mapP {α β : Type} {F G : α → β → Prop} : ∀ {l₁ : List α} {l₂ : List β}, Paired F l₁ l₂ → (∀ a b, F a b → G a b) → Paired G l₁ l₂
  | _, _, .nil, _ => .nil
  | _, _, .cons r t, f => .cons (f _ _ r) (Paired.mapP t f)
theorem ObjOk.stay (x : ObjOk P w H h a o) (k : ∀ b u, (b = a ∨ H b = some (.own a)) → h.get? b = some u → h'.get? b = some u)
    (ho : ∀ b, H b = some (.own a) → H' b = some (.own a)) (ht : ∀ b xs, H b = some (.tup xs) → H' b = some (.tup xs)) : ObjOk P w H' h' a o := by
  induction o with
  | lst xs => obtain ⟨z, its, n, r, e⟩ := x; exact ⟨z, its, n, r, k _ _ (.inl rfl) e⟩
  | tup xs => obtain ⟨z, its, r, ob, e, c⟩ := x; exact ⟨z, its, r, ob, k _ _ (.inl rfl) e, c⟩
  | dK kvs => obtain ⟨z, y, vs, r, ob, es, ep, e, c⟩ := x; exact ⟨z, y, vs, r, ob, es, ep, k _ _ (.inl rfl) e, c⟩
  | dT kvs =>
    obtain ⟨z, y, xs, r, ob, es, ep, e, c⟩ := x
    exact ⟨z, y, xs, Paired.mapP r fun p q z => ⟨z.1, ht _ _ z.2.1, z.2.2⟩, ob, es, ep, k _ _ (.inl rfl) e, c⟩
  | set S n => obtain ⟨ob, es, ep, t, e, c⟩ := x; exact ⟨ob, es, ep, t, k _ _ (.inl rfl) e, c⟩
  | ins C dx fs =>
    obtain ⟨d, z, ne, e, mA, ⟨od, es, ep, e2, c⟩, r⟩ := x
    exact ⟨ho _ d, z, ne, k _ _ (.inl rfl) e, mA, ⟨od, es, ep, k _ _ (.inr d) e2, c⟩, r⟩
  | own y => obtain ⟨ob, e⟩ := x; exact ⟨ob, k _ _ (.inl rfl) e⟩
  | xd fs => obtain ⟨mA, ⟨od, es, ep, e, c⟩, r⟩ := x; exact ⟨mA, ⟨od, es, ep, k _ _ (.inl rfl) e, c⟩, r⟩
  | rng lo hi => obtain ⟨t, u, v, e⟩ := x; exact ⟨t, u, v, k _ _ (.inl rfl) e⟩
  | frz ob u ih => obtain ⟨e, q⟩ := x; exact ⟨k _ _ (.inl rfl) e, ih q⟩
  | tbl ps =>
    have e : h.get? a = some { cls := .none, data := .fields ps } := x
    show h'.get? a = some { cls := .none, data := .fields ps }
    exact k a _ (.inl rfl) e
  | met f y =>
    have e : h.get? a = some (PySem.W.methodObj (.ref f) (.ref y)) := x
    show h'.get? a = some (PySem.W.methodObj (.ref f) (.ref y))
    exact k a _ (.inl rfl) e
  | ext φ => obtain ⟨p, ⟨o, e⟩, st⟩ := x; exact ⟨st _ _ p fun o q => k _ _ (.inl rfl) q, ⟨o, k _ _ (.inl rfl) e⟩, st⟩
theorem HOk.lt (x : HOk P w H h) (e : H a = some o) : a < h.objs.size := (x a o e).lt
theorem HOk.fresh (x : HOk P w H h) (e : h.objs.size ≤ a) : H a = none := by
  cases q : H a with
  | none => rfl
  | some u => exact absurd (Nat.lt_of_lt_of_le (x.lt q) e) (Nat.lt_irrefl _)
theorem HOk.kept (x : HOk P w H h) (k : ∀ b u, h.get? b = some u → h'.get? b = some u) : HOk P w H h' := fun a o e =>
  (x a o e).stay (fun b u _ q => k b u q) (fun _ q => q) fun _ _ q => q
theorem HOk.laid (x : HOk P w H h) (k : ∀ b u, h.get? b = some u → h'.get? b = some u) (hp : h.objs.size ≤ a) (new : ObjOk P w (upd H a o) h' a o) : HOk P w (upd H a o) h' := fun b u e => by
  have hn := x.fresh hp
  by_cases hb : b = a
  · subst hb; rw [upd_same] at e; cases e; exact new
  · rw [upd_ne hb] at e
    exact (x b u e).stay (fun c v _ q => k c v q) (fun c q => by rw [upd_ne (ne_of_none q hn)]; exact q) fun c xs q => by rw [upd_ne (ne_of_none q hn)]; exact q
end

noncomputable def Rd (H : Hp) (a : Addr) (u : HO) : Prop := H a = some u ∨ ∃ o, H a = some (.frz o u)
theorem Rd.ok {P : Program} {w : World} {H : Hp} {h : Heap} {a : Addr} {u : HO} (r : Rd H a u) (x : HOk P w H h) : ObjOk P w H h a u := by
  rcases r with r | ⟨o, r⟩
  · exact x a u r
  · obtain ⟨_, q⟩ := x a _ r
    exact q
noncomputable def Mut : Option HO → Prop
  | some (.lst _) => True
  | some (.dK _) => True
  | some (.dT _) => True
  | some (.set _ _) => True
  | some (.ins _ _ _) => True
  | some (.ext _) => True
  | _ => False
section
variable {P : Program} {w : World} {H : Hp} {h h' : Heap} {x e : Addr} {o' : HO}
theorem HOk.write (ok : HOk P w H h) (mu : Mut (H x)) (he : e = x ∨ H e = some (.own x)) (k : ∀ b u, b ≠ e → h.get? b = some u → h'.get? b = some u) (heo : ∃ u, h'.get? e = some u)
    (new : ObjOk P w (upd H x o') h' x o') : HOk P w (upd H x o') h' := fun b u q => by
  have nown : ∀ c y, H c = some (.own y) → c ≠ x := fun c y r z => by subst z; rw [r] at mu; exact mu
  have ntup : ∀ c xs, H c = some (.tup xs) → c ≠ x := fun c xs r z => by subst z; rw [r] at mu; exact mu
  by_cases hb : b = x
  · subst hb; rw [upd_same] at q; cases q; exact new
  · rw [upd_ne hb] at q
    by_cases hbe : b = e
    · have q' : H b = some (.own x) := by
        rcases he with z | z
        · exact absurd (hbe.trans z) hb
        · rw [hbe]; exact z
      rw [q] at q'; cases q'
      obtain ⟨v, hv⟩ := heo
      exact ⟨v, by rw [hbe]; exact hv⟩
    · refine (ok b u q).stay (fun c v hc r => k c v ?_ r) (fun c r => by rw [upd_ne (nown c b r)]; exact r) fun c xs r => by rw [upd_ne (ntup c xs r)]; exact r
      rcases hc with rfl | hc
      · exact hbe
      · rintro rfl
        rcases he with z | z
        · exact nown c b hc z
        · rw [hc] at z; cases z; exact hb rfl
end

set_option genInjectivity false in
set_option genSizeOf false in
structure Un (fs ex : List Addr) (H H' : Hp) (h h' : Heap) : Prop where
  keep : ∀ b o, h.get? b = some o → H b = none → b ∉ fs → b ∉ ex → h'.get? b = some o
  slot : ∀ b o, h.get? b = some o → H b = none → b ∈ fs → b ∉ ex → ∃ sl, h'.get? b = some { o with slots := sl }
  free : ∀ b o, h.get? b = some o → H b = none → b ∉ ex → H' b = none
  there : ∀ b o, h.get? b = some o → b ∉ ex → ∃ o', h'.get? b = some o'
  tups : ∀ b xs, H b = some (.tup xs) → H' b = some (.tup xs)
  frzs : ∀ b o u, H b = some (.frz o u) → H' b = some (.frz o u)
  tbls : ∀ b ps, H b = some (.tbl ps) → ∃ more, H' b = some (.tbl (ps ++ more))
section
variable {fs fs' ex ex' : List Addr} {H H1 H2 : Hp} {h h1 h2 h' : Heap} {a x e : Addr} {o : HO}
theorem Un.any (u : Un fs ex H H1 h h1) {b : Addr} {ob : Obj} (q : h.get? b = some ob) (n : H b = none) (hx : b ∉ ex) : ∃ sl, h1.get? b = some { ob with slots := sl } := by
  by_cases hb : b ∈ fs
  · exact u.slot b ob q n hb hx
  · exact ⟨ob.slots, u.keep b ob q n hb hx⟩
theorem Un.kept (k : ∀ b u, h.get? b = some u → h'.get? b = some u) : Un fs ex H H h h' :=
  ⟨fun b ob q _ _ _ => k b ob q, fun b ob q _ _ _ => ⟨ob.slots, k b ob q⟩, fun _ _ _ n _ => n, fun b ob q _ => ⟨ob, k b ob q⟩, fun _ _ q => q, fun _ _ _ q => q, fun _ ps q => ⟨#[], by rw [q]; simp⟩⟩
theorem Un.refl : Un fs ex H H h h := Un.kept fun _ _ q => q
theorem Un.laid (k : ∀ b u, h.get? b = some u → h'.get? b = some u) (hp : h.objs.size ≤ a) (hn : H a = none) : Un fs ex H (upd H a o) h h' where
  keep := fun b u q _ _ _ => k b u q
  slot := fun b u q _ _ _ => ⟨u.slots, k b u q⟩
  free := fun b u q n _ => by rw [upd_ne (Nat.ne_of_lt (Nat.lt_of_lt_of_le (Heap.lt_size q) hp))]; exact n
  there := fun b u q _ => ⟨u, k b u q⟩
  tups := fun b xs q => by rw [upd_ne (ne_of_none q hn)]; exact q
  frzs := fun b u xs q => by rw [upd_ne (ne_of_none q hn)]; exact q
  tbls := fun b ps q => ⟨#[], by rw [upd_ne (ne_of_none q hn), q]; simp⟩
theorem Un.write (mu : Mut (H x)) (he : e = x ∨ H e = some (.own x)) (k : ∀ b u, b ≠ e → h.get? b = some u → h'.get? b = some u) (heo : ∃ u, h'.get? e = some u) : Un fs ex H (upd H x o) h h' := by
  have hx : ∀ b, H b = none → b ≠ x := fun b n z => by subst z; rw [n] at mu; exact mu
  have hb : ∀ b, H b = none → b ≠ e := fun b n z => by
    subst z
    rcases he with r | r
    · exact hx b n r
    · rw [n] at r; cases r
  have hm : ∀ b u, H b = some u → ¬ Mut (some u) → b ≠ x := fun b u q nm z => by subst z; rw [q] at mu; exact nm mu
  refine ⟨fun b u q n _ _ => k b u (hb b n) q, fun b u q n _ _ => ⟨u.slots, k b u (hb b n) q⟩, fun b u q n _ => by rw [upd_ne (hx b n)]; exact n, fun b u q _ => ?_,
    fun b xs q => by rw [upd_ne (hm b _ q fun z => z)]; exact q, fun b u xs q => by rw [upd_ne (hm b _ q fun z => z)]; exact q, fun b ps q => ⟨#[], by rw [upd_ne (hm b _ q fun z => z), q]; simp⟩⟩
  by_cases hbe : b = e
  · subst hbe; exact heo
  · exact ⟨u, k b u hbe q⟩
end

noncomputable def trk (h : Heap) (H : Hp) : List Addr := (List.range h.objs.size).filter fun a => (H a).isSome
noncomputable def hidT (h : Heap) (H : Hp) : Heap := PySem.W.hideAll h (trk h H)
theorem hidT_size (h : Heap) (H : Hp) : (hidT h H).objs.size = h.objs.size := PySem.W.hideAll_size _ _
theorem hidT_get {h : Heap} {H : Hp} {b : Addr} {o : Obj} (e : h.get? b = some o) (n : H b = none) : (hidT h H).get? b = some o :=
  PySem.W.hideAll_get _ e fun hm => by
    have q : (H b).isSome = true := (List.mem_filter.mp hm).2
    rw [n] at q; simp at q
theorem of_hidT {h : Heap} {H : Hp} {b : Addr} {o : Obj} (e : (hidT h H).get? b = some o) : h.get? b = some o ∧ H b = none := by
  have e' : h.get? b = some o := PySem.W.of_hideAll (trk h H) e
  refine ⟨e', ?_⟩
  cases q : H b with
  | none => rfl
  | some x =>
    have hm : b ∈ trk h H := List.mem_filter.mpr ⟨List.mem_range.mpr (Heap.lt_size e'), by simp [q]⟩
    have z : (hidT h H).get? b = none := PySem.W.hideAll_none (trk h H) hm
    rw [z] at e; cases e

noncomputable def allNews (g h : Heap) (L : Addr) : List (Addr × Obj) := (List.range h.objs.size).filterMap fun a => if a = L ∨ (g.get? a).isSome = true then none else (h.get? a).map fun o => (a, o)
noncomputable def rest (g h : Heap) (L d : Addr) : List (Addr × Obj) := (allNews g h L).filter fun p => decide (p.1 ≠ d)
end Internal

namespace Internal
open PySem PySem.Spec PyProof.Rows

set_option genInjectivity false in
set_option genSizeOf false in
structure Mod (K : PySem.W.Frag) (mg : Str → Option Value) (base : Heap) : Prop where
  kin : K.In base
  glob : base.Ns mainGlobals mg
  blt : ∃ mb, base.Ns builtinsNs mb ∧ ∀ x : Str, x ≠ "__name__" → mb x = bootBuiltins x
  nolimit : base.NoLimit

set_option genSizeOf false in
structure Cx where
  prog : Program
  w : World
  K : PySem.W.Frag
  mg : Str → Option Value
  base : Heap
  A : Around
  N : List Str
  s₀ : Shared
  H₀ : Hp
  env : Env
  outer : List Env
  stack : List Env
  ex : List Addr
  fn : Str → Bool
  calm : Bool
  pn : List (Addr × Obj)
  xe : Value → Shared → Prop
noncomputable def frs (l : List Env) : List Addr := l.filterMap (·.frame)
noncomputable abbrev Cx.fs (X : Cx) : List Addr := frs X.outer

noncomputable def Vis (sc : Scope) (x : Str) : Prop := sc.names.lookup x = some .local ∨ sc.names.lookup x = some .cell ∨ sc.names.lookup x = some .free
noncomputable def Loc (sc : Scope) (x : Str) : Prop := sc.names.lookup x = some .local ∨ sc.names.lookup x = some .cell
noncomputable def Look (env : Env) (h : Heap) (m : Str → Option Value) (x : Str) (u : Value) : Prop :=
  (env.kindOf x = some .local ∧ m x = some u) ∨ ((env.kindOf x = some .cell ∨ env.kindOf x = some .free) ∧ ∃ c, env.cells.lookup x = some c ∧ h.IsCell c (some u))

set_option genSizeOf false in
structure Cx.Ok (X : Cx) : Prop where
  mod : Mod X.K X.mg X.base
  kind : X.env.scope.kind = .function
  glob : X.env.globals = mainGlobals
  blt : X.env.builtins = builtinsNs
  above : X.s₀.heap.objs.size ≤ X.env.locals
  inj : ∀ x y c, X.env.cells.lookup x = some c → X.env.cells.lookup y = some c → x = y
  has : ∀ x, (X.env.kindOf x = some .cell ∨ X.env.kindOf x = some .free) → ∃ c, X.env.cells.lookup x = some c
  cab : ∀ x c, X.fn x = true → X.env.cells.lookup x = some c → X.s₀.heap.objs.size ≤ c
  hd : X.calm = true → X.A.handled = none
  frames : X.A.frames = some X.stack
  stk : X.stack = X.outer ∨ (X.stack = X.env :: X.outer ∧ X.env.frame = some X.env.locals)
  exf : ∀ b ∈ X.ex, b ≠ X.env.locals ∧ ∀ x c, X.env.cells.lookup x = some c → c ≠ b
  bs : ∀ b o, X.base.get? b = some o → X.s₀.heap.get? b = some o ∧ X.H₀ b = none
  bsz : X.base.objs.size ≤ X.s₀.heap.objs.size
  noex : ∀ b o, X.base.get? b = some o → b ∉ X.ex
  exfs : ∀ b ∈ X.ex, b ∉ X.fs
  funs : X.s₀.heap.FunFrames X.base X.outer
  frf : ∀ b ∈ X.fs, X.H₀ b = none

set_option genInjectivity false in
set_option genSizeOf false in
structure Inv (X : Cx) (pins : List (Addr × Obj)) (σ : List (Option V)) (H : Hp) (s : Shared) : Prop where
  ok : X.Ok
  os : s.os = X.s₀.os
  bare : AllBare s.gens
  base : Un X.fs X.ex X.H₀ H X.s₀.heap s.heap
  loc : ∃ m, s.heap.Ns X.env.locals m ∧ ∀ (i : Nat) (x : Str) (v : V), X.N[i]? = some x → σ[i]? = some (some v) → Vis X.env.scope x → ∃ u, RelV v u ∧ Look X.env s.heap m x u
  cell : ∀ x c, X.env.cells.lookup x = some c → ∃ v, s.heap.IsCell c v
  free : H X.env.locals = none
  freeC : ∀ x c, X.env.cells.lookup x = some c → H c = none
  pin : ∀ p ∈ X.pn ++ pins, s.heap.get? p.1 = some p.2 ∧ H p.1 = none ∧ p.1 ≠ X.env.locals ∧ p.1 ∉ X.fs ∧ ∀ v, p.2.data ≠ .cell v
  hok : HOk X.prog X.w H s.heap
  len : σ.length = X.N.length

section
variable {X : Cx} {pins : List (Addr × Obj)} {σ : List (Option V)} {H H' : Hp} {s : Shared} {h' : Heap}

theorem Cx.Ok.nofr (ok : X.Ok) {b : Addr} {o : Obj} (e : X.base.get? b = some o) : b ∉ X.fs := fun hb => by
  have := (ok.funs.mem hb).1
  rw [e] at this; cases this
theorem Inv.bs (I : Inv X pins σ H s) : ∀ b o, X.base.get? b = some o → s.heap.get? b = some o ∧ H b = none := fun b o e =>
  ⟨I.base.keep b o (I.ok.bs b o e).1 (I.ok.bs b o e).2 (I.ok.nofr e) (I.ok.noex b o e), I.base.free b o (I.ok.bs b o e).1 (I.ok.bs b o e).2 (I.ok.noex b o e)⟩
theorem Inv.bk (I : Inv X pins σ H s) : ∀ b o, X.base.get? b = some o → s.heap.get? b = some o := fun b o e => (I.bs b o e).1
theorem Inv.mod (I : Inv X pins σ H s) : Mod X.K X.mg X.base := I.ok.mod
theorem Inv.kIn (I : Inv X pins σ H s) : X.K.In s.heap := I.ok.mod.kin.keeps I.bk
theorem Inv.lt (I : Inv X pins σ H s) : X.env.locals < s.heap.objs.size := let ⟨_, hn, _⟩ := I.loc; hn.lt
theorem Inv.sz (I : Inv X pins σ H s) : X.s₀.heap.objs.size ≤ s.heap.objs.size := Nat.le_trans I.ok.above (Nat.le_of_lt I.lt)
theorem Inv.nofs (I : Inv X pins σ H s) {a : Addr} (h : s.heap.objs.size ≤ a) : a ∉ X.fs := fun hb => by
  obtain ⟨_, o, ho, _⟩ := I.ok.funs.mem hb
  exact absurd (Nat.lt_of_lt_of_le (Heap.lt_size ho) (Nat.le_trans I.sz h)) (Nat.lt_irrefl _)
theorem Inv.cne (I : Inv X pins σ H s) : ∀ x c, X.env.cells.lookup x = some c → c ≠ X.env.locals := fun x c e z => by
  obtain ⟨v, o, ho, hd⟩ := I.cell x c e
  obtain ⟨m, ⟨o', es, ep, ho', hd', _⟩, _⟩ := I.loc
  rw [z, ho'] at ho; cases ho; rw [hd'] at hd; cases hd
theorem Inv.funs (I : Inv X pins σ H s) : s.heap.FunFrames X.base X.outer := by
  have all : ∀ (l : List Env), (∀ b ∈ frs l, b ∈ X.fs) → X.s₀.heap.FunFrames X.base l → s.heap.FunFrames X.base l := by
    intro l
    induction l with
    | nil => intro _ _; trivial
    | cons env r ih =>
      intro hs hl
      obtain ⟨hk, ⟨L, o, hf, hn, ho, hd⟩, hr⟩ := hl
      have hL : L ∈ X.fs := hs L (by unfold frs; rw [List.filterMap_cons, hf]; exact List.mem_cons_self)
      obtain ⟨sl, e⟩ := I.base.slot L o ho (I.ok.frf L hL) hL fun z => I.ok.exfs L z hL
      exact ⟨hk, ⟨L, _, hf, hn, e, hd⟩, ih (fun b hb => hs b (by unfold frs; rw [List.filterMap_cons, hf]; exact List.mem_cons_of_mem _ hb)) hr⟩
  exact all X.outer (fun _ hb => hb) I.ok.funs

theorem Inv.stack (I : Inv X pins σ H s) : s.heap.FunFrames X.base X.stack := by
  rcases I.ok.stk with e | ⟨e, hf⟩
  · rw [e]; exact I.funs
  · rw [e]
    obtain ⟨m, hn, _⟩ := I.loc
    refine .cons (by rw [I.ok.kind]; decide) hf hn ?_ I.funs
    exact Heap.get?_none_of_le (Nat.le_trans I.ok.bsz I.ok.above)
theorem Inv.stkSub (I : Inv X pins σ H s) : ∀ b ∈ frs X.stack, b ∈ X.env.locals :: X.fs := fun b hb => by
  rcases I.ok.stk with e | ⟨e, hf⟩
  · rw [e] at hb; exact List.mem_cons_of_mem _ hb
  · rw [e] at hb
    unfold frs at hb
    rw [List.filterMap_cons, hf] at hb
    exact hb
theorem Inv.stkFree (I : Inv X pins σ H s) : ∀ b ∈ frs X.stack, H b = none := fun b hb => by
  rcases List.mem_cons.mp (I.stkSub b hb) with e | hb
  · rw [e]; exact I.free
  · obtain ⟨_, o, ho, _⟩ := I.ok.funs.mem hb
    exact I.base.free b o ho (I.ok.frf b hb) fun z => I.ok.exfs b z hb

theorem Inv.step {g' : Array GenState} {t' : Nat} {d' : Drawn} {ch : List Addr} (I : Inv X pins σ H s)
    (hch : ∀ b ∈ ch, (b ∈ X.ex ∨ X.s₀.heap.objs.size ≤ b) ∧ b ≠ X.env.locals ∧ (∀ x c, X.env.cells.lookup x = some c → c ≠ b) ∧ ∀ p ∈ X.pn ++ pins, p.1 ≠ b)
    (keep : ∀ b o, b ≠ X.env.locals → b ∉ X.fs → b ∉ ch → s.heap.get? b = some o → H b = none → h'.get? b = some o)
    (slot : ∀ b o, b ≠ X.env.locals → b ∈ X.fs → b ∉ ch → s.heap.get? b = some o → H b = none → ∃ sl, h'.get? b = some { o with slots := sl }) (free : ∀ b o, b ∉ ch → s.heap.get? b = some o → H b = none → H' b = none)
    (there : ∀ b o, b ∉ ch → s.heap.get? b = some o → ∃ o', h'.get? b = some o')
    (tups : ∀ b xs, H b = some (.tup xs) → H' b = some (.tup xs)) (frzs : ∀ b o u, H b = some (.frz o u) → H' b = some (.frz o u)) (tbls : ∀ b ps, H b = some (.tbl ps) → ∃ more, H' b = some (.tbl (ps ++ more)))
    (ns : ∀ m, s.heap.Ns X.env.locals m → h'.Ns X.env.locals m) (hok : HOk X.prog X.w H' h') (hg : AllBare g') :
    Inv X pins σ H' { s with heap := h', gens := g', drawn := d', toks := t' } := by
  have neL : ∀ b o, X.s₀.heap.get? b = some o → b ≠ X.env.locals := fun b o e => Nat.ne_of_lt (Nat.lt_of_lt_of_le (Heap.lt_size e) I.ok.above)
  have neC : ∀ b o, X.s₀.heap.get? b = some o → b ∉ X.ex → b ∉ ch := fun b o e hx hb => by
    rcases (hch b hb).1 with z | z
    · exact hx z
    · exact absurd (Nat.lt_of_lt_of_le (Heap.lt_size e) z) (Nat.lt_irrefl _)
  have cellK : ∀ x c, X.env.cells.lookup x = some c → ∀ v, s.heap.IsCell c v → h'.IsCell c v := fun x c e v ⟨o, ho, hd⟩ => by
    have nch : c ∉ ch := fun z => (hch c z).2.2.1 x c e rfl
    by_cases hc : c ∈ X.fs
    · obtain ⟨sl, q⟩ := slot c o (I.cne x c e) hc nch ho (I.freeC x c e)
      exact ⟨_, q, hd⟩
    · exact ⟨o, keep c o (I.cne x c e) hc nch ho (I.freeC x c e), hd⟩
  refine ⟨I.ok, I.os, hg, ⟨fun b o e n hb hx => ?_, fun b o e n hb hx => ?_, fun b o e n hx => ?_, fun b o e hx => ?_, fun b xs e => tups b xs (I.base.tups b xs e), fun b o xs e => frzs b o xs (I.base.frzs b o xs e), fun b ps e => ?_⟩, ?_, fun x c e => ?_, ?_, fun x c e => ?_, fun p hp => ?_, hok, I.len⟩
  · exact keep b o (neL b o e) hb (neC b o e hx) (I.base.keep b o e n hb hx) (I.base.free b o e n hx)
  · obtain ⟨sl, e1⟩ := I.base.slot b o e n hb hx
    obtain ⟨sl', e2⟩ := slot b _ (neL b o e) hb (neC b o e hx) e1 (I.base.free b o e n hx)
    exact ⟨sl', e2⟩
  · obtain ⟨o', e1⟩ := I.base.there b o e hx
    exact free b o' (neC b o e hx) e1 (I.base.free b o e n hx)
  · obtain ⟨o', e1⟩ := I.base.there b o e hx
    exact there b o' (neC b o e hx) e1
  · obtain ⟨m1, e1⟩ := I.base.tbls b ps e
    obtain ⟨m2, e2⟩ := tbls b _ e1
    exact ⟨m1 ++ m2, by rw [e2, Array.append_assoc]⟩
  · obtain ⟨m, hn, hl⟩ := I.loc
    refine ⟨m, ns m hn, fun i x v e1 e2 e3 => ?_⟩
    obtain ⟨u, r, l⟩ := hl i x v e1 e2 e3
    refine ⟨u, r, ?_⟩
    rcases l with l | ⟨k, c, e, z⟩
    · exact .inl l
    · exact .inr ⟨k, c, e, cellK x c e _ z⟩
  · obtain ⟨v, z⟩ := I.cell x c e
    exact ⟨v, cellK x c e v z⟩
  · obtain ⟨m, ⟨o, _, _, ho, _⟩, _⟩ := I.loc
    exact free _ o (fun z => (hch _ z).2.1 rfl) ho I.free
  · obtain ⟨v, o, ho, hd⟩ := I.cell x c e
    exact free c o (fun z => (hch c z).2.2.1 x c e rfl) ho (I.freeC x c e)
  · obtain ⟨e, n, ne, nf, d⟩ := I.pin p hp
    have nch : p.1 ∉ ch := fun z => (hch p.1 z).2.2.2 p hp rfl
    exact ⟨keep p.1 p.2 ne nf nch e n, free p.1 p.2 nch e n, ne, nf, d⟩
theorem Inv.un {t' : Nat} (I : Inv X pins σ H s) (u : Un X.fs [] H H' s.heap h') (hok : HOk X.prog X.w H' h') : Inv X pins σ H' { s with heap := h', toks := t' } := by
  obtain ⟨m, ⟨o, es, ep, ho, r⟩, _⟩ := id I.loc
  obtain ⟨sl, hL⟩ := u.any ho I.free (by simp)
  exact I.step (g' := s.gens) (d' := s.drawn) (ch := []) (fun _ z => nomatch z) (fun b o _ hb _ e n => u.keep b o e n hb (by simp)) (fun b o _ hb _ e n => u.slot b o e n hb (by simp)) (fun b o _ e n => u.free b o e n (by simp)) (fun b o _ e => u.there b o e (by simp)) u.tups u.frzs u.tbls (fun m' hm => by
    obtain ⟨o', es', ep', ho', r'⟩ := hm
    rw [ho] at ho'; cases ho'
    exact ⟨_, es', ep', hL, r'⟩) hok I.bare
theorem Inv.call {g' : Array GenState} {t' : Nat} {d' : Drawn} {ch : List Addr} (I : Inv X pins σ H s) (u : Un (frs X.stack) ch H H' s.heap h') (hok : HOk X.prog X.w H' h') (hg : AllBare g')
    (hch : ∀ b ∈ ch, (b ∈ X.ex ∨ X.s₀.heap.objs.size ≤ b) ∧ b ≠ X.env.locals ∧ (∀ x c, X.env.cells.lookup x = some c → c ≠ b) ∧ ∀ p ∈ X.pn ++ pins, p.1 ≠ b) :
    Inv X pins σ H' { s with heap := h', gens := g', drawn := d', toks := t' } := by
  obtain ⟨m, ⟨o, es, ep, ho, r⟩, _⟩ := id I.loc
  obtain ⟨sl, hL⟩ := u.any ho I.free fun z => (hch _ z).2.1 rfl
  exact I.step (ch := ch) hch (fun b o hL hb hc e n => u.keep b o e n (fun z => (List.mem_cons.mp (I.stkSub b z)).elim hL hb) hc) (fun b o _ _ hc e n => u.any e n hc) (fun b o hc e n => u.free b o e n hc) (fun b o hc e => u.there b o e hc) u.tups u.frzs u.tbls (fun m' hm => by
    obtain ⟨o', es', ep', ho', r'⟩ := hm
    rw [ho] at ho'; cases ho'
    exact ⟨_, es', ep', hL, r'⟩) hok hg
theorem Inv.turned {t' : Nat} {it : Addr} (I : Inv X pins σ H s) (k : ∀ b o, b ≠ it → s.heap.get? b = some o → h'.get? b = some o) (hn : H it = none) (hL : it ≠ X.env.locals)
    (h1 : it ∈ X.ex ∨ X.s₀.heap.objs.size ≤ it) (h2 : ∀ x c, X.env.cells.lookup x = some c → c ≠ it) (h3 : ∀ p ∈ X.pn ++ pins, p.1 ≠ it) : Inv X pins σ H { s with heap := h', toks := t' } := by
  have nit : ∀ b u, H b = some u → b ≠ it := fun b u e z => by rw [z, hn] at e; cases e
  refine I.step (g' := s.gens) (d' := s.drawn) (ch := [it]) (fun b hb => ?_) (fun b o _ _ hc e _ => k b o (fun z => hc (by simp [z])) e) (fun b o _ _ hc e _ => ⟨o.slots, k b o (fun z => hc (by simp [z])) e⟩) (fun _ _ _ _ n => n)
    (fun b o hc e => ⟨o, k b o (fun z => hc (by simp [z])) e⟩) (fun _ _ e => e) (fun _ _ _ e => e) (fun b ps e => ⟨#[], by rw [e]; simp⟩) (fun m hm => ?_) (fun b u e => ?_) I.bare
  · have e : b = it := by simpa using hb
    subst e
    exact ⟨h1, hL, h2, h3⟩
  · obtain ⟨o, es, ep, ho, r⟩ := hm
    exact ⟨o, es, ep, k _ o (Ne.symm hL) ho, r⟩
  · refine (I.hok b u e).stay (fun c v hc q => k c v ?_ q) (fun _ q => q) fun _ _ q => q
    rcases hc with z | z
    · rw [z]; exact nit b u e
    · exact nit c _ z
theorem Inv.tok (I : Inv X pins σ H s) (t : Nat) : Inv X pins σ H { s with toks := t } := I.un (h' := s.heap) (t' := t) Un.refl I.hok
theorem Inv.kept {t' : Nat} (I : Inv X pins σ H s) (k : ∀ b u, s.heap.get? b = some u → h'.get? b = some u) : Inv X pins σ H { s with heap := h', toks := t' } := I.un (Un.kept k) (I.hok.kept k)
theorem Inv.laid {a : Addr} {o : HO} {t' : Nat} (I : Inv X pins σ H s) (k : ∀ b u, s.heap.get? b = some u → h'.get? b = some u) (hp : s.heap.objs.size ≤ a) (new : ObjOk X.prog X.w (upd H a o) h' a o) :
    Inv X pins σ (upd H a o) { s with heap := h', toks := t' } := I.un (Un.laid k hp (I.hok.fresh hp)) (I.hok.laid k hp new)
theorem Inv.write {x e : Addr} {o : HO} {t' : Nat} (I : Inv X pins σ H s) (mu : Mut (H x)) (he : e = x ∨ H e = some (.own x)) (k : ∀ b u, b ≠ e → s.heap.get? b = some u → h'.get? b = some u) (heo : ∃ u, h'.get? e = some u)
    (new : ObjOk X.prog X.w (upd H x o) h' x o) : Inv X pins σ (upd H x o) { s with heap := h', toks := t' } := I.un (Un.write mu he k heo) (I.hok.write mu he k heo new)
theorem Inv.pins_of {pins' : List (Addr × Obj)} (I : Inv X pins σ H s) (h : ∀ p ∈ pins', s.heap.get? p.1 = some p.2 ∧ H p.1 = none ∧ p.1 ≠ X.env.locals ∧ p.1 ∉ X.fs ∧ ∀ v, p.2.data ≠ .cell v) : Inv X pins' σ H s :=
  ⟨I.ok, I.os, I.bare, I.base, I.loc, I.cell, I.free, I.freeC, fun p hp => (List.mem_append.mp hp).elim (fun z => I.pin p (List.mem_append_left _ z)) (h p), I.hok, I.len⟩

theorem nodup_ix {N : List Str} (hN : N.Nodup) {i j : Nat} {x : Str} (a : N[i]? = some x) (b : N[j]? = some x) : i = j := by
  obtain ⟨h1, e1⟩ := List.getElem?_eq_some_iff.mp a
  obtain ⟨h2, e2⟩ := List.getElem?_eq_some_iff.mp b
  exact (List.getElem_inj hN).mp (e1.trans e2.symm)

theorem store_ok2 {M : Model} {A : Around} {E : Value → Shared → Prop} {i : Nat} {x : Str} {v : V} {u : Value} {Q : Unit → Shared → Prop} (I : Inv X pins σ H s) (hN : X.N.Nodup) (hi : X.N[i]? = some x) (hx : Loc X.env.scope x) (r : RelV v u)
    (h : ∀ s', Inv X pins (σ.set i (some v)) H s' → (∃ a, Heap.SameBut a s.heap s'.heap ∧ (a = X.env.locals ∨ X.env.cells.lookup x = some a)) → Q () s') (hf : autoParam (X.fn x = true ∨ X.env.scope.names.lookup x = some .local) Internal.aut0._auto_1) : wpAny M A (storeName X.env x u) Q E s := by
  obtain ⟨m, hn, hl⟩ := id I.loc
  have hcls : (X.env.scope.kind == .class || (X.env.scope.kind == .module && X.env.locals != X.env.globals)) = false := by rw [I.ok.kind]; rfl
  have hiσ : i < σ.length := by rw [I.len]; exact (List.getElem?_eq_some_iff.mp hi).1
  have cne := I.cne
  have tracked : ∀ {a : Addr} {h' : Heap}, (∃ o, s.heap.get? a = some o ∧ H a = none) → Heap.SameBut a s.heap h' → HOk X.prog X.w H h' := fun {a h'} ha hs b ob e => by
    obtain ⟨_, _, hfree⟩ := ha
    refine (I.hok b ob e).stay (fun c w' hc q => (hs.2 c ?_).trans q) (fun _ q => q) fun _ _ q => q
    rintro rfl
    rcases hc with rfl | hc
    · rw [hfree] at e; cases e
    · rw [hfree] at hc; cases hc
  rcases hx with hk | hk
  · refine wpAny_storeName_local hk hn (fun h' hn' hs => ?_) hcls
    obtain ⟨oL, _, _, hoL, _⟩ := id hn
    refine h _ ⟨I.ok, I.os, I.bare, ⟨fun b o e n hb hx => ?_, fun b o e n hb hx => ?_, I.base.free, fun b o e hx => ?_, I.base.tups, I.base.frzs, I.base.tbls⟩, ⟨_, hn', fun j y v' e1 e2 e3 => ?_⟩, fun y c e => ?_, I.free, I.freeC, fun p hp => ?_, tracked ⟨oL, hoL, I.free⟩ hs, by simpa using I.len⟩ ⟨_, hs, .inl rfl⟩
    · exact (hs.2 b (Nat.ne_of_lt (Nat.lt_of_lt_of_le (Heap.lt_size e) I.ok.above))).trans (I.base.keep b o e n hb hx)
    · obtain ⟨sl, e1⟩ := I.base.slot b o e n hb hx
      exact ⟨sl, (hs.2 b (Nat.ne_of_lt (Nat.lt_of_lt_of_le (Heap.lt_size e) I.ok.above))).trans e1⟩
    · obtain ⟨o', e1⟩ := I.base.there b o e hx
      exact ⟨o', (hs.2 b (Nat.ne_of_lt (Nat.lt_of_lt_of_le (Heap.lt_size e) I.ok.above))).trans e1⟩
    · by_cases hj : j = i
      · subst hj
        rw [hi] at e1; cases e1
        rw [List.getElem?_set_self hiσ] at e2
        cases e2
        exact ⟨u, r, .inl ⟨hk, by simp⟩⟩
      · rw [List.getElem?_set_ne (Ne.symm hj)] at e2
        obtain ⟨u', r', q⟩ := hl j y v' e1 e2 e3
        refine ⟨u', r', ?_⟩
        rcases q with ⟨k, e⟩ | ⟨k, c, e, z⟩
        · refine .inl ⟨k, ?_⟩
          have : y ≠ x := fun e => hj (nodup_ix hN e1 (e ▸ hi))
          simp [this, e]
        · exact .inr ⟨k, c, e, z.sameBut hs (cne y c e)⟩
    · obtain ⟨w', z⟩ := I.cell y c e
      exact ⟨w', z.sameBut hs (cne y c e)⟩
    · obtain ⟨e, n, ne, nf, d⟩ := I.pin p hp
      exact ⟨(hs.2 p.1 ne).trans e, n, ne, nf, d⟩
  · have hfn : X.fn x = true := by
      rcases hf with z | z
      · exact z
      · rw [z] at hk; cases hk
    obtain ⟨c, hc⟩ := I.ok.has x (.inl hk)
    obtain ⟨w', z⟩ := I.cell x c hc
    refine wpAny_storeName_cell I.ok.kind hk hc z (fun h' hc' hs => ?_)
    obtain ⟨oc, hoc, hocd⟩ := id z
    refine h { s with heap := h' } ⟨I.ok, I.os, I.bare, ⟨fun b o e n hb hx => ?_, fun b o e n hb hx => ?_, I.base.free, fun b o e hx => ?_, I.base.tups, I.base.frzs, I.base.tbls⟩, ⟨m, hn.sameBut hs (Ne.symm (cne x c hc)), fun j y v' e1 e2 e3 => ?_⟩, fun y c' e => ?_, I.free, I.freeC, fun p hp => ?_, tracked ⟨oc, hoc, I.freeC x c hc⟩ hs, by simpa using I.len⟩ ⟨c, hs, .inr hc⟩
    · exact (hs.2 b (Nat.ne_of_lt (Nat.lt_of_lt_of_le (Heap.lt_size e) (I.ok.cab x c hfn hc)))).trans (I.base.keep b o e n hb hx)
    · obtain ⟨sl, e1⟩ := I.base.slot b o e n hb hx
      exact ⟨sl, (hs.2 b (Nat.ne_of_lt (Nat.lt_of_lt_of_le (Heap.lt_size e) (I.ok.cab x c hfn hc)))).trans e1⟩
    · obtain ⟨o', e1⟩ := I.base.there b o e hx
      exact ⟨o', (hs.2 b (Nat.ne_of_lt (Nat.lt_of_lt_of_le (Heap.lt_size e) (I.ok.cab x c hfn hc)))).trans e1⟩
    · by_cases hj : j = i
      · subst hj
        rw [hi] at e1; cases e1
        rw [List.getElem?_set_self hiσ] at e2
        cases e2
        exact ⟨u, r, .inr ⟨.inl hk, c, hc, hc'⟩⟩
      · rw [List.getElem?_set_ne (Ne.symm hj)] at e2
        obtain ⟨u', r', q⟩ := hl j y v' e1 e2 e3
        refine ⟨u', r', ?_⟩
        rcases q with q | ⟨k, c', e, z'⟩
        · exact .inl q
        · refine .inr ⟨k, c', e, z'.sameBut hs ?_⟩
          rintro rfl
          exact hj (nodup_ix hN e1 (I.ok.inj _ _ _ e hc ▸ hi))
    · by_cases hcc : c' = c
      · subst hcc; exact ⟨_, hc'⟩
      · obtain ⟨w2, z2⟩ := I.cell y c' e
        exact ⟨w2, z2.sameBut hs hcc⟩
    · obtain ⟨e, n, ne, nf, d⟩ := I.pin p hp
      refine ⟨(hs.2 p.1 ?_).trans e, n, ne, nf, d⟩
      intro q
      rw [q, hoc] at e
      have q' : oc = p.2 := Option.some.inj e
      exact d w' (by rw [← q']; exact hocd)
theorem store_ok {M : Model} {A : Around} {E : Value → Shared → Prop} {i : Nat} {x : Str} {v : V} {u : Value} {Q : Unit → Shared → Prop} (I : Inv X pins σ H s) (hN : X.N.Nodup) (hi : X.N[i]? = some x) (hx : Loc X.env.scope x) (r : RelV v u)
    (h : ∀ s', Inv X pins (σ.set i (some v)) H s' → Q () s') (hf : autoParam (X.fn x = true ∨ X.env.scope.names.lookup x = some .local) Internal.aut0._auto_1) : wpAny M A (storeName X.env x u) Q E s :=
  store_ok2 I hN hi hx r (fun s' I' _ => h s' I') hf
theorem Inv.call' {s' : Shared} {ch : List Addr} (I : Inv X pins σ H s) (ho : s'.os = s.os) (u : Un (frs X.stack) ch H H' s.heap s'.heap) (hok : HOk X.prog X.w H' s'.heap) (hg : AllBare s'.gens)
    (hch : ∀ b ∈ ch, (b ∈ X.ex ∨ X.s₀.heap.objs.size ≤ b) ∧ b ≠ X.env.locals ∧ (∀ x c, X.env.cells.lookup x = some c → c ≠ b) ∧ ∀ p ∈ X.pn ++ pins, p.1 ≠ b) : Inv X pins σ H' s' := by
  obtain ⟨h', g', d', t', o'⟩ := s'
  have e : o' = s.os := ho
  subst e
  exact I.call (g' := g') (t' := t') (d' := d') u hok hg hch
end

noncomputable abbrev XK := Value → Option Addr → Hp → Prop
noncomputable abbrev St := List (Option V)
noncomputable abbrev VK := V → Hp → Prop
noncomputable abbrev TE := St → Hp → VK → Prop
noncomputable abbrev TT := St → Hp → (Bool → Hp → Prop) → Prop
noncomputable abbrev TA := St → Hp → (List V → Hp → Prop) → Prop
set_option genInjectivity false in
set_option genSizeOf false in
structure Ends where
  nx : St → Hp → Prop
  rt : VK
  bk : St → Hp → Prop := fun _ _ => False
  ct : St → Hp → Prop := fun _ _ => False
noncomputable abbrev TS := Ends → St → Hp → Prop

noncomputable def EP (X : Cx) (pins : List (Addr × Obj)) (σ : St) (Q : VK) (u : Value) (s' : Shared) : Prop := ∃ v H', Inv X pins σ H' s' ∧ RelV v u ∧ Q v H'
noncomputable def TP (X : Cx) (pins : List (Addr × Obj)) (σ : St) (Q : Bool → Hp → Prop) (b : Bool) (s' : Shared) : Prop := ∃ H', Inv X pins σ H' s' ∧ Q b H'
noncomputable def AP (X : Cx) (pins : List (Addr × Obj)) (σ : St) (Q : List V → Hp → Prop) (us : List Value) (s' : Shared) : Prop := ∃ vs H', Inv X pins σ H' s' ∧ Vals vs us ∧ Q vs H'
noncomputable def SP (X : Cx) (pins : List (Addr × Obj)) (D : Ends) (f : Flow) (s' : Shared) : Prop :=
  match f with
  | .next => ∃ σ' H', Inv X pins σ' H' s' ∧ D.nx σ' H'
  | .brk => ∃ σ' H', Inv X pins σ' H' s' ∧ D.bk σ' H'
  | .cont => ∃ σ' H', Inv X pins σ' H' s' ∧ D.ct σ' H'
  | .ret u => ∃ v σ' H', Inv X pins σ' H' s' ∧ RelV v u ∧ D.rt v H'

noncomputable def PE (X : Cx) (e : Expr) (t : TE) : Prop :=
  ∀ (pins : List (Addr × Obj)) (s : Shared) (σ : St) (H : Hp) (Q : VK), Inv X pins σ H s → t σ H Q → wpAny (model X.prog X.w) X.A (eval e X.env) (EP X pins σ Q) X.xe s
noncomputable def PT (X : Cx) (e : Expr) (t : TT) : Prop :=
  ∀ (pins : List (Addr × Obj)) (s : Shared) (σ : St) (H : Hp) (Q : Bool → Hp → Prop), Inv X pins σ H s → t σ H Q → wpAny (model X.prog X.w) X.A (isTrue e X.env (eval e X.env)) (TP X pins σ Q) X.xe s
noncomputable def PW (X : Cx) (e : Expr) (t : TT) : Prop :=
  ∀ (whole : Sem Value) (pins : List (Addr × Obj)) (s : Shared) (σ : St) (H : Hp) (Q : Bool → Hp → Prop), Inv X pins σ H s → t σ H Q → wpAny (model X.prog X.w) X.A (isTrue e X.env whole) (TP X pins σ Q) X.xe s
theorem PW.pt {X : Cx} {e : Expr} {t : TT} (h : PW X e t) : PT X e t := h _
noncomputable def PA (X : Cx) (es : List Expr) (t : TA) : Prop :=
  ∀ (pos : Pos) (pins : List (Addr × Obj)) (s : Shared) (σ : St) (H : Hp) (Q : List V → Hp → Prop), Inv X pins σ H s → t σ H Q → wpAny (model X.prog X.w) X.A (spliced (backTo pos (starEach es X.env))) (AP X pins σ Q) X.xe s
noncomputable def PS (X : Cx) (st : Stmt) (t : TS) : Prop :=
  ∀ (pins : List (Addr × Obj)) (s : Shared) (σ : St) (H : Hp) (D : Ends), Inv X pins σ H s → t D σ H → wpAny (model X.prog X.w) X.A (exec st X.env) (SP X pins D) X.xe s
noncomputable def PSs (X : Cx) (st : List Stmt) (t : TS) : Prop :=
  ∀ (pins : List (Addr × Obj)) (s : Shared) (σ : St) (H : Hp) (D : Ends), Inv X pins σ H s → t D σ H → wpAny (model X.prog X.w) X.A (execs st X.env) (SP X pins D) X.xe s
theorem thn {α : Type} {t : Sem α} {Q Q' : α → Shared → Prop} {M : Model} {A : Around} {E : Value → Shared → Prop} {s : Shared} (h : wpAny M A t Q E s) (hQ : ∀ a s, Q a s → Q' a s) : wpAny M A t Q' E s := wpAny_mono h hQ fun _ _ x => x
end Internal

namespace Internal
open PySem PySem.Spec PyProof.Rows
section
variable {X : Cx}

noncomputable def tVar (i : Nat) : TE := fun σ H Q => ∃ v, σ[i]? = some (some v) ∧ Q v H
noncomputable abbrev tC (v : V) : TE := fun _ H Q => Q v H
theorem pe_var {i : Nat} {x : Str} {pos : Pos} (hN : X.N[i]? = some x) (hv : Vis X.env.scope x) (hd : autoParam ((x == ("__debug__" : Str)) = false) Internal.aut1._auto_1) (hcd : autoParam ((x == ("__classdict__" : Str)) = false) Internal.aut1._auto_1) : PE X (.Name x pos) (tVar i) := by
  intro pins s σ H Q I h
  obtain ⟨v, e, h⟩ := h
  obtain ⟨m, hn, hl⟩ := I.loc
  obtain ⟨u, r, l⟩ := hl i x v hN e hv
  have fin : EP X pins σ Q u s := ⟨v, H, I, r, h⟩
  rcases l with ⟨hk, hm⟩ | ⟨hk, c, hc, hcell⟩
  · exact wpAny_Name (wpAny_loadName_local I.ok.kind hk hn hm fin) hd
  · rcases hk with hk | hk
    · exact wpAny_Name (wpAny_loadName_cell I.ok.kind hk hc hcell fin) hd
    · exact wpAny_Name (wpAny_loadName_free I.ok.kind hk hc hcell fin hcd) hd
theorem pe_int {i j pos} : PE X (.Constant (.int i) j pos) (tC (.int i)) := fun _ _ _ H _ I h => wpAny_Constant_int ⟨.int i, H, I.tok _, ⟨_, rfl⟩, h⟩
theorem pe_bl {b j pos} : PE X (.Constant (.bool b) j pos) (tC (.bl b)) := fun _ _ _ H _ I h => Constant_bool ⟨.bl b, H, I, rfl, h⟩
theorem pe_non {j pos} : PE X (.Constant .none j pos) (tC .non) := fun _ _ _ H _ I h => Constant_none ⟨.non, H, I, rfl, h⟩
theorem pe_str {x j pos} : PE X (.Constant (.str x) j pos) (tC (.str x)) := fun _ _ _ H _ I h => Calls.Constant_str ⟨.str x, H, I.tok _, ⟨_, rfl⟩, h⟩

noncomputable def Gl (X : Cx) (x : Str) : Prop := X.env.kindOf x = some .globalImplicit
theorem ld_glob {E : Value → Shared → Prop} {pins : List (Addr × Obj)} {s : Shared} {σ : St} {H : Hp} {x : Str} {u : Value} {pos : Pos} {Q : Value → Shared → Prop} (I : Inv X pins σ H s) (hg : Gl X x) (hm : X.mg x = some u) (h : Q u s)
    (hd : autoParam ((x == ("__debug__" : Str)) = false) Internal.aut1._auto_1) : wpAny (model X.prog X.w) X.A (eval (.Name x pos) X.env) Q E s :=
  Calls.Name_function_global I.ok.kind hg (Calls.loadGlobal_global (by rw [I.ok.glob]; exact I.mod.glob.keeps I.bk) hm h) hd
theorem ld_blt {E : Value → Shared → Prop} {pins : List (Addr × Obj)} {s : Shared} {σ : St} {H : Hp} {x : Str} {u : Value} {pos : Pos} {Q : Value → Shared → Prop} (I : Inv X pins σ H s) (hg : Gl X x) (hm : X.mg x = none) (hv : bootBuiltins x = some u) (h : Q u s)
    (hn : autoParam (x ≠ "__name__") Internal.aut1._auto_1) (hd : autoParam ((x == ("__debug__" : Str)) = false) Internal.aut1._auto_1) : wpAny (model X.prog X.w) X.A (eval (.Name x pos) X.env) Q E s := by
  obtain ⟨mb, h1, h2⟩ := I.mod.blt
  exact Calls.Name_function_global I.ok.kind hg (Calls.loadGlobal_builtin (by rw [I.ok.glob]; exact I.mod.glob.keeps I.bk) hm (by rw [I.ok.blt]; exact h1.keeps I.bk) ((h2 x hn).trans hv) h) hd
theorem pe_glob {x : Str} {v : V} {u : Value} {pos : Pos} (hg : Gl X x) (hm : X.mg x = some u) (r : RelV v u) (hd : autoParam ((x == ("__debug__" : Str)) = false) Internal.aut1._auto_1) : PE X (.Name x pos) (tC v) :=
  fun _ _ _ H _ I h => ld_glob I hg hm ⟨v, H, I, r, h⟩ hd
theorem pe_bltn {x : Str} {v : V} {u : Value} {pos : Pos} (hg : Gl X x) (hm : X.mg x = none) (hv : bootBuiltins x = some u) (r : RelV v u) (hn : autoParam (x ≠ "__name__") Internal.aut1._auto_1) (hd : autoParam ((x == ("__debug__" : Str)) = false) Internal.aut1._auto_1) : PE X (.Name x pos) (tC v) :=
  fun _ _ _ H _ I h => ld_blt I hg hm hv ⟨v, H, I, r, h⟩ hn hd

noncomputable def t2I (ta tb : TE) (k : Int → Int → Hp → Prop) : St → Hp → Prop := fun σ H => ta σ H fun x H1 => tb σ H1 fun y H2 => ∃ i j, x = .int i ∧ y = .int j ∧ k i j H2
variable {a b : Expr} {ta tb : TE} {pos : Pos}
noncomputable def tCmp (p : Int → Int → Bool) (ta tb : TE) : TE := fun σ H Q => t2I ta tb (fun i j H2 => Q (.bl (p i j)) H2) σ H
noncomputable abbrev tLt : TE → TE → TE := tCmp fun i j => decide (i < j)
noncomputable abbrev tLe : TE → TE → TE := tCmp fun i j => decide (i ≤ j)
noncomputable abbrev tGt : TE → TE → TE := tCmp fun i j => decide (j < i)
noncomputable abbrev tGe : TE → TE → TE := tCmp fun i j => decide (j ≤ i)
noncomputable abbrev tEqI : TE → TE → TE := tCmp fun i j => decide (i = j)
noncomputable abbrev tNeI : TE → TE → TE := tCmp fun i j => !decide (i = j)
variable {tA tB' : TT} {rest : List Expr}
noncomputable abbrev tAnd (t u : TT) : TT := fun σ H Q => t σ H fun c H1 => if c = true then u σ H1 Q else Q false H1
noncomputable abbrev tOr (t u : TT) : TT := fun σ H Q => t σ H fun c H1 => if c = true then Q true H1 else u σ H1 Q
noncomputable abbrev tNot (t : TT) : TT := fun σ H Q => t σ H fun c H1 => Q (!c) H1
theorem pw_and1 (ha : PT X a tA) : PW X (.BoolOp .And [a] pos) tA := by
  intro wh pins s σ H Q I h
  refine isTrue_and (thn (ha pins s σ H Q I h) fun c s1 e => ?_)
  cases c with
  | true => exact isTrue_and_nil e
  | false => exact e
theorem pw_or1 (ha : PT X a tA) : PW X (.BoolOp .Or [a] pos) tA := by
  intro wh pins s σ H Q I h
  refine isTrue_or (thn (ha pins s σ H Q I h) fun c s1 e => ?_)
  cases c with
  | false => exact isTrue_or_nil e
  | true => exact e
theorem pw_and (ha : PT X a tA) (hb : PW X (.BoolOp .And (b :: rest) pos) tB') : PW X (.BoolOp .And (a :: b :: rest) pos) (tAnd tA tB') := by
  intro wh pins s σ H Q I h
  refine isTrue_and (thn (ha pins s σ H _ I h) fun c s1 ⟨H1, I1, q1⟩ => ?_)
  cases c with
  | true => exact hb wh pins s1 σ H1 Q I1 q1
  | false => exact ⟨H1, I1, q1⟩
theorem pw_or (ha : PT X a tA) (hb : PW X (.BoolOp .Or (b :: rest) pos) tB') : PW X (.BoolOp .Or (a :: b :: rest) pos) (tOr tA tB') := by
  intro wh pins s σ H Q I h
  refine isTrue_or (thn (ha pins s σ H _ I h) fun c s1 ⟨H1, I1, q1⟩ => ?_)
  cases c with
  | true => exact ⟨H1, I1, q1⟩
  | false => exact hb wh pins s1 σ H1 Q I1 q1
theorem pt_not (ha : PT X a tA) : PT X (.UnaryOp .Not a pos) (tNot tA) := by
  intro pins s σ H Q I h
  exact isTrue_not (ha pins s σ H (fun c H1 => Q (!c) H1) I h)
noncomputable def tAndV (ta tb : TE) : TE := fun σ H Q => ta σ H fun x H1 => ∃ c, x = .bl c ∧ if c = true then tb σ H1 Q else Q (.bl false) H1
noncomputable def tOrV (ta tb : TE) : TE := fun σ H Q => ta σ H fun x H1 => ∃ c, x = .bl c ∧ if c = true then Q (.bl true) H1 else tb σ H1 Q
theorem pe_one {op} {t : TE} (h : PE X a t) : PE X (.BoolOp op [a] pos) t := fun pins s σ H Q I hw => BoolOp_one (h pins s σ H Q I hw)
theorem pe_and (ha : PE X a ta) (hb : PE X (.BoolOp .And (b :: rest) pos) tb) : PE X (.BoolOp .And (a :: b :: rest) pos) (tAndV ta tb) := by
  intro pins s σ H Q I h
  refine BoolOp_and (thn (ha pins s σ H _ I h) fun v s1 zz => ?_)
  obtain ⟨x, H1, I1, r1, q1⟩ := zz
  obtain ⟨c, rfl, q1⟩ := q1
  cases r1
  refine wpAny_truthy_bool ?_
  cases c with
  | true => exact hb pins s1 σ H1 Q I1 q1
  | false => exact ⟨.bl false, H1, I1, rfl, q1⟩
theorem pe_or (ha : PE X a ta) (hb : PE X (.BoolOp .Or (b :: rest) pos) tb) : PE X (.BoolOp .Or (a :: b :: rest) pos) (tOrV ta tb) := by
  intro pins s σ H Q I h
  refine BoolOp_or (thn (ha pins s σ H _ I h) fun v s1 zz => ?_)
  obtain ⟨x, H1, I1, r1, q1⟩ := zz
  obtain ⟨c, rfl, q1⟩ := q1
  cases r1
  refine wpAny_truthy_bool ?_
  cases c with
  | false => exact hb pins s1 σ H1 Q I1 q1
  | true => exact ⟨.bl true, H1, I1, rfl, q1⟩
noncomputable abbrev tIf (t : TT) (ta tb : TE) : TE := fun σ H Q => t σ H fun c H1 => if c = true then ta σ H1 Q else tb σ H1 Q
end
end Internal

namespace Internal
open PySem PySem.Spec PyProof.Rows

noncomputable def SqL (K : PySem.W.Frag) (H : Hp) (a : Addr) (xs : List V) : Prop :=
  Rd H a (.lst xs) ∨
    ∃ (o : Obj) (its : Array Value) (n : Nat), K.lookup a = some o ∧ o.cls = .type "list" ∧ o.dict = none ∧ o.data = .seq its n ∧ its.size ≤ sizeLine ∧ Vals xs its.toList
noncomputable def SqT (K : PySem.W.Frag) (H : Hp) (a : Addr) (xs : List V) : Prop :=
  Rd H a (.tup xs) ∨
    ∃ (o : Obj) (its : Array Value) (n : Nat), K.lookup a = some o ∧ o.cls = .type "tuple" ∧ o.data = .seq its n ∧ its.size ≤ sizeLine ∧ Vals xs its.toList
noncomputable def absV : Value → Option V
  | .none => some .non
  | .bool b => some (.bl b)
  | .int i _ => some (.int i)
  | .str x _ => some (.str x)
  | .bytes b _ => some (.byt b)
  | .float b _ => some (.flt b)
  | .ref a => some (.ref a)
  | .type n => some (.ty n)
  | _ => none
theorem RelV.abs {x : V} {u : Value} (r : RelV x u) : absV u = some x := by
  cases x with
  | non => cases r; rfl
  | bl _ => cases r; rfl
  | int _ => obtain ⟨t, rfl⟩ := r; rfl
  | str _ => obtain ⟨t, rfl⟩ := r; rfl
  | byt _ => obtain ⟨t, rfl⟩ := r; rfl
  | flt _ => obtain ⟨t, rfl⟩ := r; rfl
  | ref _ => cases r; rfl
  | ty _ => cases r; rfl
theorem RelV.inj {x y : V} {u : Value} (r : RelV x u) (q : RelV y u) : x = y := Option.some.inj (r.abs.symm.trans q.abs)
theorem Vals.inj : ∀ {xs ys : List V} {us : List Value}, Vals xs us → Vals ys us → xs = ys
  | _, _, _, .nil, .nil => rfl
  | _, _, _, .cons r t, .cons r' t' => by rw [r.inj r', Vals.inj t t']
section
variable {X : Cx} {pins : List (Addr × Obj)} {σ : St} {H : Hp} {s : Shared} {a : Addr} {xs ys : List V}
theorem SqL.of {K : PySem.W.Frag} (h : H a = some (.lst xs)) : SqL K H a xs := .inl (.inl h)
theorem SqT.of {K : PySem.W.Frag} (h : H a = some (.tup xs)) : SqT K H a xs := .inl (.inl h)
theorem Inv.list (I : Inv X pins σ H s) (h : SqL X.K H a xs) : ∃ its : List Value, Vals xs its ∧ PlainL s.heap a its.toArray ∧ xs.length ≤ sizeLine := by
  rcases h with h | ⟨o, its, n, hk, hc, hd, hs, hz, r⟩
  · obtain ⟨z, its, n, r, e⟩ := h.ok I.hok
    exact ⟨its, r, ⟨_, n, e, rfl, rfl, rfl⟩, z⟩
  · refine ⟨its.toList, r, ⟨o, n, I.kIn a o hk, hc, hd, by simpa using hs⟩, ?_⟩
    have e := r.length
    simp only [Array.length_toList] at e
    omega
theorem Inv.tuple (I : Inv X pins σ H s) (h : SqT X.K H a xs) : ∃ its : List Value, Vals xs its ∧ IsTup s.heap a its.toArray ∧ xs.length ≤ sizeLine := by
  rcases h with h | ⟨o, its, n, hk, hc, hs, hz, r⟩
  · obtain ⟨z, its, r, p⟩ := h.ok I.hok
    exact ⟨its, r, p, z⟩
  · refine ⟨its.toList, r, ⟨o, I.kIn a o hk, hc, n, by simpa using hs⟩, ?_⟩
    have e := r.length
    simp only [Array.length_toList] at e
    omega
theorem Inv.list_inj (I : Inv X pins σ H s) (h : SqL X.K H a xs) (h' : SqL X.K H a ys) : xs = ys := by
  obtain ⟨its, r, ⟨o, n, e, _, _, d⟩, _⟩ := I.list h
  obtain ⟨its', r', ⟨o', n', e', _, _, d'⟩, _⟩ := I.list h'
  rw [e] at e'; cases e'
  rw [d] at d'
  injection d' with d1 _
  have : its = its' := by simpa using congrArg Array.toList d1
  subst this
  exact r.inj r'
end

noncomputable abbrev Cx.wish (X : Cx) (E : Value → Shared → Prop) : Cx := { X with xe := E }
noncomputable abbrev Cx.nox (X : Cx) : Cx := X.wish fun _ _ => False
theorem Cx.Ok.wish {X : Cx} (ok : X.Ok) (E : Value → Shared → Prop) : (X.wish E).Ok :=
  ⟨ok.mod, ok.kind, ok.glob, ok.blt, ok.above, ok.inj, ok.has, ok.cab, ok.hd, ok.frames, ok.stk, ok.exf, ok.bs, ok.bsz, ok.noex, ok.exfs, ok.funs, ok.frf⟩
theorem Cx.Ok.unwish {X : Cx} {E : Value → Shared → Prop} (ok : (X.wish E).Ok) : X.Ok :=
  ⟨ok.mod, ok.kind, ok.glob, ok.blt, ok.above, ok.inj, ok.has, ok.cab, ok.hd, ok.frames, ok.stk, ok.exf, ok.bs, ok.bsz, ok.noex, ok.exfs, ok.funs, ok.frf⟩
section
variable {X : Cx} {pins : List (Addr × Obj)} {σ : St} {H : Hp} {s : Shared} {E : Value → Shared → Prop}
theorem Inv.wish (I : Inv X pins σ H s) (E : Value → Shared → Prop) : Inv (X.wish E) pins σ H s := ⟨I.ok.wish E, I.os, I.bare, I.base, I.loc, I.cell, I.free, I.freeC, I.pin, I.hok, I.len⟩
theorem Inv.unwish (I : Inv (X.wish E) pins σ H s) : Inv X pins σ H s := ⟨I.ok.unwish, I.os, I.bare, I.base, I.loc, I.cell, I.free, I.freeC, I.pin, I.hok, I.len⟩
theorem SP.unwish {D : Ends} {f : Flow} {s' : Shared} (h : SP (X.wish E) pins D f s') : SP X pins D f s' := by
  cases f with
  | next => obtain ⟨σ', H', I, q⟩ := h; exact ⟨σ', H', I.unwish, q⟩
  | brk => obtain ⟨σ', H', I, q⟩ := h; exact ⟨σ', H', I.unwish, q⟩
  | cont => obtain ⟨σ', H', I, q⟩ := h; exact ⟨σ', H', I.unwish, q⟩
  | ret u => obtain ⟨v, σ', H', I, r, q⟩ := h; exact ⟨v, σ', H', I.unwish, r, q⟩
theorem PSs.nox {st : List Stmt} {t : TS} (h : PSs X.nox st t) : PSs X st t := fun pins s σ H D I hw =>
  wpAny_mono (h pins s σ H D (I.wish _) hw) (fun _ _ q => q.unwish) fun _ _ z => False.elim z
end

section
variable {X : Cx} {st : Stmt} {rest : List Stmt} {t u : TS} {e : Expr} {te : TE} {pos : Pos}
noncomputable abbrev tNext : TS := fun D σ H => D.nx σ H
noncomputable abbrev tSeq (t u : TS) : TS := fun D σ H => t { D with nx := u D } σ H
theorem pss_nil : PSs X [] tNext := fun _ _ σ H _ I h => wpAny_execs_nil ⟨σ, H, I, h⟩
theorem pss_cons (h1 : PS X st t) (h2 : PSs X rest u) : PSs X (st :: rest) (tSeq t u) := by
  intro pins s σ H D I h
  refine wpAny_execs_cons (thn (h1 pins s σ H { D with nx := u D } I h) fun f s1 q => ?_)
  cases f with
  | next =>
    obtain ⟨σ', H', I', q⟩ := q
    exact h2 pins s1 σ' H' D I' q
  | ret v => exact q
  | brk => exact q
  | cont => exact q
theorem pss_one (h1 : PS X st t) : PSs X [st] t := by
  intro pins s σ H D I h
  refine wpAny_execs_cons (thn (h1 pins s σ H D I h) fun f s1 q => ?_)
  cases f with
  | next => exact wpAny_execs_nil q
  | ret v => exact q
  | brk => exact q
  | cont => exact q
noncomputable abbrev tBreak : TS := fun D σ H => D.bk σ H
noncomputable abbrev tCont : TS := fun D σ H => D.ct σ H
theorem Inv.quiet {pins : List (Addr × Obj)} {σ : St} {H : Hp} {s : Shared} (I : Inv X pins σ H s) : interactive X.env = false := by simp [interactive, I.ok.kind]
noncomputable abbrev tDrop (te : TE) : TS := fun D σ H => te σ H fun _ H1 => D.nx σ H1
theorem ps_expr (he : PE X e te) (hs : autoParam (swapsWith e none pos.line X.env = pure false) Internal.aut2._auto_1) : PS X (.Expr e pos) (tDrop te) := by
  intro pins s σ H D I h
  exact wpAny_Expr_any (thn (he pins s σ H _ I h) fun v s1 ⟨x, H1, I1, r1, q1⟩ => ⟨σ, H1, I1, q1⟩) I.quiet hs
noncomputable abbrev tRet (te : TE) : TS := fun D σ H => te σ H D.rt
theorem ps_ret (he : PE X e te) : PS X (.Return (some e) pos) (tRet te) := by
  intro pins s σ H D I h
  exact wpAny_Return_some (thn (he pins s σ H _ I h) fun v s1 ⟨x, H1, I1, r1, q1⟩ => ⟨x, σ, H1, I1, r1, q1⟩)
noncomputable abbrev tRetN : TS := fun D _ H => D.rt .non H
noncomputable abbrev tIfS (c : TT) (t u : TS) : TS := fun D σ H => c σ H fun b H1 => if b = true then t D σ H1 else u D σ H1
theorem ps_if {c : Expr} {a b : List Stmt} {tc : TT} (hc : PT X c tc) (ha : PSs X a t) (hb : PSs X b u) : PS X (.If c a b pos) (tIfS tc t u) := by
  intro pins s σ H D I h
  refine wpAny_If (thn (hc pins s σ H _ I h) fun d s1 ⟨H1, I1, q1⟩ => ?_)
  cases d with
  | true => exact ha pins s1 σ H1 D I1 q1
  | false => exact hb pins s1 σ H1 D I1 q1
end

noncomputable abbrev TG := V → St → Hp → (St → Hp → Prop) → Prop
noncomputable abbrev TGs := List V → St → Hp → (St → Hp → Prop) → Prop
noncomputable def PG (X : Cx) (target : Expr) (t : TG) : Prop :=
  ∀ (pins : List (Addr × Obj)) (s : Shared) (σ : St) (H : Hp) (v : V) (u : Value) (Q : St → Hp → Prop), Inv X pins σ H s → RelV v u → t v σ H Q →
    wpAny (model X.prog X.w) X.A (assign target X.env u) (fun _ s' => ∃ σ' H', Inv X pins σ' H' s' ∧ Q σ' H') X.xe s
noncomputable def PGs (X : Cx) (ts : List Expr) (t : TGs) : Prop :=
  ∀ (pins : List (Addr × Obj)) (s : Shared) (σ : St) (H : Hp) (vs : List V) (us : List Value) (Q : St → Hp → Prop), Inv X pins σ H s → Vals vs us → t vs σ H Q →
    wpAny (model X.prog X.w) X.A (assignInOrder ((assignEach ts X.env).map (·.2)) us) (fun _ s' => ∃ σ' H', Inv X pins σ' H' s' ∧ Q σ' H') X.xe s
noncomputable abbrev TSet := V → V → V → Hp → (Hp → Prop) → Prop
noncomputable def PSet (X : Cx) (t : TSet) : Prop :=
  ∀ (pins : List (Addr × Obj)) (s : Shared) (σ : St) (H : Hp) (o i v : V) (ov iv u : Value) (Q : Hp → Prop), Inv X pins σ H s → RelV o ov → RelV i iv → RelV v u → t o i v H Q →
    wpAny (model X.prog X.w) X.A (setItem ov iv u) (fun _ s' => ∃ H', Inv X pins σ H' s' ∧ Q H') X.xe s
noncomputable abbrev TIp := V → V → Hp → VK → Prop
section
variable {X : Cx} {pos : Pos}
noncomputable abbrev gName (i : Nat) : TG := fun v σ H Q => Q (σ.set i (some v)) H
theorem pg_name {i : Nat} {x : Str} (hN : X.N.Nodup) (hi : X.N[i]? = some x) (hx : Loc X.env.scope x) (hf : autoParam (X.fn x = true ∨ X.env.scope.names.lookup x = some .local) Internal.aut0._auto_1) : PG X (.Name x pos) (gName i) := by
  intro pins s σ H v u Q I r h
  exact wpAny_assign_Name (store_ok I hN hi hx r (fun s' I' => ⟨_, H, I', h⟩) hf)
noncomputable def gNil : TGs := fun vs σ H Q => vs = [] ∧ Q σ H
noncomputable def gCons (t : TG) (u : TGs) : TGs := fun vs σ H Q => ∃ v r, vs = v :: r ∧ t v σ H fun σ' H' => u r σ' H' Q
theorem pgs_nil : PGs X [] gNil := by
  intro pins s σ H vs us Q I r h
  obtain ⟨e, h⟩ := h
  subst e
  cases r
  exact assignInOrder_nil ⟨σ, H, I, h⟩
theorem pgs_cons {e : Expr} {es : List Expr} {t : TG} {u : TGs} (h1 : PG X e t) (h2 : PGs X es u)
    (hs : autoParam ((assignEach (e :: es) X.env).map (·.2) = assign e X.env :: (assignEach es X.env).map (·.2)) Internal.aut2._auto_1) : PGs X (e :: es) (gCons t u) := by
  intro pins s σ H vs us Q I r h
  obtain ⟨v, vr, e1, h⟩ := h
  subst e1
  cases r with
  | cons r rr =>
    rw [hs]
    refine assignInOrder_cons (thn (h1 pins s σ H _ _ _ I r h) fun _ s1 zz => ?_)
    obtain ⟨σ1, H1, I1, q1⟩ := zz
    exact h2 pins s1 σ1 H1 _ _ Q I1 rr q1
noncomputable def gTup (K : PySem.W.Frag) (n : Nat) (t : TGs) : TG := fun v σ H Q => ∃ a xs, v = .ref a ∧ SqT K H a xs ∧ xs.length = n ∧ t xs σ H Q
theorem pg_tup {es : List Expr} {k : Nat} {t : TGs} {n : Nat} (hc : X.calm = true) (h : PGs X es t)
    (hn : autoParam ((assignEach es X.env).length = n) Internal.aut2._auto_1) (hst : autoParam ((assignEach es X.env).findIdx? (·.1) = none) Internal.aut2._auto_1) : PG X (.Tuple es k pos) (gTup X.K n t) := by
  intro pins s σ H v u Q I r hw
  obtain ⟨a, xs, e1, hq, hl, hw⟩ := hw
  subst e1
  cases r
  obtain ⟨its, rv, ht, hz⟩ := I.tuple hq
  refine assign_Tuple_tuple (I.ok.hd hc) ht (by simp [hn, ← hl, rv.length]) hst fun h' hx => ?_
  have I1 : Inv X pins σ H { s with heap := h' } := I.kept (t' := s.toks) fun b o e => hx b o (Nat.ne_of_lt (Heap.lt_size e)) e
  exact h pins _ σ H xs _ Q I1 (by simpa using rv) hw
noncomputable abbrev gSub (to ti : TE) (t : TSet) : TG := fun v σ H Q => to σ H fun o H1 => ti σ H1 fun i H2 => t o i v H2 fun H3 => Q σ H3
theorem pg_sub {o i : Expr} {to ti : TE} {t : TSet} (ho : PE X o to) (hi : PE X i ti) (hs : PSet X t)
    (ha : autoParam (∀ v, assign (.Subscript o i pos) X.env v = (do
      let ov ← holding [v] (eval o X.env)
      let iv ← holding [v, ov] (eval i X.env)
      standAt pos
      holding [v, ov, iv] (setItem ov iv v)
      release [v, ov, iv] [])) Internal.aut3._auto_1) : PG X (.Subscript o i pos) (gSub to ti t) := by
  intro pins s σ H v u Q I r h
  rw [ha]
  refine wpAny_bind (wpAny_holding (thn (ho pins s σ H _ I h) fun ov s1 zz => ?_))
  obtain ⟨x, H1, I1, r1, q1⟩ := zz
  refine wpAny_bind (wpAny_holding (thn (hi pins s1 σ H1 _ I1 q1) fun iv s2 zz => ?_))
  obtain ⟨y, H2, I2, r2, q2⟩ := zz
  refine wpAny_bind (wpAny_standAt (wpAny_bind (wpAny_holding (thn (hs pins s2 σ H2 x y v ov iv u _ I2 r1 r2 r q2) fun _ s3 ⟨H3, I3, q3⟩ => ?_))))
  exact wpAny_release ⟨σ, H3, I3, q3⟩
noncomputable abbrev tAsg (te : TE) (g : TG) : TS := fun D σ H => te σ H fun x H1 => g x σ H1 D.nx
theorem ps_asg {tg e : Expr} {te : TE} {g : TG} (he : PE X e te) (hg : PG X tg g) (hs : autoParam (swapsWithSole [tg] e pos.line X.env = pure false) Internal.aut2._auto_1) (hw : autoParam (swappedStores [tg] e X.env = pure none) Internal.aut2._auto_1)
    (h1 : autoParam ((assignEach [tg] X.env).map (·.2) = [assign tg X.env]) Internal.aut2._auto_1) : PS X (.Assign [tg] e pos) (tAsg te g) := by
  intro pins s σ H D I h
  refine wpAny_Assign_stores (thn (he pins s σ H _ I h) fun v s1 zz => ?_) hs hw
  obtain ⟨x, H1, I1, r1, q1⟩ := zz
  rw [h1]
  exact thn (hg pins s1 σ H1 x v _ I1 r1 q1) fun _ s2 q => q
theorem ps_set {i : Nat} {x : Str} {e : Expr} {te : TE} {pos' : Pos} (hN : X.N.Nodup) (hi : X.N[i]? = some x) (hx : Loc X.env.scope x) (he : PE X e te) (hs : autoParam (swapsWith e (some (.Name x pos')) pos.line X.env = pure false) Internal.aut2._auto_1) (hf : autoParam (X.fn x = true ∨ X.env.scope.names.lookup x = some .local) Internal.aut0._auto_1) :
    PS X (.Assign [.Name x pos'] e pos) (tAsg te (gName i)) := by
  intro pins s σ H D I h
  refine wpAny_Assign_Name (thn (he pins s σ H _ I h) fun v s1 zz => ?_) hs
  obtain ⟨y, H1, I1, r1, q1⟩ := zz
  exact store_ok I1 hN hi hx r1 (fun s2 I2 => ⟨_, H1, I2, q1⟩) hf
end

section
variable {X : Cx} {pos : Pos}
noncomputable def tWhile (c : TT) (tb : TS) : TS := fun D σ H => ∃ W : Nat → St → Hp → Prop, (∃ m, W m σ H) ∧ ∀ m σ H, W m σ H →
  c σ H fun b H1 => if b = true then ∃ N : St → Hp → Prop, (∀ σ' H', N σ' H' → ∃ m', m' < m ∧ W m' σ' H') ∧ tb { D with nx := N, ct := N, bk := D.nx } σ H1 else D.nx σ H1
theorem ps_while {c : Expr} {body : List Stmt} {tc : TT} {tb : TS} (hp : PassesOwn (model X.prog X.w) X.A X.env X.xe) (hc : PT X c tc) (hb : PSs X body tb) : PS X (.While c body [] pos) (tWhile tc tb) := by
  intro pins s σ H D I h
  obtain ⟨W, ⟨m0, w0⟩, turn⟩ := h
  refine wpAny_While (codeAny_whileLoop (fun n s' => ∃ σ' H', Inv X pins σ' H' s' ∧ W n σ' H') ?_ m0 ⟨σ, H, I, w0⟩)
  rintro n s1 ⟨σ1, H1, I1, w1⟩
  refine wpAny_passesOwn hp (thn (hc pins s1 σ1 H1 _ I1 (turn n σ1 H1 w1)) fun b s2 ⟨H2, I2, q2⟩ => ?_)
  cases b with
  | true =>
    obtain ⟨N, hN, q2⟩ := q2
    rw [if_pos rfl]
    refine wpAny_passesOwn hp (thn (hb pins s2 σ1 H2 _ I2 q2) fun f s3 q3 => ?_)
    cases f with
    | next =>
      obtain ⟨σ3, H3, I3, n3⟩ := q3
      obtain ⟨m', hm, w3⟩ := hN σ3 H3 n3
      exact ⟨m', hm, σ3, H3, I3, w3⟩
    | cont =>
      obtain ⟨σ3, H3, I3, n3⟩ := q3
      obtain ⟨m', hm, w3⟩ := hN σ3 H3 n3
      exact ⟨m', hm, σ3, H3, I3, w3⟩
    | brk => exact q3
    | ret v => exact q3
  | false =>
    rw [if_neg Bool.false_ne_true]
    exact wpAny_execs_nil ⟨σ1, H2, I2, q2⟩
end

set_option genInjectivity false in
set_option genSizeOf false in
structure It where
  go : Nat → Hp → Prop
  yld : Nat → Hp → V → Hp → Prop
  stop : Nat → Hp → Prop
noncomputable def FpOk (X : Cx) (pins : List (Addr × Obj)) (H : Hp) (b : Addr) : Prop :=
  H b = none ∧ b ≠ X.env.locals ∧ b ∉ X.fs ∧ (b ∈ X.ex ∨ X.s₀.heap.objs.size ≤ b) ∧ (∀ x c, X.env.cells.lookup x = some c → c ≠ b) ∧ ∀ p ∈ X.pn ++ pins, p.1 ≠ b
theorem Inv.fpOk {X : Cx} {pins : List (Addr × Obj)} {σ : St} {H H' : Hp} {s : Shared} {b : Addr} (I : Inv X pins σ H s) (hb : s.heap.objs.size ≤ b) (hn : H' b = none) : FpOk X pins H' b := by
  refine ⟨hn, Nat.ne_of_gt (Nat.lt_of_lt_of_le I.lt hb), I.nofs hb, .inr (Nat.le_trans I.sz hb), fun x c e z => ?_, fun p hp z => ?_⟩
  · obtain ⟨v, q⟩ := I.cell x c e
    exact absurd (Nat.lt_of_lt_of_le q.lt (by rw [z]; exact hb)) (Nat.lt_irrefl _)
  · exact absurd (Nat.lt_of_lt_of_le (Heap.lt_size (I.pin p hp).1) (by rw [z]; exact hb)) (Nat.lt_irrefl _)
set_option genInjectivity false in
set_option genSizeOf false in
structure Turn (P : Program) (w : World) (K : PySem.W.Frag) (tg : Expr) (J : It) (fp : List Addr) (it : Addr) (tn : Nat → Heap → Prop) : Prop where
  mem : it ∈ fp
  obj : ∀ i h, tn i h → ∀ b ∈ fp, ∃ o, h.get? b = some o ∧ ∀ v, o.data ≠ .cell v
  keep : ∀ i h h', tn i h → (∀ b ∈ fp, ∀ o, h.get? b = some o → h'.get? b = some o) → tn i h'
  item : ∀ (X : Cx), X.prog = P → X.w = w → X.K = K → X.calm = true → ∀ (i : Nat) (pins : List (Addr × Obj)) (s : Shared) (σ : St) (H : Hp) (E : Value → Shared → Prop), Inv X pins σ H s → (∀ b ∈ fp, FpOk X pins H b) → tn i s.heap → J.go i H →
    wpAny (model P w) X.A (pyNext (.ref it)) (fun r s1 => ∃ u, r = some u ∧
      wpAny (model P w) X.A (letOwnedTupleGo tg (.ref it) u) (fun _ s2 => ∃ x H', Inv X pins σ H' s2 ∧ RelV x u ∧ J.yld i H x H' ∧ tn (i + 1) s2.heap ∧ ∀ b ∈ fp, H' b = none) E s1) E s
  done : ∀ (X : Cx), X.prog = P → X.w = w → X.K = K → X.calm = true → ∀ (i : Nat) (pins : List (Addr × Obj)) (s : Shared) (σ : St) (H : Hp) (E : Value → Shared → Prop), Inv X pins σ H s → (∀ b ∈ fp, FpOk X pins H b) → tn i s.heap → J.stop i H →
    wpAny (model P w) X.A (pyNext (.ref it)) (fun r s1 => r = none ∧ Inv X pins σ H s1) E s
  self : ∀ (A : Around) (i : Nat) (s : Shared) (Q : Value → Shared → Prop) (E : Value → Shared → Prop), tn i s.heap → Q (.ref it) s → wpAny (model P w) A (pyIter (.ref it)) Q E s
noncomputable abbrev TI := St → Hp → (It → Hp → Prop) → Prop
noncomputable def PIE (X : Cx) (pins : List (Addr × Obj)) (σ : St) (tg : Expr) (R : It → Hp → Prop) (itv : Value) (s2 : Shared) : Prop :=
  ∃ (it : Addr) (fp : List Addr) (tn : Nat → Heap → Prop) (J : It) (H' : Hp), itv = .ref it ∧ Inv X pins σ H' s2 ∧ Turn X.prog X.w X.K tg J fp it tn ∧ tn 0 s2.heap ∧ (∀ b ∈ fp, FpOk X pins H' b) ∧ R J H'
noncomputable def PI (X : Cx) (tg iter : Expr) (wi : TI) : Prop :=
  ∀ (pins : List (Addr × Obj)) (s : Shared) (σ : St) (H : Hp) (R : It → Hp → Prop), Inv X pins σ H s → wi σ H R →
    wpAny (model X.prog X.w) X.A (eval iter X.env) (fun v s1 => wpAny (model X.prog X.w) X.A (pyIter v) (PIE X pins σ tg R) X.xe s1) X.xe s

theorem go_of {M : Model} {A : Around} {E : Value → Shared → Prop} {s : Shared} {tg : Expr} {it : Addr} {u : Value} {o : Obj} {n : String} {vs : Array Value} {Q : Unit → Shared → Prop} (ho : s.heap.get? it = some o) (hc : o.cls = .type n) (hd : o.data = .fields vs)
    (hn : ["enumerate", "zip", "dict_itemiterator", "dict_reverseitemiterator", "odict_iterator", "itertools.zip_longest", "itertools.pairwise"].contains n = false) (hQ : Q () s) : wpAny M A (letOwnedTupleGo tg (.ref it) u) Q E s := by
  unfold letOwnedTupleGo
  cases tg <;> first
    | exact wpAny_pure hQ
    | (cases u <;> first
        | exact wpAny_pure hQ
        | (refine wpAny_bind (wpAny_load ho ?_)
           rw [hc, hd]
           show wpAny M A (if (["enumerate", "zip", "dict_itemiterator", "dict_reverseitemiterator", "odict_iterator", "itertools.zip_longest", "itertools.pairwise"].contains n && vs[0]? == some (rawInt _)) = true then _ else _) Q E s
           rw [if_neg (by intro h; rw [hn, Bool.false_and] at h; cases h)]
           exact wpAny_pure hQ))

noncomputable def Itl (K : PySem.W.Frag) (a : Addr) : It :=
  ⟨fun i H => ∃ xs x, SqL K H a xs ∧ xs[i]? = some x, fun i H x H' => H' = H ∧ ∀ xs, SqL K H a xs → xs[i]? = some x, fun i H => ∃ xs, SqL K H a xs ∧ xs.length ≤ i⟩
noncomputable def Itr (lo : Int) (n : Nat) : It := ⟨fun i _ => i < n, fun i H x H' => H' = H ∧ x = .int (lo + i), fun i _ => n ≤ i⟩
theorem turn_list {P : Program} {w : World} {K : PySem.W.Frag} {tg : Expr} (a it : Addr) : Turn P w K tg (Itl K a) [it] it (fun i h => h.IsListIter it a i) where
  mem := by simp
  obj := fun i h st b hb => by
    have e : b = it := by simpa using hb
    subst e
    obtain ⟨o, e, c, d⟩ := st
    exact ⟨o, e, fun v z => by rw [d] at z; cases z⟩
  keep := fun i h h' st k => st.at fun o e => k it (by simp) o e
  item := by
    intro X hP hw hK hc i pins s σ H E I hf st hg
    subst hP hw hK
    obtain ⟨xs, x, hq, hx⟩ := hg
    obtain ⟨its, rv, p, hz⟩ := I.list hq
    obtain ⟨u, hu, ru⟩ := rv.get hx
    obtain ⟨f0, f1, f2, f3, f4, f5⟩ := hf it (by simp)
    refine wpAny_pyNext_list_item st p.isList (x := u) (by simpa using hu) fun h' st' sb => ?_
    have I1 : Inv X pins σ H { s with heap := h' } := I.turned (t' := s.toks) (fun b o hb e => (sb.2 b hb).trans e) f0 f1 f3 f4 f5
    obtain ⟨o, e, c, d⟩ := id st'
    exact ⟨u, rfl, go_of (s := { s with heap := h' }) e c d (by decide) ⟨x, H, I1, ru, ⟨rfl, fun ys hy => by rw [I.list_inj hy hq]; exact hx⟩, st', fun b hb => (hf b hb).1⟩⟩
  done := by
    intro X hP hw hK hc i pins s σ H E I hf st hg
    subst hP hw hK
    obtain ⟨xs, hq, hx⟩ := hg
    obtain ⟨its, rv, p, hz⟩ := I.list hq
    obtain ⟨f0, f1, f2, f3, f4, f5⟩ := hf it (by simp)
    have hl := rv.length
    exact wpAny_pyNext_list_end (I.ok.hd hc) st p.isList (by simp; omega) fun h' eb => ⟨rfl, I.turned (t' := s.toks) (fun b o hb e => eb b o hb e) f0 f1 f3 f4 f5⟩
  self := fun _ _ _ _ _ st h => wpAny_pyIter_listiter st h
theorem turn_range {P : Program} {w : World} {K : PySem.W.Frag} {tg : Expr} (it : Addr) (lo : Int) (n : Nat) : Turn P w K tg (Itr lo n) [it] it (fun i h => IsRangeIter h it (lo + (i : Nat) * 1) ((n : Int) - (i : Nat)) 1) where
  mem := by simp
  obj := fun i h st b hb => by
    have e : b = it := by simpa using hb
    subst e
    exact ⟨_, st, fun v z => by
      have z' : Data.fields _ = Data.cell v := z
      cases z'⟩
  keep := fun i h h' st k => k it (by simp) _ st
  item := by
    intro X hP hw hK hc i pins s σ H E I hf st hg
    subst hP hw hK
    obtain ⟨f0, f1, f2, f3, f4, f5⟩ := hf it (by simp)
    have W := Walks.range (prog := X.prog) (w := X.w) (I.ok.hd hc) it lo 1 n
    refine W.item i s _ _ hg st fun v h' tk hv st' kk => ?_
    obtain ⟨t, rfl⟩ := hv
    have I1 : Inv X pins σ H { s with heap := h', toks := tk } := I.turned (fun b o hb e => kk b o (by simpa using hb) e) f0 f1 f3 f4 f5
    refine ⟨_, rfl, go_of (s := { s with heap := h', toks := tk }) (n := "range_iterator") st' rfl rfl (by decide) ⟨.int (lo + i), H, I1, ⟨t, ?_⟩, ⟨rfl, rfl⟩, st', fun b hb => (hf b hb).1⟩⟩
    rw [Int.mul_one]
  done := by
    intro X hP hw hK hc i pins s σ H E I hf st hg
    subst hP hw hK
    obtain ⟨f0, f1, f2, f3, f4, f5⟩ := hf it (by simp)
    exact wpAny_pyNext_range_end (I.ok.hd hc) st (by have : n ≤ i := hg; omega) fun h' eb => ⟨rfl, I.turned (t' := s.toks) (fun b o hb e => eb b o hb e) f0 f1 f3 f4 f5⟩
  self := fun _ _ _ _ _ st h => wpAny_pyIter_rangeiter st h
end Internal

namespace Internal
open PySem PySem.Spec PyProof.Rows
section
variable {X : Cx} {tg : Expr}
noncomputable def iList (K : PySem.W.Frag) (tl : TE) : TI := fun σ H R => tl σ H fun x H1 => ∃ a, x = .ref a ∧ (∃ xs, SqL K H1 a xs) ∧ R (Itl K a) H1
theorem pi_list {l : Expr} {tl : TE} (hl : PE X l tl) : PI X tg l (iList X.K tl) := by
  intro pins s σ H R I h
  refine thn (hl pins s σ H _ I h) fun v s1 zz => ?_
  obtain ⟨x, H1, I1, r1, q1⟩ := zz
  obtain ⟨a, e, ⟨xs, hq⟩, q⟩ := q1
  subst e
  cases r1
  obtain ⟨its, rv, p, hz⟩ := I1.list hq
  refine wpAny_pyIter_list p.isList ?_
  refine ⟨s1.heap.objs.size, [s1.heap.objs.size], _, _, H1, rfl, I1.kept (t' := s1.toks) fun b o e => Heap.get?_push_of_some _ e, turn_list a _, ⟨_, Heap.get?_push_size _ rfl, rfl, rfl⟩, fun b hb => ?_, q⟩
  have e : b = s1.heap.objs.size := by simpa using hb
  subst e
  exact I1.fpOk (Nat.le_refl _) (I1.hok.fresh (Nat.le_refl _))
theorem range_it {pins : List (Addr × Obj)} {σ : St} {H : Hp} {s : Shared} {R : It → Hp → Prop} {E : Value → Shared → Prop} {lo hi : Int} {t u v : Tok} {tk : Nat} (I : Inv X pins σ H s) (h1 : -(2 ^ 62) ≤ lo) (h2 : lo < 2 ^ 62) (h3 : -(2 ^ 62) ≤ hi) (h4 : hi < 2 ^ 62)
    (q : R (Itr lo (hi - lo).toNat) H) : wpAny (model X.prog X.w) X.A (pyIter (.ref s.heap.objs.size)) (PIE X pins σ tg R) E { s with heap := s.heap.push { cls := .type "range", data := .fields #[.int lo t, .int hi u, .int 1 v] }, toks := tk } := by
  refine wpAny_pyIter_range (IsRange.new ..) (small_one h1 h2 h3 h4) ?_
  have I1 : Inv X pins σ H { s with heap := s.heap.push { cls := .type "range", data := .fields #[.int lo t, .int hi u, .int 1 v] }, toks := tk } := I.kept fun b o e => Heap.get?_push_of_some _ e
  refine ⟨(s.heap.push { cls := .type "range", data := .fields #[.int lo t, .int hi u, .int 1 v] }).objs.size, [(s.heap.push { cls := .type "range", data := .fields #[.int lo t, .int hi u, .int 1 v] }).objs.size], _, _, H, rfl,
    I1.kept (t' := tk) fun b o e => Heap.get?_push_of_some _ e, turn_range _ lo (hi - lo).toNat, ?_, fun b hb => ?_, q⟩
  · have e1 : lo + ((0 : Nat) : Int) * 1 = lo := by simp
    have e2 : (((hi - lo).toNat : Nat) : Int) - ((0 : Nat) : Int) = Builtin.Range.rangeSize lo hi 1 := by rw [rangeSize_one]; split <;> omega
    show IsRangeIter _ _ (lo + ((0 : Nat) : Int) * 1) ((((hi - lo).toNat : Nat) : Int) - ((0 : Nat) : Int)) 1
    rw [e1, e2]
    exact Heap.get?_push_size _ rfl
  · have e : b = (s.heap.push { cls := .type "range", data := .fields #[.int lo t, .int hi u, .int 1 v] }).objs.size := by simpa using hb
    subst e
    exact I1.fpOk (Nat.le_refl _) (I1.hok.fresh (Nat.le_refl _))
noncomputable def iRng1 (ta : TA) : TI := fun σ H R => ta σ H fun vs H1 => ∃ j : Int, vs = [.int j] ∧ -(2 ^ 62) ≤ j ∧ j < 2 ^ 62 ∧ R (Itr 0 j.toNat) H1
theorem pi_range1 {a : Expr} {ta : TA} {p pos : Pos} (hg : Gl X "range") (hm : X.mg "range" = none) (ha : PA X [a] ta) (hs : autoParam (starEach [a] X.env = [(false, eval a X.env)]) Internal.aut2._auto_1) : PI X tg (.Call (.Name "range" p) [a] [] pos) (iRng1 ta) := by
  intro pins s σ H R I h
  refine Call_ (ld_blt I hg hm boot_range (PyProof.Rows.callWith_type1 (thn (ha pos pins s σ H _ I h) fun us s1 ⟨vs, H1, I1, r1, q1⟩ => ?_) hs rfl))
  obtain ⟨j, e, q1, q2, q⟩ := q1
  subst e
  cases r1 with
  | cons r rr =>
    cases rr
    obtain ⟨t, rfl⟩ := r
    exact call_range_1 (range_it I1 (by omega) (by omega) q1 q2 (by simpa using q))
noncomputable def tFor (wi : TI) (g : TG) (tb : TS) : TS := fun D σ H => wi σ H fun J H1 => ∃ W : Nat → Nat → St → Hp → Prop, (∃ m, W 0 m σ H1) ∧ ∀ i m σ H, W i m σ H →
  (J.stop i H ∧ D.nx σ H) ∨ (J.go i H ∧ ∃ N : St → Hp → Prop, (∀ σ' H', N σ' H' → ∃ m', m' < m ∧ W (i + 1) m' σ' H') ∧ ∀ x H', J.yld i H x H' → g x σ H' fun σ2 H2 => tb { D with nx := N, ct := N, bk := D.nx } σ2 H2)
noncomputable def pinsAt (fp : List Addr) (h : Heap) : List (Addr × Obj) := fp.filterMap fun b => (h.get? b).map fun o => (b, o)
theorem mem_pinsAt {fp : List Addr} {h : Heap} {b : Addr} {o : Obj} (hb : b ∈ fp) (e : h.get? b = some o) : (b, o) ∈ pinsAt fp h := List.mem_filterMap.mpr ⟨b, hb, by rw [e]; rfl⟩
theorem of_pinsAt {fp : List Addr} {h : Heap} {p : Addr × Obj} (hp : p ∈ pinsAt fp h) : p.1 ∈ fp ∧ h.get? p.1 = some p.2 := by
  obtain ⟨b, hb, e⟩ := List.mem_filterMap.mp hp
  cases q : h.get? b with
  | none => rw [q] at e; cases e
  | some o =>
    rw [q] at e
    have e' : (b, o) = p := Option.some.inj e
    subst e'
    exact ⟨hb, q⟩
theorem Inv.pinned {pins : List (Addr × Obj)} {σ : St} {H : Hp} {s : Shared} {fp : List Addr} (I : Inv X pins σ H s) (hf : ∀ b ∈ fp, FpOk X pins H b) (ho : ∀ b ∈ fp, ∃ o, s.heap.get? b = some o ∧ ∀ v, o.data ≠ .cell v) : Inv X (pins ++ pinsAt fp s.heap) σ H s :=
  I.pins_of fun p hp => (List.mem_append.mp hp).elim (fun z => I.pin p (List.mem_append_right _ z)) fun z => by
    obtain ⟨hb, e⟩ := of_pinsAt z
    obtain ⟨f0, f1, f2, _⟩ := hf p.1 hb
    obtain ⟨o, e', d⟩ := ho p.1 hb
    rw [e] at e'; cases e'
    exact ⟨e, f0, f1, f2, d⟩
theorem Inv.unpinned {pins pl : List (Addr × Obj)} {σ : St} {H : Hp} {s : Shared} (I : Inv X (pins ++ pl) σ H s) : Inv X pins σ H s := I.pins_of fun p hp => I.pin p (List.mem_append_right _ (List.mem_append_left _ hp))
theorem ps_for {iter : Expr} {body : List Stmt} {wi : TI} {g : TG} {tb : TS} {pos : Pos} (hp : PassesOwn (model X.prog X.w) X.A X.env X.xe) (hc : X.calm = true) (hi : PI X tg iter wi) (hg : PG X tg g) (hb : PSs X body tb)
    (hs : autoParam (∀ x, foldedSetIterable iter X.env x = pure x) Internal.aut3._auto_1) : PS X (.For tg iter body [] pos) (tFor wi g tb) := by
  intro pins s σ H D I h
  refine wpAny_For (thn (hi pins s σ H _ I h) fun v s1 h1 => thn h1 fun itv s2 h2 => ?_) hs
  obtain ⟨it, fp, tn, J, H2, e, I2, T, st2, f2, W, ⟨m0, w0⟩, turn⟩ := h2
  subst e
  -- what stays true of the iterator's objects through the loop
  have stat : ∀ {H' : Hp}, (∀ b ∈ fp, H' b = none) → ∀ b ∈ fp, FpOk X pins H' b := fun hn b hb => ⟨hn b hb, (f2 b hb).2⟩
  refine codeAny_forLoop_any (fun n s' => ∃ i σ' H', Inv X pins σ' H' s' ∧ tn i s'.heap ∧ (∀ b ∈ fp, H' b = none) ∧ W i n σ' H') ?_ m0 ⟨0, σ, H2, I2, st2, fun b hb => (f2 b hb).1, w0⟩
  rintro n s3 ⟨i, σ3, H3, I3, st3, fr3, w3⟩
  rcases turn i n σ3 H3 w3 with ⟨stop, qn⟩ | ⟨go, N, hN, step⟩
  · refine wpAny_passesOwn hp (thn (T.done X rfl rfl rfl hc i pins s3 σ3 H3 X.xe I3 (stat fr3) st3 stop) fun r s4 ⟨hr, I4⟩ => ?_)
    subst hr
    exact wpAny_execs_nil ⟨σ3, H3, I4, qn⟩
  · refine wpAny_passesOwn hp (thn (T.item X rfl rfl rfl hc i pins s3 σ3 H3 X.xe I3 (stat fr3) st3 go) fun r s4 ⟨u, hr, h4⟩ => ?_)
    subst hr
    refine wpAny_passesOwn hp (thn h4 fun _ s5 zz => ?_)
    obtain ⟨x, H5, I5, r5, y5, st5, fr5⟩ := zz
    have I5' := I5.pinned (stat fr5) (T.obj _ _ st5)
    refine wpAny_passesOwn hp (thn (hg _ s5 σ3 H5 x u _ I5' r5 (step x H5 y5)) fun _ s6 zz => ?_)
    obtain ⟨σ6, H6, I6, q6⟩ := zz
    refine wpAny_passesOwn hp (thn (hb _ s6 σ6 H6 _ I6 q6) fun f s7 q7 => ?_)
    have again : ∀ {σ7 : St} {H7 : Hp}, Inv X (pins ++ pinsAt fp s5.heap) σ7 H7 s7 → N σ7 H7 → ∃ m, m < n ∧ ∃ i σ' H', Inv X pins σ' H' s7 ∧ tn i s7.heap ∧ (∀ b ∈ fp, H' b = none) ∧ W i m σ' H' := fun {σ7 H7} I7 n7 => by
      obtain ⟨m', hm, w7⟩ := hN σ7 H7 n7
      refine ⟨m', hm, i + 1, σ7, H7, I7.unpinned, T.keep _ _ _ st5 fun b hb o e => (I7.pin (b, o) (List.mem_append_right _ (List.mem_append_right _ (mem_pinsAt hb e)))).1, fun b hb => ?_, w7⟩
      obtain ⟨o, e, d⟩ := T.obj _ _ st5 b hb
      exact (I7.pin (b, o) (List.mem_append_right _ (List.mem_append_right _ (mem_pinsAt hb e)))).2.1
    cases f with
    | next => obtain ⟨σ7, H7, I7, n7⟩ := q7; exact again I7 n7
    | cont => obtain ⟨σ7, H7, I7, n7⟩ := q7; exact again I7 n7
    | brk => obtain ⟨σ7, H7, I7, q7⟩ := q7; exact ⟨σ7, H7, I7.unpinned, q7⟩
    | ret v => obtain ⟨x7, σ7, H7, I7, r7, q7⟩ := q7; exact ⟨x7, σ7, H7, I7.unpinned, r7, q7⟩
end

theorem for_list {K : PySem.W.Frag} {a : Addr} {xs : List V} {g : TG} {tb : TS} {D : Ends} {σ : St} {H : Hp} (Pv : Nat → St → Hp → Prop) (h0 : Pv 0 σ H) (hl : ∀ i σ H, i ≤ xs.length → Pv i σ H → SqL K H a xs)
    (hs : ∀ i x σ H, xs[i]? = some x → Pv i σ H → g x σ H fun σ2 H2 => tb { D with nx := Pv (i + 1), ct := Pv (i + 1), bk := D.nx } σ2 H2) (hd : ∀ σ H, Pv xs.length σ H → D.nx σ H) :
    ∃ W : Nat → Nat → St → Hp → Prop, (∃ m, W 0 m σ H) ∧ ∀ i m σ H, W i m σ H →
      ((Itl K a).stop i H ∧ D.nx σ H) ∨ ((Itl K a).go i H ∧ ∃ N : St → Hp → Prop, (∀ σ' H', N σ' H' → ∃ m', m' < m ∧ W (i + 1) m' σ' H') ∧ ∀ x H', (Itl K a).yld i H x H' → g x σ H' fun σ2 H2 => tb { D with nx := N, ct := N, bk := D.nx } σ2 H2) := by
  refine ⟨fun i m σ H => m = xs.length - i ∧ i ≤ xs.length ∧ Pv i σ H, ⟨xs.length, by simp, Nat.zero_le _, h0⟩, ?_⟩
  rintro i m σ H ⟨rfl, hi, p⟩
  have q := hl i σ H hi p
  by_cases hlt : i < xs.length
  · refine .inr ⟨⟨xs, xs[i], q, by simp [hlt]⟩, Pv (i + 1), fun σ' H' p' => ⟨xs.length - (i + 1), by omega, rfl, hlt, p'⟩, fun x H' y => ?_⟩
    obtain ⟨e, y⟩ := y
    subst e
    exact hs i x σ _ (y xs q) p
  · have e : i = xs.length := by omega
    subst e
    exact .inl ⟨⟨xs, q, Nat.le_refl _⟩, hd σ H p⟩
theorem for_range {lo : Int} {n : Nat} {g : TG} {tb : TS} {D : Ends} {σ : St} {H : Hp} (Pv : Nat → St → Hp → Prop) (h0 : Pv 0 σ H)
    (hs : ∀ i σ H, i < n → Pv i σ H → g (.int (lo + i)) σ H fun σ2 H2 => tb { D with nx := Pv (i + 1), ct := Pv (i + 1), bk := D.nx } σ2 H2) (hd : ∀ σ H, Pv n σ H → D.nx σ H) :
    ∃ W : Nat → Nat → St → Hp → Prop, (∃ m, W 0 m σ H) ∧ ∀ i m σ H, W i m σ H →
      ((Itr lo n).stop i H ∧ D.nx σ H) ∨ ((Itr lo n).go i H ∧ ∃ N : St → Hp → Prop, (∀ σ' H', N σ' H' → ∃ m', m' < m ∧ W (i + 1) m' σ' H') ∧ ∀ x H', (Itr lo n).yld i H x H' → g x σ H' fun σ2 H2 => tb { D with nx := N, ct := N, bk := D.nx } σ2 H2) := by
  refine ⟨fun i m σ H => m = n - i ∧ i ≤ n ∧ Pv i σ H, ⟨n, by simp, Nat.zero_le _, h0⟩, ?_⟩
  rintro i m σ H ⟨rfl, hi, p⟩
  by_cases hlt : i < n
  · refine .inr ⟨hlt, Pv (i + 1), fun σ' H' p' => ⟨n - (i + 1), by omega, rfl, hlt, p'⟩, fun x H' y => ?_⟩
    obtain ⟨e, y⟩ := y
    subst e y
    exact hs i σ _ hlt p
  · have e : i = n := by omega
    subst e
    exact .inl ⟨Nat.le_refl _, hd σ H p⟩
end Internal

namespace Internal
open PySem PySem.Spec PyProof.Rows

noncomputable abbrev R2 := V → V → Hp → VK → Prop
noncomputable def OpR (X : Cx) (f : Value → Value → Sem Value) (r : R2) : Prop :=
  ∀ (pins : List (Addr × Obj)) (s : Shared) (σ : St) (H : Hp) (x y : V) (v u : Value) (Q : VK), Inv X pins σ H s → RelV x v → RelV y u → r x y H Q →
    wpAny (model X.prog X.w) X.A (f v u) (EP X pins σ Q) X.xe s
noncomputable def CallR (X : Cx) (f : Value) (r : List V → Hp → VK → Prop) : Prop :=
  ∀ (pins : List (Addr × Obj)) (s : Shared) (σ : St) (H : Hp) (xs : List V) (us : List Value) (Q : VK), Inv X pins σ H s → Vals xs us → r xs H Q →
    wpAny (model X.prog X.w) X.A (call f us) (EP X pins σ Q) X.xe s
noncomputable def TruR (X : Cx) (r : V → Hp → (Bool → Hp → Prop) → Prop) : Prop :=
  ∀ (pins : List (Addr × Obj)) (s : Shared) (σ : St) (H : Hp) (x : V) (v : Value) (Q : Bool → Hp → Prop), Inv X pins σ H s → RelV x v → r x H Q →
    wpAny (model X.prog X.w) X.A (truthy v) (TP X pins σ Q) X.xe s

noncomputable abbrev tOp (r : R2) (ta tb : TE) : TE := fun σ H Q => ta σ H fun x H1 => tb σ H1 fun y H2 => r x y H2 Q
noncomputable abbrev tUn (r : V → Hp → VK → Prop) (ta : TE) : TE := fun σ H Q => ta σ H fun x H1 => r x H1 Q
noncomputable def rI (C : Int → Int → Prop) (g : Int → Int → V) : R2 := fun x y H Q => ∃ i j, x = .int i ∧ y = .int j ∧ C i j ∧ Q (g i j) H
noncomputable def rI0 (g : Int → Int → V) : R2 := fun x y H Q => ∃ i j, x = .int i ∧ y = .int j ∧ Q (g i j) H
section
variable {X : Cx} {a b c : Expr} {ta tb tc : TE} {pos : Pos}

theorem binT (ha : PE X a ta) (hb : PE X b tb) {pins : List (Addr × Obj)} {s : Shared} {σ : St} {H : Hp} {R : V → V → Hp → Prop} (I : Inv X pins σ H s)
    (h : ta σ H fun x H1 => tb σ H1 fun y H2 => R x y H2) {Q : Value → Shared → Prop} {f : Value → Value → Sem Value}
    (hf : ∀ v u s2 x y H2, Inv X pins σ H2 s2 → RelV x v → RelV y u → R x y H2 → wpAny (model X.prog X.w) X.A (f v u) Q X.xe s2) :
    wpAny (model X.prog X.w) X.A (eval a X.env) (fun v s₁ => wpAny (model X.prog X.w) X.A (eval b X.env) (fun u s₂ => wpAny (model X.prog X.w) X.A (f v u) Q X.xe s₂) X.xe s₁) X.xe s := by
  refine thn (ha pins s σ H _ I h) fun v s1 zz => ?_
  obtain ⟨x, H1, I1, r1, q1⟩ := zz
  refine thn (hb pins s1 σ H1 _ I1 q1) fun u s2 zz => ?_
  obtain ⟨y, H2, I2, r2, q2⟩ := zz
  exact hf v u s2 x y H2 I2 r1 r2 q2

theorem pe_op {op : Operator} {r : R2} (ho : OpR X (binaryOp op) r) (ha : PE X a ta) (hb : PE X b tb) : PE X (.BinOp a op b pos) (tOp r ta tb) := by
  intro pins s σ H Q I h
  exact wpAny_BinOp (binT ha hb I h fun v u s2 x y H2 I2 rx ry q => ho pins s2 σ H2 x y v u Q I2 rx ry q)
theorem opI {f : Value → Value → Sem Value} {C : Int → Int → Prop} {g : Int → Int → Int}
    (rule : ∀ (i j : Int) (t u : Tok) (s : Shared) (Q : Value → Shared → Prop) (E : Value → Shared → Prop), C i j → Q (.int (g i j) s.toks) { s with toks := s.toks + 1 } → wpAny (model X.prog X.w) X.A (f (.int i t) (.int j u)) Q E s) :
    OpR X f (rI C fun i j => .int (g i j)) := by
  intro pins s σ H x y v u Q I rx ry h
  obtain ⟨i, j, rfl, rfl, hc, q⟩ := h
  obtain ⟨t, rfl⟩ := rx
  obtain ⟨t', rfl⟩ := ry
  exact rule i j t t' s _ _ hc ⟨.int (g i j), H, I.tok _, ⟨_, rfl⟩, q⟩
theorem opI0 {f : Value → Value → Sem Value} {g : Int → Int → Int}
    (rule : ∀ (i j : Int) (t u : Tok) (s : Shared) (Q : Value → Shared → Prop) (E : Value → Shared → Prop), Q (.int (g i j) s.toks) { s with toks := s.toks + 1 } → wpAny (model X.prog X.w) X.A (f (.int i t) (.int j u)) Q E s) :
    OpR X f (rI0 fun i j => .int (g i j)) := by
  intro pins s σ H x y v u Q I rx ry h
  obtain ⟨i, j, rfl, rfl, q⟩ := h
  obtain ⟨t, rfl⟩ := rx
  obtain ⟨t', rfl⟩ := ry
  exact rule i j t t' s _ _ ⟨.int (g i j), H, I.tok _, ⟨_, rfl⟩, q⟩
theorem opB0 {f : Value → Value → Sem Value} {g : Int → Int → Bool}
    (rule : ∀ (i j : Int) (t u : Tok) (s : Shared) (Q : Value → Shared → Prop) (E : Value → Shared → Prop), Q (.bool (g i j)) s → wpAny (model X.prog X.w) X.A (f (.int i t) (.int j u)) Q E s) :
    OpR X f (rI0 fun i j => .bl (g i j)) := by
  intro pins s σ H x y v u Q I rx ry h
  obtain ⟨i, j, rfl, rfl, q⟩ := h
  obtain ⟨t, rfl⟩ := rx
  obtain ⟨t', rfl⟩ := ry
  exact rule i j t t' s _ _ ⟨.bl (g i j), H, I, rfl, q⟩

noncomputable def CPow (i j : Int) : Prop := 0 ≤ j ∧ j ≤ 1000000 ∧ i.natAbs < 2 ^ 64
theorem op_add : OpR X (binaryOp .Add) (rI0 fun i j => .int (i + j)) := opI0 fun _ _ _ _ _ _ _ q => add_int q
theorem op_sub : OpR X (binaryOp .Sub) (rI0 fun i j => .int (i - j)) := opI0 fun _ _ _ _ _ _ _ q => sub_int q
theorem op_modN : OpR X (binaryOp .Mod) (rI (fun _ j => j ≠ 0) fun i j => .int (i.fmod j)) := opI fun _ _ _ _ _ _ _ hc q => mod_int' hc q
theorem op_pow : OpR X (binaryOp .Pow) (rI CPow fun i j => .int (i ^ j.toNat)) := opI fun _ _ _ _ _ _ _ hc q => pow_int_small hc.1 hc.2.1 hc.2.2 q
end

noncomputable def scal : V → V → Bool
  | .non, .non => true | .non, .int _ => true | .int _, .non => true | .non, .bl _ => true | .bl _, .non => true | .non, .str _ => true | .str _, .non => true
  | .int _, .int _ => true | .bl _, .bl _ => true | .str _, .str _ => true | .byt _, .byt _ => true
  | .int _, .str _ => true | .str _, .int _ => true | .bl _, .str _ => true | .str _, .bl _ => true
  | _, _ => false
noncomputable def rEq : R2 := fun x y H Q => scal x y = true ∧ Q (.bl (decide (x = y))) H
noncomputable def rNe : R2 := fun x y H Q => scal x y = true ∧ Q (.bl (!decide (x = y))) H

theorem dec_int {i j : Int} : decide (V.int i = V.int j) = (i == j) := by
  rw [Bool.eq_iff_iff]
  simp
theorem dec_bl {i j : Bool} : decide (V.bl i = V.bl j) = (i == j) := by
  rw [Bool.eq_iff_iff]
  simp
theorem dec_str {i j : Str} : decide (V.str i = V.str j) = (i == j) := by
  rw [Bool.eq_iff_iff]
  simp
theorem dec_byt {i j : Array UInt8} : decide (V.byt i = V.byt j) = (i.toList == j.toList) := by
  rw [Bool.eq_iff_iff]
  cases i
  cases j
  simp

section
variable {X : Cx} {a b c : Expr} {ta tb tc : TE} {pos : Pos}
theorem fin_bl {pins : List (Addr × Obj)} {σ : St} {H : Hp} {s : Shared} {Q : VK} {k k' : Bool} (I : Inv X pins σ H s) (q : Q (.bl k) H) (e : k = k') : EP X pins σ Q (.bool k') s := by
  subst e
  exact ⟨.bl k, H, I, rfl, q⟩
theorem op_eq : OpR X (compareOp .Eq) rEq := by
  intro pins s σ H x y v u Q I rx ry h
  obtain ⟨hs, q⟩ := h
  cases x with
  | non =>
    cases rx
    cases y with
    | non => cases ry; exact PySem.EqNone.eq_none_none (fin_bl I q (by simp))
    | bl j => cases ry; exact PySem.EqNone.eq_none_bool (fin_bl I q (by simp))
    | int j => obtain ⟨t', rfl⟩ := ry; exact PySem.EqNone.eq_none_int (fin_bl I q (by simp))
    | str j => obtain ⟨t', rfl⟩ := ry; exact PySem.EqNone.eq_none_str (fin_bl I q (by simp))
    | _ => exact absurd (show false = true from hs) Bool.false_ne_true
  | bl i =>
    cases rx
    cases y with
    | non => cases ry; exact PySem.EqNone.eq_bool_none (fin_bl I q (by simp))
    | bl j => cases ry; exact eq_bool (fin_bl I q dec_bl)
    | str j => obtain ⟨t', rfl⟩ := ry; exact PySem.EqMixed.eq_bool_str (fin_bl I q (by simp))
    | _ => exact absurd (show false = true from hs) Bool.false_ne_true
  | int i =>
    obtain ⟨t, rfl⟩ := rx
    cases y with
    | non => cases ry; exact PySem.EqNone.eq_int_none (fin_bl I q (by simp))
    | int j => obtain ⟨t', rfl⟩ := ry; exact eq_int (fin_bl I q dec_int)
    | str j => obtain ⟨t', rfl⟩ := ry; exact PySem.EqMixed.eq_int_str (fin_bl I q (by simp))
    | _ => exact absurd (show false = true from hs) Bool.false_ne_true
  | str i =>
    obtain ⟨t, rfl⟩ := rx
    cases y with
    | non => cases ry; exact PySem.EqNone.eq_str_none (fin_bl I q (by simp))
    | bl j => cases ry; exact PySem.EqMixed.eq_str_bool (fin_bl I q (by simp))
    | int j => obtain ⟨t', rfl⟩ := ry; exact PySem.EqMixed.eq_str_int (fin_bl I q (by simp))
    | str j => obtain ⟨t', rfl⟩ := ry; exact eq_str (fin_bl I q dec_str)
    | _ => exact absurd (show false = true from hs) Bool.false_ne_true
  | byt i =>
    obtain ⟨t, rfl⟩ := rx
    cases y with
    | byt j => obtain ⟨t', rfl⟩ := ry; exact PySem.W.eq_bytes (fin_bl I q dec_byt)
    | _ => exact absurd (show false = true from hs) Bool.false_ne_true
  | _ => cases y <;> exact absurd (show false = true from hs) Bool.false_ne_true
theorem op_ne : OpR X (compareOp .NotEq) rNe := by
  intro pins s σ H x y v u Q I rx ry h
  obtain ⟨hs, q⟩ := h
  cases x with
  | non =>
    cases rx
    cases y with
    | non => cases ry; exact PySem.EqNone.ne_none_none (fin_bl I q (by simp))
    | bl j => cases ry; exact PySem.EqNone.ne_none_bool (fin_bl I q (by simp))
    | int j => obtain ⟨t', rfl⟩ := ry; exact PySem.EqNone.ne_none_int (fin_bl I q (by simp))
    | str j => obtain ⟨t', rfl⟩ := ry; exact PySem.EqNone.ne_none_str (fin_bl I q (by simp))
    | _ => exact absurd (show false = true from hs) Bool.false_ne_true
  | bl i =>
    cases rx
    cases y with
    | non => cases ry; exact PySem.EqNone.ne_bool_none (fin_bl I q (by simp))
    | bl j => cases ry; exact ne_bool (fin_bl I q (congrArg not dec_bl))
    | str j => obtain ⟨t', rfl⟩ := ry; exact PySem.EqMixed.ne_bool_str (fin_bl I q (by simp))
    | _ => exact absurd (show false = true from hs) Bool.false_ne_true
  | int i =>
    obtain ⟨t, rfl⟩ := rx
    cases y with
    | non => cases ry; exact PySem.EqNone.ne_int_none (fin_bl I q (by simp))
    | int j => obtain ⟨t', rfl⟩ := ry; exact ne_int (fin_bl I q (congrArg not dec_int))
    | str j => obtain ⟨t', rfl⟩ := ry; exact PySem.EqMixed.ne_int_str (fin_bl I q (by simp))
    | _ => exact absurd (show false = true from hs) Bool.false_ne_true
  | str i =>
    obtain ⟨t, rfl⟩ := rx
    cases y with
    | non => cases ry; exact PySem.EqNone.ne_str_none (fin_bl I q (by simp))
    | bl j => cases ry; exact PySem.EqMixed.ne_str_bool (fin_bl I q (by simp))
    | int j => obtain ⟨t', rfl⟩ := ry; exact PySem.EqMixed.ne_str_int (fin_bl I q (by simp))
    | str j => obtain ⟨t', rfl⟩ := ry; exact ne_str (fin_bl I q (congrArg not dec_str))
    | _ => exact absurd (show false = true from hs) Bool.false_ne_true
  | byt i =>
    obtain ⟨t, rfl⟩ := rx
    cases y with
    | byt j => obtain ⟨t', rfl⟩ := ry; exact PySem.W.ne_bytes (fin_bl I q (congrArg not dec_byt))
    | _ => exact absurd (show false = true from hs) Bool.false_ne_true
  | _ => cases y <;> exact absurd (show false = true from hs) Bool.false_ne_true

theorem op_lt : OpR X (compareOp .Lt) (rI0 fun i j => .bl (decide (i < j))) := opB0 fun _ _ _ _ _ _ _ q => lt_int q
theorem op_le : OpR X (compareOp .LtE) (rI0 fun i j => .bl (decide (i ≤ j))) := opB0 fun _ _ _ _ _ _ _ q => le_int q
theorem op_gt : OpR X (compareOp .Gt) (rI0 fun i j => .bl (decide (j < i))) := opB0 fun _ _ _ _ _ _ _ q => gt_int q
theorem op_notN : OpR X (compareOp .IsNot) (fun x y H Q => y = .non ∧ Q (.bl (!decide (x = .non))) H) := by
  intro pins s σ H x y v u Q I rx ry h
  obtain ⟨rfl, q⟩ := h
  cases ry
  refine isnot_none_gen (fin_bl I q ?_)
  cases x <;> first
    | (cases rx; rfl)
    | (obtain ⟨t, rfl⟩ := rx; rfl)

theorem OpR.or {f : Value → Value → Sem Value} {r r' : R2} (h : OpR X f r) (h' : OpR X f r') : OpR X f (fun x y H Q => r x y H Q ∨ r' x y H Q) := by
  intro pins s σ H x y v u Q I rx ry q
  rcases q with q | q
  · exact h pins s σ H x y v u Q I rx ry q
  · exact h' pins s σ H x y v u Q I rx ry q

theorem nomark (b : Expr) {op : CmpOp} (h : autoParam (op ≠ .In) Internal.aut1._auto_1) (h2 : autoParam (op ≠ .NotIn) Internal.aut1._auto_1) : behindInMarks op b = false := by
  have e1 : (op == CmpOp.In) = false := by cases op <;> first | rfl | exact absurd rfl h
  have e2 : (op == CmpOp.NotIn) = false := by cases op <;> first | rfl | exact absurd rfl h2
  cases b <;> simp [behindInMarks, e1, e2]
theorem pe_cmpR {op : CmpOp} {r : R2} (ho : OpR X (compareOp op) r) (ha : PE X a ta) (hb : PE X b tb) (hm : behindInMarks op b = false) : PE X (.Compare a [op] [b] pos) (tOp r ta tb) := by
  intro pins s σ H Q I h
  exact wpAny_Compare1 (binT ha hb I h fun v u s2 x y H2 I2 rx ry q => ho pins s2 σ H2 x y v u Q I2 rx ry q) hm
noncomputable abbrev tTest (t : TE) : TT := fun σ H Q => t σ H fun x H' => ∃ k, x = .bl k ∧ Q k H'
theorem pt_cmpR {op : CmpOp} {r : R2} (ho : OpR X (compareOp op) r) (ha : PE X a ta) (hb : PE X b tb) (hm : behindInMarks op b = false) : PT X (.Compare a [op] [b] pos) (tTest (tOp r ta tb)) := by
  intro pins s σ H Q I h
  refine wpAny_isTrue_Compare1 (thn (ha pins s σ H _ I h) fun v s1 ⟨x, H1, I1, r1, q1⟩ => thn (hb pins s1 σ H1 _ I1 q1) fun u s2 ⟨y, H2, I2, r2, q2⟩ =>
    thn (ho pins s2 σ H2 x y v u _ I2 r1 r2 q2) fun c s3 ⟨z, H3, I3, r3, k, e, q3⟩ => ?_) hm
  subst e
  cases r3
  exact wpAny_truthy_bool ⟨H3, I3, q3⟩
noncomputable def tChain (r r' : R2) (ta tb tc : TE) : TE := fun σ H Q => ta σ H fun x H1 => tb σ H1 fun y H2 => r x y H2 fun z H3 => ∃ k, z = .bl k ∧
  (if k = true then tc σ H3 fun w' H4 => r' y w' H4 Q else Q (.bl false) H3)
theorem pt_chain {op op' : CmpOp} {r r' : R2} (ho : OpR X (compareOp op) r) (ho' : OpR X (compareOp op') r') (ha : PE X a ta) (hb : PE X b tb) (hc : PE X c tc)
    (hm : autoParam (lastMarks [op, op'] [b, c] = false) Internal.aut4._auto_1) : PT X (.Compare a [op, op'] [b, c] pos) (tTest (tChain r r' ta tb tc)) := by
  intro pins s σ H Q I h
  refine isTrue_chain (thn (ha pins s σ H _ I h) fun v s1 ⟨x, H1, I1, r1, q1⟩ => test_link (thn (hb pins s1 σ H1 _ I1 q1) fun u s2 ⟨y, H2, I2, r2, q2⟩ =>
    thn (ho pins s2 σ H2 x y v u _ I2 r1 r2 q2) fun d s3 ⟨z, H3, I3, r3, k, e, q3⟩ => ?_)) hm
  subst e
  cases r3
  refine wpAny_truthy_bool ?_
  cases k with
  | false =>
    obtain ⟨k', e', q'⟩ := q3
    cases e'
    exact ite_ff ⟨H3, I3, q'⟩
  | true =>
    refine ite_tt (test_last (thn (hc pins s3 σ H3 _ I3 q3) fun w' s4 ⟨z', H4, I4, r4, q4⟩ => thn (ho' pins s4 σ H4 y z' u w' _ I4 r2 r4 q4) fun d' s5 zz => ?_))
    obtain ⟨z2, H5, I5, r5, k2, e2, q5⟩ := zz
    subst e2
    cases r5
    exact wpAny_truthy_bool ⟨H5, I5, q5⟩

noncomputable def TruV (K : PySem.W.Frag) (x : V) (H : Hp) (k : Bool) : Prop :=
  match x with
  | .non => k = false
  | .bl b => k = b
  | .int i => k = (i != 0)
  | .str y => y.length ≤ sizeLine ∧ k = ((y.length : Int) != 0)
  | .byt y => y.size ≤ sizeLine ∧ k = ((y.size : Int) != 0)
  | .ref p => (∃ xs, SqL K H p xs ∧ k = !xs.isEmpty) ∨ (∃ xs, SqT K H p xs ∧ k = !xs.isEmpty) ∨ ∃ kvs, H p = some (.dK kvs) ∧ k = !kvs.isEmpty
  | _ => False
theorem isEmpty_kv {κ : Type} {kvs : List (κ × V)} {vs : List (κ × Value)} (r : KV kvs vs) : (!vs.isEmpty) = !kvs.isEmpty := by
  cases r <;> rfl
theorem isEmpty_of {xs : List V} {its : List Value} (r : Vals xs its) : (!its.toArray.isEmpty) = !xs.isEmpty := by
  cases r <;> simp
theorem line63 : (sizeLine : Nat) < 2 ^ 63 := by rw [sizeLine_eq]; decide
theorem tru_ok : TruR X (fun x H Q => ∃ k, TruV X.K x H k ∧ Q k H) := by
  intro pins s σ H x v Q I rx h
  obtain ⟨k, e, q⟩ := h
  have hl := line63
  have hs : sizeLine = 16777216 := sizeLine_eq
  cases x with
  | non =>
    cases rx
    have e' : k = false := e
    subst e'
    exact truthy_none ⟨H, I, q⟩
  | bl b =>
    cases rx
    have e' : k = b := e
    subst e'
    exact wpAny_truthy_bool ⟨H, I, q⟩
  | int i =>
    obtain ⟨t, rfl⟩ := rx
    have e' : k = (i != 0) := e
    subst e'
    exact PySem.P.truthy_int ⟨H, I, q⟩
  | str y =>
    obtain ⟨t, rfl⟩ := rx
    obtain ⟨hy, e'⟩ : y.length ≤ sizeLine ∧ k = ((y.length : Int) != 0) := e
    subst e'
    exact PySem.P.truthy_str (by omega) ⟨H, I.tok _, q⟩
  | byt y =>
    obtain ⟨t, rfl⟩ := rx
    obtain ⟨hy, e'⟩ : y.size ≤ sizeLine ∧ k = ((y.size : Int) != 0) := e
    subst e'
    exact PySem.W.truthy_bytes (by omega) ⟨H, I.tok _, q⟩
  | ref p =>
    cases rx
    have e' : (∃ xs, SqL X.K H p xs ∧ k = !xs.isEmpty) ∨ (∃ xs, SqT X.K H p xs ∧ k = !xs.isEmpty) ∨ ∃ kvs, H p = some (.dK kvs) ∧ k = !kvs.isEmpty := e
    rcases e' with ⟨xs, hx, e'⟩ | ⟨xs, hx, e'⟩ | ⟨kvs, hx, e'⟩
    · subst e'
      obtain ⟨its, r, pl, hz⟩ := I.list hx
      have hlen := r.length
      exact wpAny_truthy_list pl.isList (by simp only [List.size_toArray]; omega) ⟨H, I.tok _, by rw [isEmpty_of r]; exact q⟩
    · subst e'
      obtain ⟨its, r, pl, hz⟩ := I.tuple hx
      have hlen := r.length
      exact truthy_tuple pl (by simp only [List.size_toArray]; omega) ⟨H, I.tok _, by rw [isEmpty_of r]; exact q⟩
    · subst e'
      obtain ⟨hz, hS, vs, r, m⟩ : kvs.length ≤ sizeLine ∧ (p == sysModules) = false ∧ ∃ vs, KV kvs vs ∧ s.heap.DictOf (mixKind X.prog X.w) p vs := I.hok p _ hx
      have hlen : kvs.length = vs.length := Paired.length r
      exact wpAny_truthy_dict hS m (by omega) ⟨H, I.tok _, by rw [isEmpty_kv r]; exact q⟩
  | _ => exact (show False from e).elim
theorem pt_truth (ha : PE X a ta) (he : ∀ whole, isTrue a X.env whole = (do let v ← whole; standAt a.pos; holding [v] (truthy v))) :
    PT X a (fun σ H Q => ta σ H fun x H' => ∃ k, TruV X.K x H' k ∧ Q k H') := by
  intro pins s σ H Q I h
  exact isTrue_plain (thn (ha pins s σ H _ I h) fun v s1 ⟨x, H1, I1, r1, q1⟩ => tru_ok pins s1 σ H1 x v Q I1 r1 q1) (he _)

theorem vals1 {x : V} {us : List Value} (r : Vals [x] us) : ∃ u, us = [u] ∧ RelV x u := by
  cases r with
  | cons r1 r2 => cases r2; exact ⟨_, rfl, r1⟩
theorem vals2 {x y : V} {us : List Value} (r : Vals [x, y] us) : ∃ u w', us = [u, w'] ∧ RelV x u ∧ RelV y w' := by
  cases r with
  | cons r1 r2 =>
    cases r2 with
    | cons r3 r4 => cases r4; exact ⟨_, _, rfl, r1, r3⟩
theorem call_max2 (hc : X.calm = true) : CallR X (.builtin "max") (fun xs H Q => ∃ i j, xs = [.int i, .int j] ∧ Q (.int (if j > i then j else i)) H) := by
  intro pins s σ H xs us Q I r h
  obtain ⟨i, j, rfl, q⟩ := h
  obtain ⟨u, w', rfl, ⟨t, rfl⟩, ⟨t', rfl⟩⟩ := vals2 r
  refine max_two_ints (I.ok.hd hc) fun h' tk k => ⟨_, H, I.kept k, ?_, q⟩
  by_cases hj : j > i
  · rw [if_pos hj, if_pos hj]; exact ⟨_, rfl⟩
  · rw [if_neg hj, if_neg hj]; exact ⟨_, rfl⟩
end
end Internal

namespace Internal
open PySem PySem.Spec PyProof.Rows

set_option genInjectivity false in
set_option genSizeOf false in
structure ObjM (h : Heap) (x dx C : Addr) (mA : Str → Option Value) : Prop where
  obj : h.get? x = some (PySem.W.instObj C dx)
  ns : h.Ns1 dx mA
  ne : dx ≠ x

theorem lookIn_ns {h : Heap} {dx : Addr} {mA : Str → Option Value} (n : h.Ns1 dx mA) : ∃ od, h.get? dx = some od ∧ ∀ name, PySem.W.lookIn name od = some (mA name) := by
  obtain ⟨o, es, ep, ho, hd, hk, _, hm⟩ := n
  refine ⟨o, ho, fun name => ?_⟩
  have e := hm name
  unfold nsFind findBy at e
  rw [← Array.find?_toList] at e
  unfold PySem.W.lookIn
  rw [hd]
  dsimp only
  split
  · rename_i y q
    rw [q] at e
    exact congrArg some e
  · rename_i q
    rw [q] at e
    have a : es.toList.any (·.refKey) = false := by
      rw [List.any_eq_false]
      intro y hy
      obtain ⟨z, t, hkey⟩ := hk y (Array.mem_toList_iff.mp hy)
      simp [DictEntry.refKey, hkey]
    have a' : ¬ es.toList.any (·.refKey) = true := by rw [a]; exact Bool.false_ne_true
    rw [if_neg a']
    exact congrArg some e

theorem ObjM.look {h : Heap} {x dx C : Addr} {mA : Str → Option Value} (I : ObjM h x dx C mA) : ∃ od, PySem.W.InstAt h x (PySem.W.instObj C dx) C (some od) ∧ ∀ name, PySem.W.lookIn name od = some (mA name) :=
  let ⟨od, ho, hl⟩ := lookIn_ns I.ns
  ⟨od, ⟨I.obj, rfl, rfl, ho⟩, hl⟩

section
variable {prog : Program} {w : World} {A : Around} {E : Value → Shared → Prop} {s : Shared} {K : PySem.W.Frag} {x dx C f : Addr} {mA : Str → Option Value} {name : Str} {v : Value}

end

section
variable {P : Program} {w : World} {H H' : Hp} {h h' : Heap} {a C dx : Addr} {fs fs' : List (Str × V)}
theorem ins_get (hok : HOk P w H h) (e : H a = some (.ins C dx fs)) : ∃ mA, ObjM h a dx C mA ∧ (∀ f, RelO (fs.lookup f) (mA f)) ∧ PySem.Within mA (fs.map (·.1)) ∧ fs.length ≤ 1000 ∧ H dx = some (.own a) := by
  obtain ⟨d, z, ne, ob, mA, n, r, q⟩ := (show ObjOk P w H h a (.ins C dx fs) from hok a _ e)
  exact ⟨mA, ⟨ob, n, ne⟩, r, q, z, d⟩
end

set_option genInjectivity false in
set_option genSizeOf false in
structure Cls (K : PySem.W.Frag) (C : Addr) : Prop where
  pg : PySem.W.plainGet K C Str.empty = true
  hd : PySem.W.hasDictIn K C = true
  po : PySem.W.plainOver K C = true
  sa : PySem.W.findIn K (.ref C) "__setattr__" = some (some (.builtin "object.__setattr__"))
theorem Cls.get {K : PySem.W.Frag} {C : Addr} (c : Cls K C) (f : Str) : PySem.W.plainGet K C f = true := c.pg
set_option genInjectivity false in
set_option genSizeOf false in
structure Con (K : PySem.W.Frag) (C : Addr) (f : Str) (v : V) (u : Value) : Prop where
  at_ : PySem.W.findIn K (.ref C) f = some (some u)
  rel : RelV v u
  get : PySem.W.specialIn K u "__get__" = some none
  cp : PySem.W.copiedNames.contains f = false
set_option genInjectivity false in
set_option genSizeOf false in
structure Meth (K : PySem.W.Frag) (C : Addr) (m : Str) (f : Addr) : Prop where
  at_ : PySem.W.findIn K (.ref C) m = some (some (.ref f))
  fn : PySem.W.isFn K (.ref f) = true
  kp : PySem.W.keepIn K (.ref f) = true

section
variable {X : Cx} {pins : List (Addr × Obj)} {σ : St} {H : Hp} {s : Shared} {a C dx : Addr} {fs : List (Str × V)} {f : Str} {v : V} {A : Around} {E : Value → Shared → Prop}

end

section
variable {X : Cx} {o e value : Expr} {f : Str} {pos pos' tpos : Pos} {ta tv : TE}
end

section
variable {X : Cx} {pins : List (Addr × Obj)} {σ : St} {H : Hp} {s : Shared} {A : Around} {E : Value → Shared → Prop} {Q : Value → Shared → Prop} {c : Value} {b : Bool}
inductive TyOf (K : PySem.W.Frag) (H : Hp) : V → Value → Prop where
  | non : TyOf K H .non (.type "NoneType")
  | bl (x : Bool) : TyOf K H (.bl x) (.type "bool")
  | int (i : Int) : TyOf K H (.int i) (.type "int")
  | str (x : Str) : TyOf K H (.str x) (.type "str")
  | flt (x : UInt64) : TyOf K H (.flt x) (.type "float")
  | lst {a : Addr} {xs : List V} (e : H a = some (.lst xs)) : TyOf K H (.ref a) (.type "list")
  | frz {a : Addr} {o : Obj} {xs : List V} (e : H a = some (.frz o (.lst xs))) : TyOf K H (.ref a) (.type "list")
  | tup {a : Addr} {xs : List V} (e : H a = some (.tup xs)) : TyOf K H (.ref a) (.type "tuple")
  | dK {a : Addr} {kvs : List (Key × V)} (e : H a = some (.dK kvs)) : TyOf K H (.ref a) (.type "dict")
  | dT {a : Addr} {kvs : List (List Key × V)} (e : H a = some (.dT kvs)) : TyOf K H (.ref a) (.type "dict")
  | ins {a C dx : Addr} {fs : List (Str × V)} (e : H a = some (.ins C dx fs)) (cl : Cls K C) (ha : PySem.W.findIn K (.ref C) "__class__" = some (some (.builtin "object.__class__")))
      (hn : PySem.W.specialIn K (.builtin "object.__class__") "__get__" = some (some (.builtin "getset_descriptor.__get__"))) (htk : PySem.W.takesIn K (.builtin "object.__class__") = some true)
      (hm : PySem.W.mroIn K C (.type "object") = some true) : TyOf K H (.ref a) (.ref C)
theorem isinst_ok {x : V} {u t : Value} (I : Inv X pins σ H s) (rx : RelV x u) (ty : TyOf X.K H x t) (e : PySem.W.kitOne X.K t c = some b) (h : ∀ tk, Q (.bool b) { s with toks := tk }) :
    wpAny (model X.prog X.w) A (call (.builtin "isinstance") [u, c]) Q E s := by
  cases ty with
  | non => cases (show u = Value.none from rx); exact PySem.W.kia_one PySem.W.kitx_none I.kIn True.intro e (fun z => nomatch z) h
  | bl y => cases (show u = Value.bool y from rx); exact PySem.W.kia_one PySem.W.kitx_bool I.kIn True.intro e (fun z => nomatch z) h
  | int i => obtain ⟨t, q⟩ := (show ∃ t, u = Value.int i t from rx); cases q; exact PySem.W.kia_one PySem.W.kitx_int I.kIn True.intro e (fun z => nomatch z) h
  | str y => obtain ⟨t, q⟩ := (show ∃ t, u = Value.str y t from rx); cases q; exact PySem.W.kia_one PySem.W.kitx_str I.kIn True.intro e (fun z => nomatch z) h
  | flt y => obtain ⟨t, q⟩ := (show ∃ t, u = Value.float y t from rx); cases q; exact PySem.W.kia_one PySem.W.kitx_float I.kIn True.intro e (fun z => nomatch z) h
  | @lst a xs ea =>
    cases (show u = Value.ref a from rx)
    obtain ⟨_, _, n, _, h1⟩ := (show ObjOk X.prog X.w H s.heap a (.lst xs) from I.hok a _ ea)
    exact PySem.W.kia_one PySem.W.kitx_list I.kIn ⟨_, h1, rfl⟩ e (fun z => nomatch z) h
  | @frz a ob xs ea =>
    cases (show u = Value.ref a from rx)
    obtain ⟨_, _, _, n, _, h1⟩ := (show ObjOk X.prog X.w H s.heap a (.frz ob (.lst xs)) from I.hok a _ ea)
    exact PySem.W.kia_one PySem.W.kitx_list I.kIn ⟨_, h1, rfl⟩ e (fun z => nomatch z) h
  | @tup a xs ea =>
    cases (show u = Value.ref a from rx)
    obtain ⟨_, _, _, p⟩ := (show ObjOk X.prog X.w H s.heap a (.tup xs) from I.hok a _ ea)
    obtain ⟨o, h1, h2, _⟩ := p
    exact PySem.W.kia_one PySem.W.kitx_tuple I.kIn ⟨o, h1, h2⟩ e (fun z => nomatch z) h
  | @dK a kvs ea =>
    cases (show u = Value.ref a from rx)
    obtain ⟨_, _, vs, _, p⟩ := (show ObjOk X.prog X.w H s.heap a (.dK kvs) from I.hok a _ ea)
    obtain ⟨o, es, ep, h1, h2, _⟩ := p
    exact PySem.W.kia_one PySem.W.kitx_dict I.kIn ⟨o, h1, h2.1⟩ e (fun z => nomatch z) h
  | @dT a kvs ea =>
    cases (show u = Value.ref a from rx)
    obtain ⟨_, _, xs, _, o, es, ep, h1, h2, _⟩ := (show ObjOk X.prog X.w H s.heap a (.dT kvs) from I.hok a _ ea)
    exact PySem.W.kia_one PySem.W.kitx_dict I.kIn ⟨o, h1, h2.1⟩ e (fun z => nomatch z) h
  | @ins a C dx fs ea cl ha hn htk hm =>
    cases (show u = Value.ref a from rx)
    obtain ⟨mA, O, _⟩ := ins_get I.hok ea
    obtain ⟨od, J, _⟩ := O.look
    exact PySem.W.kia_one (PySem.W.kitx_own (cl.get _) cl.hd ha hn htk hm) I.kIn J e (fun z => nomatch z) h
end
end Internal

namespace Internal
open PySem PySem.Spec PyProof.Rows

set_option genInjectivity false in
set_option genSizeOf false in
structure Room (k : Nat) (A : Around) : Prop where
  hd : A.handled = none
  dp : A.depth + 3 * k + 5 < recursionLimit
  un : A.units + 16 * k + 200 < cLine
theorem Room.mono {j k : Nat} {A : Around} (r : Room k A) (h : j ≤ k) : Room j A := ⟨r.hd, by have := r.dp; omega, by have := r.un; omega⟩
theorem Room.deeper {k : Nat} {A : Around} (r : Room (k + 1) A) (env : Env) : Room k (A.deeper env) :=
  ⟨r.hd, by have := r.dp; show A.depth + 1 + 3 * k + 5 < _; omega, by have := r.un; show A.units + 3 + 16 * k + 200 < _; omega⟩
theorem Room.depth {k : Nat} {A : Around} (r : Room k A) : A.depth < recursionLimit := by have := r.dp; omega
theorem Room.units {k : Nat} {A : Around} (r : Room k A) : A.units + 64 < cLine := by have := r.un; omega
noncomputable abbrev tNil : TA := fun _ H Q => Q [] H
noncomputable abbrev tCons (ta : TE) (tr : TA) : TA := fun σ H Q => ta σ H fun x H1 => tr σ H1 fun xs H2 => Q (x :: xs) H2
section
variable {X : Cx} {e : Expr} {es : List Expr} {te : TE} {t : TA} {pos : Pos}
theorem pa_nil : PA X [] tNil := fun _ _ _ _ H Q I h => Calls.spliced_nil ⟨[], H, I, .nil, h⟩
theorem pa_cons (ha : PE X e te) (hr : PA X es t) (hs : autoParam (starEach (e :: es) X.env = (false, eval e X.env) :: starEach es X.env) Internal.aut2._auto_1) : PA X (e :: es) (tCons te t) := by
  intro pos pins s σ H Q I h
  rw [hs]
  show wpAny _ _ (spliced ((false, eval e X.env) :: backTo pos (starEach es X.env))) _ _ s
  refine Calls.spliced_cons (thn (ha pins s σ H _ I h) fun u s1 zz => ?_)
  obtain ⟨x, H1, I1, r1, q1⟩ := zz
  exact thn (hr pos pins s1 σ H1 _ I1 q1) fun us s2 ⟨xs, H2, I2, r2, q2⟩ => ⟨x :: xs, H2, I2, .cons r1 r2, q2⟩

noncomputable def tTup (t : TA) : TE := fun σ H Q => t σ H fun xs H1 => xs.length ≤ sizeLine ∧ ∀ p, H1 p = none → Q (.ref p) (upd H1 p (.tup xs))
noncomputable def tLst (t : TA) : TE := fun σ H Q => t σ H fun xs H1 => xs.length ≤ sizeLine ∧ ∀ p, H1 p = none → Q (.ref p) (upd H1 p (.lst xs))
theorem pe_tup {x1} (h : PA X es t) : PE X (.Tuple es x1 pos) (tTup t) := by
  intro pins s σ H Q I hq
  refine wpAny_Tuple_spliced (thn (h pos pins s σ H _ I hq) fun us s1 ⟨xs, H1, I1, r, z, q⟩ => ⟨by rw [← r.length]; exact z, ?_⟩)
  have hf : H1 s1.heap.objs.size = none := I1.hok.fresh (Nat.le_refl _)
  refine ⟨.ref s1.heap.objs.size, upd H1 s1.heap.objs.size (.tup xs), I1.laid (t' := s1.toks) (fun b u e => Heap.get?_push_of_some _ e) (Nat.le_refl _) ?_, rfl, q _ hf⟩
  exact ⟨z, us, r, ⟨_, Heap.get?_push_size _ rfl, rfl, _, rfl⟩⟩
theorem pe_lst (h : PA X es t) : PE X (.List es pos) (tLst t) := by
  intro pins s σ H Q I hq
  refine wpAny_List_spliced (thn (h pos pins s σ H _ I hq) fun us s1 ⟨xs, H1, I1, r, z, q⟩ => ⟨by rw [← r.length]; exact z, ?_⟩)
  have hf : H1 s1.heap.objs.size = none := I1.hok.fresh (Nat.le_refl _)
  refine ⟨.ref s1.heap.objs.size, upd H1 s1.heap.objs.size (.lst xs), I1.laid (t' := s1.toks) (fun b u e => Heap.get?_push_of_some _ e) (Nat.le_refl _) ?_, rfl, q _ hf⟩
  exact ⟨z, us, 0, r, Heap.get?_push_size _ rfl⟩
end

noncomputable abbrev Sp := List V → Hp → VK → XK → Prop
noncomputable abbrev CXT := List Env → Hp → Shared → XK → Value → Shared → Prop

set_option genInjectivity false in
set_option genSizeOf false in
structure Env0 (P : Program) (w : World) (K : PySem.W.Frag) (mg : Str → Option Value) (base : Heap) (A : Around) (outer : List Env) (s : Shared) (H : Hp) : Prop where
  frames : A.frames = some outer
  mod : Mod K mg base
  bs : ∀ b o, base.get? b = some o → s.heap.get? b = some o ∧ H b = none
  bsz : base.objs.size ≤ s.heap.objs.size
  funs : s.heap.FunFrames base outer
  frf : ∀ b ∈ frs outer, H b = none
  hok : HOk P w H s.heap
  bare : AllBare s.gens
noncomputable def CE (outer : List Env) (P : Program) (w : World) (H : Hp) (s : Shared) (Q : VK) (u : Value) (s' : Shared) : Prop :=
  ∃ v H', s'.os = s.os ∧ AllBare s'.gens ∧ Un (frs outer) [] H H' s.heap s'.heap ∧ HOk P w H' s'.heap ∧ RelV v u ∧ Q v H'
noncomputable def CR (CX : CXT) (outer : List Env) (P : Program) (w : World) (H : Hp) (s : Shared) (Q : VK) (E : XK) (r : Result) (s' : Shared) : Prop :=
  match r with
  | .ok (.ret u) => CE outer P w H s Q u s'
  | .ok _ => False
  | .error e => CX outer H s E e s'
set_option genInjectivity false in
set_option genSizeOf false in
structure FnOk (P : Program) (w : World) (K : PySem.W.Frag) (mg : Str → Option Value) (base : Heap) (CX : CXT) (k : Nat) (f : Addr) (fd : FuncData) (ps : List Str) (sp : Sp) : Prop where
  len : ∀ vs H Q E, sp vs H Q E → vs.length = ps.length
  run : ∀ (A : Around) (outer : List Env) (s : Shared) (H : Hp) (args : Args) (us : List Value) (vs : List V) (Q : VK) (E : XK), Room k A → Env0 P w K mg base A outer s H → BindsTo s fd args (ps.zip us) → Vals vs us → sp vs H Q E →
    codeAny (model P w) A (.call (.ref f) args) (CR CX outer P w H s Q E) s
section
variable {X : Cx} {pins : List (Addr × Obj)} {σ : St} {H : Hp} {s s' : Shared}
theorem Inv.env0 (I : Inv X pins σ H s) : Env0 X.prog X.w X.K X.mg X.base X.A X.stack s H :=
  ⟨I.ok.frames, I.ok.mod, I.bs, Nat.le_trans I.ok.bsz I.sz, I.stack, I.stkFree, I.hok, I.bare⟩
theorem Inv.after {Q : VK} {u : Value} (I : Inv X pins σ H s) (h : CE X.stack X.prog X.w H s Q u s') : EP X pins σ Q u s' := by
  obtain ⟨v, H', os, bare, un, hok, r, q⟩ := h
  obtain ⟨hh, g, d, t, os'⟩ := s'
  obtain rfl : os' = s.os := os
  exact ⟨v, H', I.call (h' := hh) (g' := g) (d' := d) (t' := t) (ch := []) un hok bare (fun b z => absurd z (by simp)), r, q⟩
end

noncomputable def tCall (sp : Sp) (dvs : List V) (E : XK) (t : TA) : TE := fun σ H Q => t σ H fun vs H1 => sp (vs ++ dvs) H1 Q E
noncomputable def Binds (K : PySem.W.Frag) (fd : FuncData) (ps : List Str) (ds : List Value) : Prop :=
  ∀ (s : Shared) (us : List Value), K.In s.heap → (us ++ ds).length = ps.length → BindsTo s fd ⟨us, []⟩ (ps.zip (us ++ ds))
theorem Binds.all {K : PySem.W.Frag} {fd : FuncData} {ps : List Str} (h : ∀ us : List Value, us.length = ps.length → bindArgs fd ⟨us, []⟩ = pure (ps.zip us)) : Binds K fd ps [] := fun s us _ hl => by
  rw [List.append_nil] at hl ⊢
  exact .of_eq (h us hl)

noncomputable def Passes (CX : CXT) (X : Cx) (E : XK) : Prop := ∀ (pins : List (Addr × Obj)) (σ : St) (H : Hp) (s : Shared) (e : Value) (s' : Shared), Inv X pins σ H s → CX X.stack H s E e s' → X.xe e s'

section
variable {X : Cx} {CX : CXT} {k : Nat} {f C : Addr} {fd : FuncData} {ps : List Str} {sp : Sp} {dvs : List V} {ds : List Value} {E : XK} {x m : Str} {p pos apos : Pos} {e o : Expr} {es : List Expr} {ta : TE} {t : TA}

theorem run_fn {pins : List (Addr × Obj)} {σ : St} {H : Hp} {s : Shared} {Q : VK} {us : List Value} {vs : List V} (F : FnOk X.prog X.w X.K X.mg X.base CX k f fd ps sp) (hr : Room k X.A) (hb : Binds X.K fd ps ds) (hd : Vals dvs ds) (hx : Passes CX X E)
    (I : Inv X pins σ H s) (r : Vals vs us) (h : sp (vs ++ dvs) H Q E) : wpAny (model X.prog X.w) X.A (call (.ref f) us) (EP X pins σ Q) X.xe s := by
  have r2 : Vals (vs ++ dvs) (us ++ ds) := r.append hd
  have hl : (us ++ ds).length = ps.length := by rw [← r2.length]; exact F.len _ _ _ _ h
  refine wpAny_call (codeAny_mono (F.run X.A X.stack s H ⟨us, []⟩ (us ++ ds) (vs ++ dvs) Q E hr I.env0 (hb s us I.kIn hl) r2 h) fun r s' hq => ?_)
  cases r with
  | error e => exact hx pins σ H s e s' I hq
  | ok fl =>
    cases fl with
    | ret u => exact I.after hq
    | next => exact False.elim hq
    | brk => exact False.elim hq
    | cont => exact False.elim hq

theorem pe_call (F : FnOk X.prog X.w X.K X.mg X.base CX k f fd ps sp) (hr : Room k X.A) (hg : Gl X x) (hm : X.mg x = some (.ref f)) (hk : PySem.W.keepIn X.K (.ref f) = true) (hb : Binds X.K fd ps ds) (hd : Vals dvs ds) (hx : Passes CX X E)
    (ha : PA X (e :: es) t) (hdb : autoParam ((x == ("__debug__" : Str)) = false) Internal.aut1._auto_1) (he : autoParam (starEach (e :: es) X.env = (false, eval e X.env) :: starEach es X.env) Internal.aut2._auto_1) (hpl : autoParam ((backTo pos (starEach es X.env)).any (·.1) = false) Internal.aut2._auto_1) :
    PE X (.Call (.Name x p) (e :: es) [] pos) (tCall sp dvs E t) := by
  intro pins s σ H Q I h
  refine wpAny_Call_Name_kw (ld_glob I hg hm ?_ hdb)
  refine PySem.W.callWith_K (h₀ := X.base) I.ok.mod.kin hk (thn (ha pos pins s σ H _ I h) fun us s1 ⟨vs, H1, I1, r, q⟩ => ⟨I1.kIn, ?_⟩) he hpl
  exact run_fn F hr hb hd hx I1 r q
set_option genInjectivity false in
set_option genSizeOf false in
structure Mk (K : PySem.W.Frag) (C f : Addr) : Prop where
  makes : PySem.W.makesIn K C = true
  init : PySem.W.findIn K (.ref C) "__init__" = some (some (.ref f))
  fn : PySem.W.isFn K (.ref f) = true
  kp : PySem.W.keepIn K (.ref C) = true

end

section
variable {X : Cx} {CX : CXT} {k : Nat} {f C : Addr} {fd : FuncData} {ps ks : List Str} {sp : Sp} {E : XK} {x m : Str} {p pos apos kpos : Pos} {e o : Expr} {es : List Expr} {kws : List Keyword} {te ta : TE} {t tk : TA} {nm : Option Str}
set_option genInjectivity false in
set_option genSizeOf false in
structure KBinds (K : PySem.W.Frag) (fd : FuncData) (ps ks : List Str) (g : List Value → List Value → List Value) (gV : List V → List V → List V) : Prop where
  to : ∀ (s : Shared) (us ws : List Value), K.In s.heap → (g us ws).length = ps.length → BindsTo s fd ⟨us, ks.zip ws⟩ (ps.zip (g us ws))
  rel : ∀ {vs : List V} {us : List Value} {zs : List V} {ws : List Value}, Vals vs us → Vals zs ws → Vals (gV vs zs) (g us ws)
variable {g : List Value → List Value → List Value} {gV : List V → List V → List V}
end

set_option genInjectivity false in
set_option genSizeOf false in
structure FnScope (N P : List Str) (sc : Scope) : Prop where
  kind : sc.kind = .function
  co : sc.isCoroutine = false
  gen : sc.isGenerator = false
  nd : N.Nodup
  pre : N.take P.length = P
  par : ∀ x ∈ P, sc.names.lookup x = some .local ∨ sc.names.lookup x = some .cell
  nofree : ∀ y ∈ sc.names, y.2 ≠ .free

theorem bindL_out {kindOf : Str → Option NameKind} {x : Str} : ∀ {binds : List (Str × Value)} {m : Str → Option Value}, (∀ v, (x, v) ∉ binds) → bindL kindOf binds m x = m x
  | [], _, _ => rfl
  | (n, v) :: r, m, h => by
    unfold bindL
    rw [bindL_out fun w hw => h w (List.mem_cons_of_mem _ hw)]
    split
    · have : x ≠ n := by rintro rfl; exact h v List.mem_cons_self
      simp [this]
    · rfl
theorem bindC_out {kindOf : Str → Option NameKind} {x : Str} : ∀ {binds : List (Str × Value)} {m : Str → Option Value}, (∀ v, (x, v) ∉ binds) → bindC kindOf binds m x = m x
  | [], _, _ => rfl
  | (n, v) :: r, m, h => by
    unfold bindC
    rw [bindC_out fun w hw => h w (List.mem_cons_of_mem _ hw)]
    split
    · rfl
    · have : x ≠ n := by rintro rfl; exact h v List.mem_cons_self
      simp [this]
theorem bindL_get {kindOf : Str → Option NameKind} {x : Str} {v : Value} : ∀ {P : List Str} {vs : List Value} {i : Nat} {m : Str → Option Value}, P.Nodup → P[i]? = some x → vs[i]? = some v → kindOf x = some .local →
    bindL kindOf (P.zip vs) m x = some v
  | [], _, _, _, _, h, _, _ => by simp at h
  | _ :: _, [], _, _, _, _, h, _ => by simp at h
  | p :: P, w :: vs, 0, m, nd, h1, h2, hk => by
    simp at h1 h2; subst h1; subst h2
    show bindL kindOf ((p, w) :: P.zip vs) m p = _
    unfold bindL
    rw [bindL_out fun v hv => (List.nodup_cons.mp nd).1 (List.of_mem_zip hv).1, if_pos hk]
    simp
  | p :: P, w :: vs, i + 1, m, nd, h1, h2, hk => by
    show bindL kindOf ((p, w) :: P.zip vs) m x = _
    unfold bindL
    exact bindL_get (i := i) (List.nodup_cons.mp nd).2 (by simpa using h1) (by simpa using h2) hk
theorem bindC_get {kindOf : Str → Option NameKind} {x : Str} {v : Value} : ∀ {P : List Str} {vs : List Value} {i : Nat} {m : Str → Option Value}, P.Nodup → P[i]? = some x → vs[i]? = some v → kindOf x ≠ some .local →
    bindC kindOf (P.zip vs) m x = some v
  | [], _, _, _, _, h, _, _ => by simp at h
  | _ :: _, [], _, _, _, _, h, _ => by simp at h
  | p :: P, w :: vs, 0, m, nd, h1, h2, hk => by
    simp at h1 h2; subst h1; subst h2
    show bindC kindOf ((p, w) :: P.zip vs) m p = _
    unfold bindC
    rw [bindC_out fun v hv => (List.nodup_cons.mp nd).1 (List.of_mem_zip hv).1, if_neg hk]
    simp
  | p :: P, w :: vs, i + 1, m, nd, h1, h2, hk => by
    show bindC kindOf ((p, w) :: P.zip vs) m x = _
    unfold bindC
    exact bindC_get (i := i) (List.nodup_cons.mp nd).2 (by simpa using h1) (by simpa using h2) hk

noncomputable def start (N : List Str) (vs : List V) : St := vs.map some ++ List.replicate (N.length - vs.length) none

noncomputable def cxOf (CX : CXT) (P : Program) (w : World) (K : PySem.W.Frag) (mg : Str → Option Value) (base : Heap) (N : List Str) (qual : Str) (scope : Scope) (f : Addr) (cd : Value) (A : Around) (outer : List Env) (s : Shared) (H : Hp) (E : XK) : Cx where
  prog := P
  w := w
  K := K
  mg := mg
  base := base
  A := A.deeper (envOfC qual scope s.heap.objs.size f cd)
  N := N
  s₀ := s
  H₀ := H
  env := envOfC qual scope s.heap.objs.size f cd
  outer := outer
  stack := envOfC qual scope s.heap.objs.size f cd :: outer
  ex := []
  calm := true
  fn := fun _ => true
  pn := []
  xe := fun e s' => wpAny (model P w) (A.deeper (envOfC qual scope s.heap.objs.size f cd)) (leaving (envOfC qual scope s.heap.objs.size f cd) e) (fun _ s'' => CX outer H s E e s'') (fun e' s'' => CX outer H s E e' s'') s'

theorem cell_has {sc : Scope} {n : Nat} {x : Str} (h : sc.names.lookup x = some .cell) : ∃ c, (cellsFrom n sc.names []).lookup x = some c := by
  have q := PySem.W.cellsFrom_some sc.names n [] (.inl h)
  exact Option.isSome_iff_exists.mp q

theorem inv_start {CX : CXT} {P : Program} {w : World} {K : PySem.W.Frag} {mg : Str → Option Value} {base : Heap} {N ps : List Str} {qual : Str} {scope : Scope} {f : Addr} {cd : Value} {A : Around} {outer : List Env} {s s1 : Shared} {H : Hp} {E : XK} {us : List Value} {vs : List V}
    (S : FnScope N ps scope) (hd : A.handled = none) (e0 : Env0 P w K mg base A outer s H) (hl : vs.length = ps.length) (r : Vals vs us)
    (x : InCallC s s.heap.objs.size (bindL (envOfC qual scope s.heap.objs.size f cd).kindOf (ps.zip us) fun _ => none) (cellsFrom (s.heap.objs.size + 1) scope.names []) (bindC (envOfC qual scope s.heap.objs.size f cd).kindOf (ps.zip us) fun _ => none) s1) :
    Inv (cxOf CX P w K mg base N qual scope f cd A outer s H E) [] (start N vs) H s1 := by
  have hpl : ps.length ≤ N.length := by have := congrArg List.length S.pre; rw [List.length_take] at this; omega
  obtain ⟨h1, tk, rfl, hk⟩ := x.done
  have noA : ∀ b : Addr, b ∉ (cxOf CX P w K mg base N qual scope f cd A outer s H E).ex := fun b z => absurd (show b ∈ ([] : List Addr) from z) (by simp)
  refine ⟨⟨e0.mod, S.kind, rfl, rfl, Nat.le_refl _, fun y z c h1 h2 => ?_, fun y hy => ?_, fun y c _ h => ?_, fun _ => hd, Around.frames_deeper e0.frames, .inr ⟨rfl, rfl⟩, fun b z => absurd z (noA b), e0.bs, e0.bsz, fun b _ _ => noA b, fun b z => absurd z (noA b), e0.funs, e0.frf⟩,
    rfl, e0.bare, Un.kept hk, ⟨_, x.toInCall.ns, fun i y v h1 h2 h3 => ?_⟩, fun y c h => ⟨_, x.cell y c h⟩, e0.hok.fresh (Nat.le_refl _), fun y c h => ?_, fun p hp => absurd (show p ∈ ([] : List (Addr × Obj)) from hp) (by simp), e0.hok.kept hk, ?_⟩
  · exact name_of_addr x.apart (PySem.mem_of_lookup h1) (PySem.mem_of_lookup h2)
  · have hy : scope.names.lookup y = some .cell ∨ scope.names.lookup y = some .free := hy
    rcases hy with hy | hy
    · exact cell_has hy
    · exact absurd rfl (S.nofree _ (PySem.mem_of_lookup hy))
  · exact Nat.le_of_lt (x.above y c (PySem.mem_of_lookup h))
  · have hi : i < vs.length := by
      unfold start at h2
      by_cases hi : i < vs.length
      · exact hi
      · rw [List.getElem?_append_right (by simpa using hi)] at h2
        rw [List.getElem?_replicate] at h2
        split at h2 <;> cases h2
    have ha : vs[i]? = some v := by
      unfold start at h2
      rw [List.getElem?_append_left (by simpa using hi), List.getElem?_map] at h2
      cases e : vs[i]? with
      | none => rw [e] at h2; cases h2
      | some a => rw [e] at h2; cases h2; rfl
    obtain ⟨u, hu, rv⟩ := r.get ha
    have hp : ps[i]? = some y := by
      rw [← S.pre, List.getElem?_take_of_lt (by omega)]; exact h1
    have ndP : ps.Nodup := by rw [← S.pre]; exact S.nd.sublist (List.take_sublist _ _)
    refine ⟨u, rv, ?_⟩
    rcases S.par y (List.mem_of_getElem? hp) with k | k
    · exact .inl ⟨k, bindL_get ndP hp hu k⟩
    · obtain ⟨c, e⟩ := cell_has (n := s.heap.objs.size + 1) k
      refine .inr ⟨.inl k, c, e, ?_⟩
      have q := x.cell y c e
      rw [bindC_get ndP hp hu (by show scope.names.lookup y ≠ _; rw [k]; decide)] at q
      exact q
  · exact e0.hok.fresh (Nat.le_of_lt (x.above y c (PySem.mem_of_lookup h)))
  · unfold start
    show _ = N.length
    rw [List.length_append, List.length_map, List.length_replicate]
    omega

theorem fn_of {CX : CXT} {P : Program} {w : World} {K : PySem.W.Frag} {mg : Str → Option Value} {base : Heap} {k : Nat} {f : Addr} {name qual : Str} {params : Arguments} {body : List Stmt} {scope : Scope} {dV kV doc pm cdv ct oc : Value} {an od : Option Addr}
    {osl : Array (Option Value)} {N ps : List Str} {sp : Sp} (lk : K.lookup f = some ⟨oc, od, .func (PySem.W.fnOf name qual params body scope dV kV doc pm an cdv ct), osl⟩) (hcd : PySem.W.codeIn K cdv qual = true) (S : FnScope N ps scope)
    (len : ∀ vs H Q E, sp vs H Q E → vs.length = ps.length)
    (hbody : ∀ (A : Around) (outer : List Env) (s : Shared) (H : Hp) (vs : List V) (Q : VK) (E : XK), Room k (A.deeper (envOfC qual scope s.heap.objs.size f cdv)) → sp vs H Q E →
      ∃ t, PSs (cxOf CX P w K mg base N qual scope f cdv A outer s H E) body t ∧ t { nx := fun _ H' => Q .non H', rt := Q } (start N vs) H) :
    FnOk P w K mg base CX (k + 1) f (PySem.W.fnOf name qual params body scope dV kV doc pm an cdv ct) ps sp := by
  refine ⟨len, fun A outer s H args us vs Q E hr e0 hb r hsp => ?_⟩
  have hl := len _ _ _ _ hsp
  have KX : K.In s.heap := e0.mod.kin.keeps fun b o e => (e0.bs b o e).1
  have lim : s.heap.NoLimit := e0.mod.nolimit.keeps fun b o e => (e0.bs b o e).1
  have hkind : ∀ y ∈ ps.zip us, scope.names.lookup y.1 = some .local ∨ (scope.names.lookup y.1 = some .cell ∧ ((cellsFrom (s.heap.objs.size + 1) scope.names []).lookup y.1).isSome = true) := fun ⟨n, v⟩ hy => by
    rcases S.par n (List.of_mem_zip hy).1 with q | q
    · exact .inl q
    · exact .inr ⟨q, PySem.W.cellsFrom_some _ _ _ (.inl q)⟩
  refine codeAny_call_function hr.depth (KX _ _ lk) rfl S.co S.gen rfl (PySem.W.codeRec_of KX hcd) (hb _ _ _ _ ?_)
  refine wpAny_newFunctionEnv_cells S.kind hkind fun env he s1 x => ?_
  subst he
  refine ⟨lim.keeps x.toInCall.keep, codeAny_func ?_⟩
  obtain ⟨t, ht, hq⟩ := hbody A outer s H vs Q E (hr.deeper _) hsp
  have I : Inv (cxOf CX P w K mg base N qual scope f cdv A outer s H E) [] (start N vs) H s1 := inv_start S hr.hd e0 hl r x
  refine wpAny_mono (ht [] s1 (start N vs) H _ I hq) (fun fl s' hs => ?_) fun e s' hs => hs
  have fin : ∀ {σ' : St} {H' : Hp} {v : V} {u : Value}, Inv (cxOf CX P w K mg base N qual scope f cdv A outer s H E) [] σ' H' s' → RelV v u → Q v H' → CE outer P w H s Q u s' :=
    fun {σ' H' v u} J rv q => ⟨v, H', J.os, J.bare, J.base, J.hok, rv, q⟩
  cases fl with
  | ret u =>
    obtain ⟨v, σ', H', J, rv, q⟩ := hs
    exact fin J rv q
  | next =>
    obtain ⟨σ', H', J, q⟩ := hs
    exact fin (v := V.non) (u := Value.none) J rfl q
  | brk =>
    obtain ⟨_, _, _, q⟩ := hs
    exact False.elim q
  | cont =>
    obtain ⟨_, _, _, q⟩ := hs
    exact False.elim q
end Internal

namespace Internal
open PySem PySem.Spec PyProof.Rows
section
variable {X : Cx} {x : Str} {p pos : Pos} {e : Expr} {es : List Expr} {t : TA} {id T : String} {r : List V → Hp → VK → Prop}

noncomputable abbrev tCB (r : List V → Hp → VK → Prop) (t : TA) : TE := fun σ H Q => t σ H fun vs H1 => r vs H1 Q
theorem pe_callB (hc : CallR X (.builtin id) r) (hg : Gl X x) (hm : X.mg x = none) (hv : bootBuiltins x = some (.builtin id)) (ha : PA X (e :: es) t) (hn : autoParam (x ≠ "__name__") Internal.aut1._auto_1) (hdb : autoParam ((x == ("__debug__" : Str)) = false) Internal.aut1._auto_1)
    (he : autoParam (starEach (e :: es) X.env = (false, eval e X.env) :: starEach es X.env) Internal.aut2._auto_1) (hpl : autoParam ((backTo pos (starEach es X.env)).any (·.1) = false) Internal.aut2._auto_1) : PE X (.Call (.Name x p) (e :: es) [] pos) (tCB r t) := by
  intro pins s σ H Q I h
  refine wpAny_Call_Name_kw (ld_blt I hg hm hv ?_ hn hdb)
  exact PyProof.Rows.callWith_builtin1 (thn (ha pos pins s σ H _ I h) fun us s1 ⟨vs, H1, I1, r1, q1⟩ => hc pins s1 σ H1 vs us Q I1 r1 q1) he hpl
theorem pe_callTy (hc : CallR X (.type T) r) (hg : Gl X x) (hm : X.mg x = none) (hv : bootBuiltins x = some (.type T)) (ha : PA X (e :: es) t) (hn : autoParam (x ≠ "__name__") Internal.aut1._auto_1) (hdb : autoParam ((x == ("__debug__" : Str)) = false) Internal.aut1._auto_1)
    (he : autoParam (starEach (e :: es) X.env = (false, eval e X.env) :: starEach es X.env) Internal.aut2._auto_1) (hpl : autoParam ((backTo pos (starEach es X.env)).any (·.1) = false) Internal.aut2._auto_1) : PE X (.Call (.Name x p) (e :: es) [] pos) (tCB r t) := by
  intro pins s σ H Q I h
  refine wpAny_Call_Name_kw (ld_blt I hg hm hv ?_ hn hdb)
  exact PyProof.Rows.callWith_type1 (thn (ha pos pins s σ H _ I h) fun us s1 ⟨vs, H1, I1, r1, q1⟩ => hc pins s1 σ H1 vs us Q I1 r1 q1) he hpl
end
end Internal

namespace HT
open PySem PyProof.Rows

section
open PySem.SeqAt
open PySem.AutoSeq1 (wpAny_loadPart')
open PySem.MeetsSeq PySem.MeetsSeq2 PySem.MeetsSeq3

end

section
variable {prog : Program} {w : World} {A : Around} {E : Value → Shared → Prop} {s : Shared}

theorem cat_tup {t b : Addr} {vs ws : List Value} {Q : Value → Shared → Prop} (ht : IsTup s.heap t vs.toArray) (hb : IsTup s.heap b ws.toArray) (hv : vs ≠ [])
    (h1 : ws = [] → Q (.ref t) s) (h2 : ws ≠ [] → Q (.ref s.heap.objs.size) { s with heap := s.heap.push { cls := .type "tuple", data := .seq (vs ++ ws).toArray } })
    (hsz : vs.length + ws.length ≤ sizeLine) : wpAny (model prog w) A (binaryOp .Add (.ref t) (.ref b)) Q E s := by
  obtain ⟨⟨cls, dd, data, sl⟩, ho, hc, n, hd⟩ := id ht
  obtain ⟨⟨cls2, dd2, data2, sl2⟩, ho2, hc2, n2, hd2⟩ := id hb
  simp only at hc hd hc2 hd2
  subst hc hd hc2 hd2
  have e : vs.toArray ++ ws.toArray = (vs ++ ws).toArray := by simp
  by_cases hw : ws = []
  · exact concat_meets ⟨_, ho, rfl⟩ ⟨_, ho2, rfl⟩ noFill_tuple_add seq_tuple_add PySem.F.slot_tuple_add PySem.F.entry_tuple_add (PySem.F.args_tuple_add_2 _ _)
      (tuple_addW1 t b vs.toArray ws.toArray n n2 dd dd2 sl sl2 (by simpa using hv) (by simp [hw])) ⟨ho, ho2, h1 hw⟩
  · refine concat_meets ⟨_, ho, rfl⟩ ⟨_, ho2, rfl⟩ noFill_tuple_add seq_tuple_add PySem.F.slot_tuple_add PySem.F.entry_tuple_add (PySem.F.args_tuple_add_2 _ _)
      (tuple_addW2 t b vs.toArray ws.toArray n n2 dd dd2 sl sl2 (by simpa using hv) (by simpa using hw) (by rw [List.size_toArray, List.size_toArray]; exact hsz)) ⟨ho, ho2, ?_⟩
    rw [e]
    exact h2 hw

noncomputable def sIx (n d : Nat) : Option Int → Nat
  | none => d
  | some v => if v < 0 then (v + (n : Int)).toNat else min v.toNat n
theorem sIx_none (n d : Nat) : sIx n d none = d := rfl
theorem sIx_nat (n d k : Nat) : sIx n d (some (k : Int)) = min k n := by
  show (if (k : Int) < 0 then ((k : Int) + (n : Int)).toNat else min (k : Int).toNat n) = min k n
  rw [if_neg (by omega), Int.toNat_natCast]
end
end HT

namespace Internal
open PySem PySem.Spec PyProof.Rows

noncomputable abbrev TO := St → Hp → (Option Int → Hp → Prop) → Prop
noncomputable def PO (X : Cx) (e : Option Expr) (t : TO) : Prop :=
  ∀ (pins : List (Addr × Obj)) (s : Shared) (σ : St) (H : Hp) (Q : Option Int → Hp → Prop), Inv X pins σ H s → t σ H Q →
    wpAny (model X.prog X.w) X.A (evalPart e X.env) (fun u s' => ∃ o H', Inv X pins σ H' s' ∧ IsPart u o ∧ Q o H') X.xe s
noncomputable abbrev tNoPart : TO := fun _ H Q => Q none H
noncomputable def tPart (t : TE) : TO := fun σ H Q => t σ H fun x H1 => ∃ i, x = .int i ∧ Q (some i) H1

theorem intsAre_of {ns : List Int} : ∀ {us : List Value}, Vals (ns.map V.int) us → IntsAre us ns := by
  induction ns with
  | nil => intro us r; rw [List.map_nil] at r; cases r; exact .nil
  | cons n ns ih =>
    intro us r
    rw [List.map_cons] at r
    cases r with
    | cons r1 r2 =>
      obtain ⟨t, e⟩ := r1
      subst e
      exact .cons n t (ih r2)

section
variable {X : Cx} {e : Expr} {te : TE} {lo hi : Option Expr} {tl th : TO} {pos p2 : Pos}

theorem po_none : PO X none tNoPart := by
  intro pins s σ H Q I h
  rw [evalPart_none]
  exact wpAny_pure ⟨none, H, I, .none, h⟩
theorem po_some (h : PE X e te) : PO X (some e) (tPart te) := by
  intro pins s σ H Q I hw
  rw [evalPart_some]
  refine thn (h pins s σ H _ I hw) fun u s1 zz => ?_
  obtain ⟨x, H1, I1, r1, q1⟩ := zz
  obtain ⟨i, rfl, q⟩ := q1
  obtain ⟨t, rfl⟩ := r1
  exact ⟨some i, H1, I1, .int i t, q⟩

noncomputable def SlR (X : Cx) (r : V → Option Int → Option Int → Hp → VK → Prop) : Prop :=
  ∀ (pins : List (Addr × Obj)) (s : Shared) (σ : St) (H : Hp) (x : V) (v vl vu : Value) (lo hi : Option Int) (sl : Addr) (Q : VK), Inv X pins σ H s → RelV x v → s.heap.IsSliceOf sl vl vu .none → IsPart vl lo → IsPart vu hi → r x lo hi H Q →
    ∃ T id, typeLookup (.type T) "__getitem__" = pure (some (.builtin id)) ∧ s.TypeIs v T ∧ wpAny (model X.prog X.w) X.A (getItem v (.ref sl)) (EP X pins σ Q) X.xe s
noncomputable abbrev tSl (r : V → Option Int → Option Int → Hp → VK → Prop) (te : TE) (tl th : TO) : TE := fun σ H Q => te σ H fun x H1 => tl σ H1 fun l H2 => th σ H2 fun u H3 => r x l u H3 Q
theorem pe_slice {r : V → Option Int → Option Int → Hp → VK → Prop} (hr : SlR X r) (he : PE X e te) (hl : PO X lo tl) (hu : PO X hi th) : PE X (.Subscript e (.Slice lo hi none p2) pos) (tSl r te tl th) := by
  intro pins s σ H Q I h
  refine Subscript_ (thn (he pins s σ H _ I h) fun v s1 zz => ?_)
  obtain ⟨x, H1, I1, r1, q1⟩ := zz
  refine wpAny_Slice (thn (hl pins s1 σ H1 _ I1 q1) fun vl s2 ⟨l, H2, I2, pl, q2⟩ => thn (hu pins s2 σ H2 _ I2 q2) fun vu s3 zz => ?_)
  obtain ⟨u, H3, I3, pu, q3⟩ := zz
  rw [evalPart_none]
  refine wpAny_pure ?_
  have I4 : Inv X pins σ H3 { s3 with heap := s3.heap.push { cls := .type "slice", data := .fields #[vl, vu, .none] } } := I3.kept (t' := s3.toks) fun b ob q => Heap.get?_push_of_some _ q
  obtain ⟨T, id, hT, ht, hg⟩ := hr pins { s3 with heap := s3.heap.push { cls := .type "slice", data := .fields #[vl, vu, .none] } } σ H3 x v vl vu l u s3.heap.objs.size Q I4 r1 (Heap.IsSliceOf.new ..) pl pu q3
  show wpAny (model X.prog X.w) X.A (subscriptTail e (.Slice lo hi none p2) v (.ref s3.heap.objs.size)) (EP X pins σ Q) X.xe { s3 with heap := s3.heap.push { cls := .type "slice", data := .fields #[vl, vu, .none] } }
  exact tail_any (ops := [.ref s3.heap.objs.size, v]) ht hT hg (by with_unfolding_all rfl)

noncomputable def cutV (xs : List V) (lo hi : Option Int) : List V := (xs.drop (HT.sIx xs.length 0 lo)).take (HT.sIx xs.length xs.length hi - HT.sIx xs.length 0 lo)
theorem cutV_length (xs : List V) (lo hi : Option Int) : (cutV xs lo hi).length ≤ xs.length := by
  unfold cutV
  rw [List.length_take, List.length_drop]
  omega
noncomputable def rCatT (K : PySem.W.Frag) : R2 := fun x y H Q => ∃ a b xs ys, x = .ref a ∧ y = .ref b ∧ SqT K H a xs ∧ SqT K H b ys ∧ xs ≠ [] ∧ xs.length + ys.length ≤ sizeLine ∧
  (ys = [] → Q (.ref a) H) ∧ (ys ≠ [] → ∀ p, H p = none → Q (.ref p) (upd H p (.tup (xs ++ ys))))
theorem Vals.nil_iff {xs : List V} {us : List Value} (r : Vals xs us) : us = [] ↔ xs = [] := by
  cases r with
  | nil => simp
  | cons _ _ => simp
theorem op_catT : OpR X (binaryOp .Add) (rCatT X.K) := by
  intro pins s σ H x y v u Q I rx ry h
  obtain ⟨a, b, xs, ys, rfl, rfl, ha, hb, hx, hz, q1, q2⟩ := h
  cases rx
  cases ry
  obtain ⟨its, r1, p1, _⟩ := I.tuple ha
  obtain ⟨its2, r2, p2, _⟩ := I.tuple hb
  refine HT.cat_tup p1 p2 (fun z => hx (r1.nil_iff.mp z)) (fun z => ⟨.ref a, H, I, rfl, q1 (r2.nil_iff.mp z)⟩) (fun z => ?_) (by rw [← r1.length, ← r2.length]; exact hz)
  refine ⟨.ref s.heap.objs.size, _, I.laid (t' := s.toks) (o := .tup (xs ++ ys)) (fun b ob q => Heap.get?_push_of_some _ q) (Nat.le_refl _) ?_, rfl, q2 (fun w => z (r2.nil_iff.mpr w)) _ (I.hok.fresh (Nat.le_refl _))⟩
  exact ⟨by rw [List.length_append]; exact hz, _, r1.append r2, IsTup.new _ _⟩
end
end Internal

namespace Internal
open PySem PySem.Spec PyProof.Rows

noncomputable def ixN (n : Nat) (i : Int) : Option Nat := if 0 ≤ i then (if i < n then some i.toNat else none) else if -(n : Int) ≤ i then some (i + n).toNat else none
noncomputable def atI {α : Type} (xs : List α) (i : Int) : Option α := (ixN xs.length i).bind fun j => xs[j]?
theorem ixN_seq {n : Nat} {i : Int} {j : Nat} (h : ixN n i = some j) : seqIndex? i n = some j ∧ j < n ∧ -(n : Int) ≤ i ∧ i < n := by
  unfold ixN at h
  by_cases h0 : 0 ≤ i
  · rw [if_pos h0] at h
    by_cases h1 : i < n
    · rw [if_pos h1] at h
      have e : i.toNat = j := Option.some.inj h
      exact ⟨by rw [seqIndex_of h0 h1, e], by omega, by omega, h1⟩
    · rw [if_neg h1] at h; cases h
  · rw [if_neg h0] at h
    by_cases h1 : -(n : Int) ≤ i
    · rw [if_pos h1] at h
      have e : (i + n).toNat = j := Option.some.inj h
      exact ⟨by rw [seqIndex_neg (by omega) h1, e], by omega, h1, by omega⟩
    · rw [if_neg h1] at h; cases h
theorem atI_get {α : Type} {xs : List α} {i : Int} {v : α} (h : atI xs i = some v) : ∃ j, seqIndex? i xs.length = some j ∧ xs[j]? = some v ∧ j < xs.length ∧ -(xs.length : Int) ≤ i ∧ i < xs.length := by
  unfold atI at h
  cases e : ixN xs.length i with
  | none => rw [e] at h; cases h
  | some j =>
    rw [e] at h
    obtain ⟨h1, h2, h3, h4⟩ := ixN_seq e
    exact ⟨j, h1, h, h2, h3, h4⟩
theorem atI_nat {α : Type} {xs : List α} {j : Nat} {v : α} (h : xs[j]? = some v) : atI xs (j : Int) = some v := by
  have hj : j < xs.length := (List.getElem?_eq_some_iff.mp h).1
  have e : ixN xs.length (j : Int) = some j := by
    unfold ixN
    rw [if_pos (by omega), if_pos (by omega)]; simp
  unfold atI; rw [e]; exact h
noncomputable def PlainIx (b : Expr) : Prop := ∀ o i, subscripted b false o i = operate [o, i] (getItem o i)
noncomputable def IxR (X : Cx) (r : R2) : Prop :=
  ∀ (value slice : Expr) (pins : List (Addr × Obj)) (s : Shared) (σ : St) (H : Hp) (x y : V) (v u : Value) (Q : VK), Inv X pins σ H s → RelV x v → RelV y u → r x y H Q →
    subscripted slice false v u = operate [v, u] (getItem v u) → wpAny (model X.prog X.w) X.A (subscriptTail value slice v u) (EP X pins σ Q) X.xe s
noncomputable def MtR (X : Cx) (id : String) (r : V → List V → Hp → VK → Prop) : Prop :=
  ∀ (pins : List (Addr × Obj)) (s : Shared) (σ : St) (H : Hp) (x : V) (xs : List V) (v : Value) (us : List Value) (Q : VK), Inv X pins σ H s → RelV x v → Vals xs us → r x xs H Q →
    wpAny (model X.prog X.w) X.A (call (.builtin id) (v :: us)) (EP X pins σ Q) X.xe s
section
variable {X : Cx} {a b : Expr} {ta tb : TE} {pos : Pos}
theorem IxR.or {r r' : R2} (h : IxR X r) (h' : IxR X r') : IxR X (fun x y H Q => r x y H Q ∨ r' x y H Q) := by
  intro value slice pins s σ H x y v u Q I rx ry q hs
  rcases q with q | q
  · exact h value slice pins s σ H x y v u Q I rx ry q hs
  · exact h' value slice pins s σ H x y v u Q I rx ry q hs
theorem pe_ix {r : R2} (hr : IxR X r) (ha : PE X a ta) (hb : PE X b tb) (hs : PlainIx b) : PE X (.Subscript a b pos) (tOp r ta tb) := by
  intro pins s σ H Q I h
  exact Subscript_ (binT ha hb I h fun v u s2 x y H2 I2 rx ry q => hr a b pins s2 σ H2 x y v u Q I2 rx ry q (hs _ _))

noncomputable def rIxL (K : PySem.W.Frag) : R2 := fun x y H Q => ∃ p xs i v, x = .ref p ∧ y = .int i ∧ SqL K H p xs ∧ atI xs i = some v ∧ Q v H
noncomputable def rIxT (K : PySem.W.Frag) : R2 := fun x y H Q => ∃ p xs i v, x = .ref p ∧ y = .int i ∧ SqT K H p xs ∧ atI xs i = some v ∧ Q v H
noncomputable def rIxS : R2 := fun x y H Q => ∃ z i c, x = .str z ∧ y = .int i ∧ z.length ≤ sizeLine ∧ atI z.cps.toList i = some c ∧ Q (.str ⟨#[c]⟩) H
theorem ix_list : IxR X (rIxL X.K) := by
  intro value slice pins s σ H x y v u Q I rx ry h hs
  obtain ⟨p, xs, i, z, rfl, rfl, hq, he, q⟩ := h
  cases rx
  obtain ⟨t, rfl⟩ := ry
  obtain ⟨its, r, pl, hz⟩ := I.list hq
  obtain ⟨j, h1, h2, h3, h4, h5⟩ := atI_get he
  obtain ⟨w, ew, rw'⟩ := r.get h2
  have hl := r.length
  have hn := line63
  have fin : EP X pins σ Q w s := ⟨z, H, I, rw', q⟩
  by_cases h0 : 0 ≤ i
  · have hj : i.toNat = j := by
      rw [seqIndex_of h0 h5] at h1
      exact Option.some.inj h1
    exact item_listR pl.isList h0 (by omega) (by rw [hj]; simpa using ew) fin hs
  · have hj : (i + (its.toArray.size : Int)).toNat = j := by
      rw [seqIndex_neg (by omega) h4] at h1
      rw [List.size_toArray, ← hl]
      exact Option.some.inj h1
    exact subscriptTail_builtinR (x := w) pl.isList.typeIs slot_list_getitem.lookup
      (wpAny_getItem_list_neg (Q := fun r s' => r = w ∧ EP X pins σ Q r s') pl.isList (by omega) (by rw [List.size_toArray] <;> omega) (by omega) (by rw [hj]; simpa using ew) ⟨rfl, fin⟩) hs
theorem ix_tup : IxR X (rIxT X.K) := by
  intro value slice pins s σ H x y v u Q I rx ry h hs
  obtain ⟨p, xs, i, z, rfl, rfl, hq, he, q⟩ := h
  cases rx
  obtain ⟨t, rfl⟩ := ry
  obtain ⟨its, r, pl, hz⟩ := I.tuple hq
  obtain ⟨j, h1, h2, h3, h4, h5⟩ := atI_get he
  obtain ⟨w, ew, rw'⟩ := r.get h2
  have hl := r.length
  have hn := line63
  have fin : EP X pins σ Q w s := ⟨z, H, I, rw', q⟩
  exact subscriptTail_builtinR (x := w) pl.typeIs slot_tuple_getitem.lookup
    (getItem_tuple (j := j) (Q := fun r s' => r = w ∧ EP X pins σ Q r s') pl (by omega) (by omega) (by rw [List.size_toArray, ← hl]; exact h1) (by simpa using ew) ⟨rfl, fin⟩) hs
theorem ix_str : IxR X rIxS := by
  intro value slice pins s σ H x y v u Q I rx ry h hs
  obtain ⟨z, i, c, rfl, rfl, hz, he, q⟩ := h
  obtain ⟨t, rfl⟩ := rx
  obtain ⟨t', rfl⟩ := ry
  obtain ⟨j, h1, h2, h3, h4, h5⟩ := atI_get he
  have hl : z.cps.toList.length = z.length := by simp [Str.length]
  rw [hl] at h1 h4 h5
  have hn := line63
  exact tail_any (typeIs_str s z t) slot_str_getitem.lookup (getItem_str (c := c) (by
    have e1 : decide (i < -(2 ^ 63 : Int)) = false := decide_eq_false (by omega)
    have e2 : decide (i ≥ 2 ^ 63) = false := decide_eq_false (by omega)
    rw [e1, e2, Bool.or_false]) (by rw [h1]; simpa using h2) ⟨.str ⟨#[c]⟩, H, I.tok _, ⟨_, rfl⟩, q⟩) hs
noncomputable def rIx (K : PySem.W.Frag) : R2 := fun x y H Q => rIxL K x y H Q ∨ rIxT K x y H Q ∨ rIxS x y H Q
theorem ix_seq : IxR X (rIx X.K) := ix_list.or (ix_tup.or ix_str)

theorem mapSeq_set (its : List Value) (n j : Nat) (u : Value) : Obj.mapSeq (·.setIfInBounds j u) { cls := .type "list", data := .seq its.toArray n } = { cls := .type "list", data := .seq (its.set j u).toArray n } := by
  simp [Obj.mapSeq]
theorem Inv.lst {pins : List (Addr × Obj)} {σ : St} {H : Hp} {s : Shared} {p : Addr} {xs : List V} (I : Inv X pins σ H s) (h : H p = some (.lst xs)) :
    ∃ (its : List Value) (n : Nat), Vals xs its ∧ s.heap.get? p = some { cls := .type "list", data := .seq its.toArray n } ∧ xs.length ≤ sizeLine := by
  obtain ⟨z, its, n, r, e⟩ := I.hok p _ h
  exact ⟨its, n, r, e, z⟩
theorem Inv.lstUpd {pins : List (Addr × Obj)} {σ : St} {H : Hp} {s : Shared} {p : Addr} {xs ys : List V} {its its' : List Value} {n n' : Nat} {f : Obj → Obj} (I : Inv X pins σ H s) (h : H p = some (.lst xs))
    (ho : s.heap.get? p = some { cls := .type "list", data := .seq its.toArray n }) (hf : f { cls := .type "list", data := .seq its.toArray n } = { cls := .type "list", data := .seq its'.toArray n' }) (r : Vals ys its') (hz : ys.length ≤ sizeLine) (t : Nat) :
    Inv X pins σ (upd H p (.lst ys)) { s with heap := s.heap.update p f, toks := t } := by
  have e : (s.heap.update p f).get? p = some { cls := .type "list", data := .seq its'.toArray n' } := by
    rw [Heap.get?_update_self f ho (by rw [hf] <;> rfl), hf]
  refine I.write (x := p) (e := p) (by rw [h]; trivial) (.inl rfl) (fun b u hb q => (Heap.get?_update_other _ _ (Ne.symm hb)).trans q) ⟨_, e⟩ ?_
  exact ⟨hz, its', n', r, e⟩
noncomputable def rSetL : V → V → V → Hp → (Hp → Prop) → Prop := fun o i v H Q => ∃ p xs k j, o = .ref p ∧ i = .int k ∧ H p = some (.lst xs) ∧ ixN xs.length k = some j ∧ Q (upd H p (.lst (xs.set j v)))
theorem set_list : PSet X rSetL := by
  intro pins s σ H o i v ov iv u Q I ro ri rv h
  obtain ⟨p, xs, k, j, rfl, rfl, hp, hj, q⟩ := h
  cases ro
  obtain ⟨t, rfl⟩ := ri
  obtain ⟨its, n, r, ho, hz⟩ := I.lst hp
  obtain ⟨h1, h2, h3, h4⟩ := ixN_seq hj
  have hl := r.length
  have hn := line63
  have I' : Inv X pins σ (upd H p (.lst (xs.set j v))) { s with heap := s.heap.update p (Obj.mapSeq (·.setIfInBounds j u)) } :=
    I.lstUpd hp ho (mapSeq_set its n j u) (r.set rv j) (by rw [List.length_set]; exact hz) s.toks
  by_cases h0 : 0 ≤ k
  · have hk : k.toNat = j := by
      rw [seqIndex_of h0 h4] at h1
      exact Option.some.inj h1
    exact PySem.W.ki_setAt ho h0 (by omega) (by rw [List.size_toArray, ← hl]; exact h4) (by rw [hk]; exact ⟨_, I', q⟩)
  · have hk : (k + (its.toArray.size : Int)).toNat = j := by
      rw [seqIndex_neg (by omega) h3] at h1
      rw [List.size_toArray, ← hl]
      exact Option.some.inj h1
    exact PySem.W.ki_setBack ho (by omega) (by rw [List.size_toArray, ← hl]; exact h3) (by omega) (by rw [hk]; exact ⟨_, I', q⟩)

theorem slice_bounds (lo hi : Option Int) (n : Nat) : (sliceBounds lo hi none n).1 = ((HT.sIx n 0 lo : Nat) : Int) ∧ (sliceBounds lo hi none n).2.1 = ((HT.sIx n n hi : Nat) : Int) ∧ (sliceBounds lo hi none n).2.2 = 1 := by
  refine ⟨?_, ?_, rfl⟩
  · cases lo with
    | none => simp [sliceBounds, HT.sIx]
    | some i =>
      simp only [sliceBounds, HT.sIx, Option.getD_none, show (1 : Int) > 0 by decide, if_true]
      by_cases h : i < 0
      · simp only [h, if_true] <;> omega
      · simp only [h, if_false] <;> omega
  · cases hi with
    | none => simp [sliceBounds, HT.sIx]
    | some i =>
      simp only [sliceBounds, HT.sIx, Option.getD_none, show (1 : Int) > 0 by decide, if_true]
      by_cases h : i < 0
      · simp only [h, if_true] <;> omega
      · simp only [h, if_false] <;> omega
theorem slicePick_cut (its : List Value) (lo hi : Option Int) : slicePick its.toArray lo hi none = ((its.drop (HT.sIx its.length 0 lo)).take (HT.sIx its.length its.length hi - HT.sIx its.length 0 lo)).toArray := by
  obtain ⟨h1, h2, h3⟩ := slice_bounds lo hi its.toArray.size
  unfold slicePick
  rw [h1, h2, h3]
  simp only [sliceRange_one, pick_run, List.size_toArray] <;> rfl
noncomputable def rSlL (K : PySem.W.Frag) : V → Option Int → Option Int → Hp → VK → Prop := fun x lo hi H Q => ∃ a xs, x = .ref a ∧ SqL K H a xs ∧ ∀ p, H p = none → Q (.ref p) (upd H p (.lst (cutV xs lo hi)))
theorem sl_list : SlR X (rSlL X.K) := by
  intro pins s σ H x v vl vu lo hi sl Q I rx hs pl pu h
  obtain ⟨a, xs, rfl, hx, q⟩ := h
  cases rx
  obtain ⟨its, r, ht, hz⟩ := I.list hx
  have hlen := r.length
  refine ⟨"list", _, slot_list_getitem.lookup, ht.isList.typeIs, ?_⟩
  refine wpAny_getItem_list_slice ht.isList hs pl pu .none (by simp) ?_ (by rw [List.size_toArray] <;> omega)
  rw [slicePick_cut, ← hlen]
  refine ⟨.ref s.heap.objs.size, _, I.laid (t' := s.toks) (o := .lst (cutV xs lo hi)) (fun b ob q => Heap.get?_push_of_some _ q) (Nat.le_refl _) ?_, rfl, q _ (I.hok.fresh (Nat.le_refl _))⟩
  exact ⟨Nat.le_trans (cutV_length xs lo hi) hz, _, 0, (r.drop (HT.sIx xs.length 0 lo)).take (HT.sIx xs.length xs.length hi - HT.sIx xs.length 0 lo), Heap.get?_push_size _ rfl⟩

noncomputable def flatV : V → Bool
  | .non => true
  | .bl _ => true
  | .int _ => true
  | .str _ => true
  | _ => false
noncomputable def eqV : V → V → Bool
  | .non, .non => true
  | .bl a, .bl b => a == b
  | .bl a, .int b => (if a then 1 else 0) == b
  | .int a, .bl b => a == (if b then 1 else 0)
  | .int a, .int b => a == b
  | .str a, .str b => a == b
  | _, _ => false
theorem eqAt_V {A : Around} {s : Shared} {y x : V} {u v : Value} (ry : RelV y u) (rx : RelV x v) (fy : flatV y = true) (fx : flatV x = true) : SeqAt.EqAt A s u v (eqV y x) := by
  cases y with
  | non =>
    cases ry
    cases x with
    | non => cases rx; exact SeqAt.EqAt.same _
    | bl b => cases rx; exact SeqAt.EqAt.none_bool b
    | int b => obtain ⟨t, rfl⟩ := rx; exact SeqAt.EqAt.none_int b t
    | str b => obtain ⟨t, rfl⟩ := rx; exact SeqAt.EqAt.none_str b t
    | _ => exact absurd (show false = true from fx) Bool.false_ne_true
  | bl a =>
    cases ry
    cases x with
    | non => cases rx; exact SeqAt.EqAt.bool_none a
    | bl b => cases rx; exact SeqAt.EqAt.bool_bool a b
    | int b => obtain ⟨t, rfl⟩ := rx; exact SeqAt.EqAt.bool_int a b t
    | str b => obtain ⟨t, rfl⟩ := rx; exact SeqAt.EqAt.bool_str a b t
    | _ => exact absurd (show false = true from fx) Bool.false_ne_true
  | int a =>
    obtain ⟨t', rfl⟩ := ry
    cases x with
    | non => cases rx; exact SeqAt.EqAt.int_none a t'
    | bl b => cases rx; exact SeqAt.EqAt.int_bool a t' b
    | int b => obtain ⟨t, rfl⟩ := rx; exact SeqAt.EqAt.int_int a t' b t
    | str b => obtain ⟨t, rfl⟩ := rx; exact SeqAt.EqAt.int_str a t' b t
    | _ => exact absurd (show false = true from fx) Bool.false_ne_true
  | str a =>
    obtain ⟨t', rfl⟩ := ry
    cases x with
    | non => cases rx; exact SeqAt.EqAt.str_none a t'
    | bl b => cases rx; exact SeqAt.EqAt.str_bool a t' b
    | int b => obtain ⟨t, rfl⟩ := rx; exact SeqAt.EqAt.str_int a t' b t
    | str b => obtain ⟨t, rfl⟩ := rx; exact SeqAt.EqAt.str_str a t' b t
    | _ => exact absurd (show false = true from fx) Bool.false_ne_true
  | _ => exact absurd (show false = true from fy) Bool.false_ne_true
noncomputable def eqU (x : V) (u : Value) : Bool := match u with
  | .none => eqV .non x
  | .bool b => eqV (.bl b) x
  | .int i _ => eqV (.int i) x
  | .str z _ => eqV (.str z) x
  | _ => false
theorem eqU_of {x y : V} {u : Value} (r : RelV y u) (f : flatV y = true) : eqU x u = eqV y x := by
  cases y with
  | non => cases r; rfl
  | bl b => cases r; rfl
  | int i => obtain ⟨t, rfl⟩ := r; rfl
  | str z => obtain ⟨t, rfl⟩ := r; rfl
  | _ => exact absurd (show false = true from f) Bool.false_ne_true
theorem any_eqU {x : V} : ∀ {xs : List V} {us : List Value}, Vals xs us → xs.all flatV = true → us.any (eqU x) = xs.any fun y => eqV y x
  | _, _, .nil, _ => rfl
  | y :: xs, u :: us, .cons r t, f => by
    rw [List.all_cons, Bool.and_eq_true] at f
    rw [List.any_cons, List.any_cons, eqU_of r f.1, any_eqU t f.2]
theorem mem_eqAt {A : Around} {s : Shared} {x : V} {v : Value} (rx : RelV x v) (fx : flatV x = true) : ∀ {xs : List V} {us : List Value}, Vals xs us → xs.all flatV = true → ∀ u ∈ us, SeqAt.EqAt A s u v (eqU x u)
  | _, _, .nil, _ => fun u hu => by cases hu
  | y :: xs, u :: us, .cons r t, f => fun u' hu => by
    rw [List.all_cons, Bool.and_eq_true] at f
    rcases List.mem_cons.mp hu with rfl | hu
    · rw [eqU_of r f.1]; exact eqAt_V r rx f.1 fx
    · exact mem_eqAt rx fx t f.2 u' hu
noncomputable def inV (x : V) (xs : List V) : Bool := xs.any fun y => eqV y x
noncomputable def rIn (K : PySem.W.Frag) (neg : Bool) : R2 := fun x y H Q => ∃ p xs, y = .ref p ∧ (SqL K H p xs ∨ SqT K H p xs) ∧ flatV x = true ∧ xs.all flatV = true ∧ Q (.bl (if neg then !inV x xs else inV x xs)) H
theorem op_in_seq : OpR X (compareOp .In) (rIn X.K false) := by
  intro pins s σ H x y v u Q I rx ry h
  obtain ⟨p, xs, rfl, hq, fx, fs, q⟩ := h
  cases ry
  rcases hq with hq | hq
  · obtain ⟨its, r, pl, hz⟩ := I.list hq
    refine SeqAt.in_listAt (eqU x) pl.isList (fun w hw => mem_eqAt rx fx r fs w (by simpa using hw)) ⟨.bl _, H, I, rfl, ?_⟩
    rw [show its.toArray.any (eqU x) = its.any (eqU x) by simp, any_eqU r fs]
    exact q
  · obtain ⟨its, r, pl, hz⟩ := I.tuple hq
    refine SeqAt.in_tupleAt (eqU x) pl (fun w hw => mem_eqAt rx fx r fs w (by simpa using hw)) ⟨.bl _, H, I, rfl, ?_⟩
    rw [show its.toArray.any (eqU x) = its.any (eqU x) by simp, any_eqU r fs]
    exact q
theorem op_notIn_seq : OpR X (compareOp .NotIn) (rIn X.K true) := by
  intro pins s σ H x y v u Q I rx ry h
  obtain ⟨p, xs, rfl, hq, fx, fs, q⟩ := h
  cases ry
  rcases hq with hq | hq
  · obtain ⟨its, r, pl, hz⟩ := I.list hq
    refine SeqAt.notIn_listAt (eqU x) pl.isList (fun w hw => mem_eqAt rx fx r fs w (by simpa using hw)) ⟨.bl _, H, I, rfl, ?_⟩
    rw [show its.toArray.any (eqU x) = its.any (eqU x) by simp, any_eqU r fs]
    exact q
  · obtain ⟨its, r, pl, hz⟩ := I.tuple hq
    refine SeqAt.notIn_tupleAt (eqU x) pl (fun w hw => mem_eqAt rx fx r fs w (by simpa using hw)) ⟨.bl _, H, I, rfl, ?_⟩
    rw [show its.toArray.any (eqU x) = its.any (eqU x) by simp, any_eqU r fs]
    exact q
theorem call_len_seq : CallR X (.builtin "len") (fun xs H Q => ∃ p ys, xs = [.ref p] ∧ (SqL X.K H p ys ∨ SqT X.K H p ys) ∧ Q (.int ys.length) H) := by
  intro pins s σ H xs us Q I r h
  obtain ⟨p, ys, rfl, hq, q⟩ := h
  obtain ⟨u, rfl, rx⟩ := vals1 r
  cases rx
  have hn := line63
  rcases hq with hq | hq
  · obtain ⟨its, r', pl, hz⟩ := I.list hq
    have hlen := r'.length
    exact Calls.call_len_list pl.isList (by simp only [List.size_toArray] <;> omega) ⟨.int ys.length, H, I.tok _, ⟨s.toks + 1, by rw [List.size_toArray, hlen]⟩, q⟩
  · obtain ⟨its, r', pl, hz⟩ := I.tuple hq
    have hlen := r'.length
    exact len_tuple pl (by simp only [List.size_toArray] <;> omega) ⟨.int ys.length, H, I.tok _, ⟨s.toks + 1, by rw [List.size_toArray, hlen]⟩, q⟩
theorem CallR.or {f : Value} {r r' : List V → Hp → VK → Prop} (h : CallR X f r) (h' : CallR X f r') : CallR X f (fun xs H Q => r xs H Q ∨ r' xs H Q) := by
  intro pins s σ H xs us Q I rs q
  rcases q with q | q
  · exact h pins s σ H xs us Q I rs q
  · exact h' pins s σ H xs us Q I rs q
theorem call_list_of : CallR X (.type "list") (fun xs H Q => ∃ p ys, xs = [.ref p] ∧ (SqL X.K H p ys ∨ SqT X.K H p ys) ∧ ∀ l, H l = none → Q (.ref l) (upd H l (.lst ys))) := by
  intro pins s σ H xs us Q I r h
  obtain ⟨p, ys, rfl, hq, q⟩ := h
  obtain ⟨u, rfl, rx⟩ := vals1 r
  cases rx
  have fin : ∀ (its : List Value), Vals ys its → ys.length ≤ sizeLine → ∀ (h' : Heap) (c' : Nat), (∀ b o', s.heap.get? b = some o' → h'.get? b = some o') →
      h'.get? s.heap.objs.size = some { cls := .type "list", dict := none, data := .seq its.toArray c', slots := #[] } → EP X pins σ Q (.ref s.heap.objs.size) { s with heap := h' } := fun its r' hz h' c' kp e =>
    ⟨.ref s.heap.objs.size, _, I.laid (t' := s.toks) kp (Nat.le_refl _) (show ObjOk X.prog X.w _ h' _ (.lst ys) from ⟨hz, its, c', r', e⟩), rfl, q _ (I.hok.fresh (Nat.le_refl _))⟩
  rcases hq with hq | hq
  · obtain ⟨its, r', pl, hz⟩ := I.list hq
    have hlen := r'.length
    obtain ⟨o, ho, hc, n, hd⟩ := pl.isList
    exact call_list_seq p (.inl rfl) ho hc hd (fun h' c' kp e => fin its r' hz h' c' kp e) (by simp only [List.size_toArray] <;> omega)
  · obtain ⟨its, r', pl, hz⟩ := I.tuple hq
    have hlen := r'.length
    obtain ⟨o, ho, hc, n, hd⟩ := pl
    exact call_list_seq p (.inr rfl) ho hc hd (fun h' c' kp e => fin its r' hz h' c' kp e) (by simp only [List.size_toArray] <;> omega)
noncomputable def tyV (K : PySem.W.Frag) (T : String) (x : V) (H : Hp) : Prop := match x with
  | .str _ => T = "str"
  | .int _ => T = "int"
  | .ref p => (T = "list" ∧ ∃ xs, SqL K H p xs) ∨ (T = "tuple" ∧ ∃ o, K.lookup p = some o ∧ o.cls = .type "tuple" ∧ o.dict = none) ∨
      (T = "dict" ∧ ((∃ kvs, H p = some (.dK kvs)) ∨ ∃ kvs, H p = some (.dT kvs))) ∨ (T = "set" ∧ ∃ S n, H p = some (.set S n))
  | _ => False
theorem tyV_is {pins : List (Addr × Obj)} {σ : St} {H : Hp} {s : Shared} {T : String} {x : V} {v : Value} (I : Inv X pins σ H s) (r : RelV x v) (ty : tyV X.K T x H) :
    s.TypeIs v T ∧ ∀ a, v = .ref a → ∃ ob, s.heap.get? a = some ob ∧ ob.dict = none := by
  cases x with
  | str z =>
    obtain ⟨t, rfl⟩ := r
    cases (show T = "str" from ty)
    exact ⟨typeIs_str s z t, fun _ e => nomatch e⟩
  | int i =>
    obtain ⟨t, rfl⟩ := r
    cases (show T = "int" from ty)
    exact ⟨typeIs_int s i t, fun _ e => nomatch e⟩
  | ref p =>
    cases r
    rcases ty with ⟨rfl, xs, hq⟩ | ⟨rfl, o, hk, hc, hd⟩ | ⟨rfl, hk⟩ | ⟨rfl, S, n, hk⟩
    · obtain ⟨its, _, pl, _⟩ := I.list hq
      refine ⟨pl.isList.typeIs, fun a e => ?_⟩
      cases e
      obtain ⟨o, n, e, c, hd, _⟩ := pl
      exact ⟨o, e, hd⟩
    · refine ⟨⟨o, I.kIn p o hk, hc⟩, fun a e => ?_⟩
      cases e
      exact ⟨o, I.kIn _ o hk, hd⟩
    · have z : ∃ o, s.heap.get? p = some o ∧ o.ExactDict := by
        rcases hk with ⟨kvs, hk⟩ | ⟨kvs, hk⟩
        · obtain ⟨_, _, _, _, o, _, _, e, ex, _⟩ := I.hok p _ hk
          exact ⟨o, e, ex⟩
        · obtain ⟨_, _, _, _, o, _, _, e, ex, _⟩ := I.hok p _ hk
          exact ⟨o, e, ex⟩
      obtain ⟨o, e, ex⟩ := z
      refine ⟨⟨o, e, ex.1⟩, fun a e2 => ?_⟩
      cases e2
      exact ⟨o, e, ex.2.1⟩
    · obtain ⟨o, _, _, _, e, ex, _⟩ := I.hok p _ hk
      refine ⟨⟨o, e, ex.1⟩, fun a e2 => ?_⟩
      cases e2
      exact ⟨o, e, ex.2.1⟩
  | _ => exact False.elim ty
noncomputable def tBM (K : PySem.W.Frag) (T : String) (r : V → List V → Hp → VK → Prop) (to : TE) (t : TA) : TE := fun σ H Q => to σ H fun x H1 => tyV K T x H1 ∧ t σ H1 fun xs H2 => r x xs H2 Q
variable {o e : Expr} {es : List Expr} {to : TE} {t : TA} {name : Str} {apos cpos : Pos} {T id : String} {r : V → List V → Hp → VK → Prop}
theorem pe_bm (pa : PlainAttrs T) (slot : Slot T name id) (hty : typeOf (.builtin id) = pure (.type "method_descriptor")) (hm : MtR X id r) (ho : PE X o to) (ha : PA X (e :: es) t)
    (hbase : autoParam (attributeBase o name X.env (eval o X.env) = eval o X.env) Internal.aut2._auto_1)
    (hfew : autoParam (((backTo cpos (starEach (e :: es) X.env)).all (fun x => !x.1) && (backToKw cpos (keywordEach [] X.env)).all (fun x => x.1.isSome)
      && decide ((e :: es).length + ([] : List Keyword).length + (if ([] : List Keyword).isEmpty then 0 else 1) < 30)) = true) Internal.aut2._auto_1)
    (hline : autoParam ((apos.endLine == cpos.line) = true) Internal.aut2._auto_1) (hs : autoParam (starEach (e :: es) X.env = (false, eval e X.env) :: starEach es X.env) Internal.aut2._auto_1) (hplain : autoParam ((backTo cpos (starEach es X.env)).any (·.1) = false) Internal.aut2._auto_1) :
    PE X (.Call (.Attribute o name apos) (e :: es) [] cpos) (tBM X.K T r to t) := by
  intro pins s σ H Q I h
  refine wpAny_Call_method_late hbase hfew hline rfl (thn (ho pins s σ H _ I h) fun v s1 zz => ?_)
  obtain ⟨x, H1, I1, r1, ty, q1⟩ := zz
  obtain ⟨h1, h2⟩ := tyV_is I1 r1 ty
  refine ⟨T, id, pa, slot, hty, h1, h2, ?_⟩
  have hA := ha cpos pins s1 σ H1 _ I1 q1
  rw [hs] at hA ⊢
  refine Calls.callWith_builtin (by show (false || (backTo cpos (starEach es X.env)).any (·.1)) = false; rw [hplain] <;> rfl) (Calls.evalArgs_plain ?_)
  exact thn hA fun us s2 ⟨vs, H2, I2, r2, q2⟩ => hm pins s2 σ H2 x vs v us Q I2 r1 r2 q2
/- xs.append(e), list.index on a module's tuple .. are MtR facts of 06m -/
end
end Internal

namespace Internal
open PySem PySem.Spec PyProof.Rows

noncomputable def MtM (X : Cx) (id : String) (r : V → List V → Hp → VK → Prop) : Prop :=
  ∀ (pins : List (Addr × Obj)) (s : Shared) (σ : St) (H : Hp) (x : V) (xs : List V) (v : Value) (us : List Value) (Q : VK), Inv X pins σ H s → RelV x v → Vals xs us → r x xs H Q →
    wpAny (model X.prog X.w) X.A (call (.builtin id) (v :: us)) (EP X pins σ Q) X.xe s

theorem Vals.one : ∀ {x : V} {us : List Value}, Vals [x] us → ∃ u, us = [u] ∧ RelV x u
  | _, _, h => by
    cases h with
    | cons r t => cases t; exact ⟨_, rfl, r⟩
theorem Vals.rep {xs : List V} {us : List Value} (h : Vals xs us) : ∀ k : Nat, Vals (List.replicate k xs).flatten (List.replicate k us).flatten
  | 0 => .nil
  | k + 1 => by
    rw [List.replicate_succ, List.replicate_succ, List.flatten_cons, List.flatten_cons]
    exact Vals.append h (Vals.rep h k)
theorem foldl_rep (its : List Value) : ∀ (k : Nat) (acc : List Value),
    List.foldl (fun x1 x2 => x1 ++ x2) acc.toArray (List.replicate k its.toArray) = (acc ++ (List.replicate k its).flatten).toArray
  | 0, acc => by simp
  | k + 1, acc => by
    have e : acc.toArray ++ its.toArray = (acc ++ its).toArray := by simp
    have e2 : (acc ++ its) ++ (List.replicate k its).flatten = acc ++ (List.replicate (k + 1) its).flatten := by
      rw [List.replicate_succ, List.flatten_cons, List.append_assoc]
    rw [← e2, ← foldl_rep its k (acc ++ its), ← e, List.replicate_succ, List.foldl_cons]

section
variable {X : Cx} {pins : List (Addr × Obj)} {σ : St} {H : Hp} {s : Shared} {l b : Addr} {xs ys zs : List V}

theorem Inv.lset {its its' : List Value} {n : Nat} {f : Array Value → Array Value} {t' : Nat} (I : Inv X pins σ H s) (hH : H l = some (.lst xs))
    (e : s.heap.get? l = some { cls := .type "list", data := .seq its.toArray n }) (hf : f its.toArray = its'.toArray) (hv : Vals ys its') (hz : ys.length ≤ sizeLine) :
    Inv X pins σ (upd H l (.lst ys)) { s with heap := s.heap.update l (Obj.mapSeq f), toks := t' } := by
  have q := PySem.IsL.update e f
  rw [hf] at q
  refine I.write (x := l) (e := l) (by rw [hH]; exact trivial) (.inl rfl) (fun b' u hb hu => (Heap.get?_update_other s.heap (Obj.mapSeq f) (Ne.symm hb)).trans hu) ⟨_, q⟩ ?_
  exact ⟨hz, its', _, hv, q⟩
theorem Inv.lnew {its : List Value} {t' : Nat} (I : Inv X pins σ H s) (hv : Vals ys its) (hz : ys.length ≤ sizeLine) :
    Inv X pins σ (upd H s.heap.objs.size (.lst ys)) { s with heap := s.heap.push { cls := .type "list", data := .seq its.toArray }, toks := t' } :=
  I.laid (fun _ _ q => Heap.get?_push_of_some _ q) (Nat.le_refl _) ⟨hz, its, 0, hv, Heap.get?_push_size _ rfl⟩
theorem Inv.fresh (I : Inv X pins σ H s) : H s.heap.objs.size = none := I.hok.fresh (Nat.le_refl _)
theorem Inv.lstM (I : Inv X pins σ H s) (hH : H l = some (.lst xs)) : xs.length ≤ sizeLine ∧ ∃ (its : List Value) (n : Nat), Vals xs its ∧ xs.length = its.length ∧ s.heap.get? l = some { cls := .type "list", data := .seq its.toArray n } := by
  obtain ⟨z, its, n, r, e⟩ := I.hok l _ hH
  exact ⟨z, its, n, r, r.length, e⟩

theorem notLongL {n : Nat} (h : n ≤ sizeLine) : Builtin.List.listTooLong n = false := by
  unfold Builtin.List.listTooLong
  exact decide_eq_false (by omega)
end

section
variable {X : Cx}

noncomputable def rAppend : V → List V → Hp → VK → Prop := fun x vs H Q => ∃ l xs y, x = .ref l ∧ vs = [y] ∧ H l = some (.lst xs) ∧ xs.length < sizeLine ∧ Q .non (upd H l (.lst (xs ++ [y])))
theorem mt_append : MtM X "list.append" rAppend := by
  intro pins s σ H x vs v us Q I rx rv h
  obtain ⟨l, xs, y, rfl, rfl, hH, hz, q⟩ := h
  cases rx
  obtain ⟨u, rfl, ru⟩ := rv.one
  obtain ⟨z, its, n, r, hl, e⟩ := I.lstM hH
  refine call_meets F.slot_list_append ⟨_, e, rfl⟩ F.entry_list_append (F.args_list_append_2 _ _) (PySem.list_append l its.toArray n u (by rw [List.size_toArray]; omega)) ⟨e, ?_⟩
  refine ⟨.non, _, I.lset (its' := its ++ [u]) hH e (by simp) (r.append (.cons ru .nil)) ?_, rfl, q⟩
  rw [List.length_append, List.length_singleton]
  omega

noncomputable def rExtend : V → List V → Hp → VK → Prop := fun x vs H Q => ∃ l b xs zs, x = .ref l ∧ vs = [.ref b] ∧ H l = some (.lst xs) ∧ H b = some (.lst zs) ∧ xs.length + zs.length ≤ sizeLine ∧ Q .non (upd H l (.lst (xs ++ zs)))
theorem mt_extend : MtM X "list.extend" rExtend := by
  intro pins s σ H x vs v us Q I rx rv h
  obtain ⟨l, b, xs, zs, rfl, rfl, hH, hB, hz, q⟩ := h
  cases rx
  obtain ⟨u, rfl, ru⟩ := rv.one
  cases ru
  obtain ⟨z, its, n, r, hl, e⟩ := I.lstM hH
  obtain ⟨z2, its2, n2, r2, hl2, e2⟩ := I.lstM hB
  have hsz : its.toArray.size + its2.toArray.size ≤ sizeLine := by rw [List.size_toArray, List.size_toArray]; omega
  have hlong : ¬ (!its.toArray.isEmpty && Builtin.List.listTooLong (its.toArray.size + its2.toArray.size)) = true := by
    rw [notLongL hsz, Bool.and_false]
    exact Bool.false_ne_true
  refine call_meets F.slot_list_extend ⟨_, e, rfl⟩ F.entry_list_extend (F.args_list_extend_2 _ _)
    (AutoSeq1.list_extend_list_list_0 l its.toArray n b its2.toArray n2 hlong (by rw [List.size_toArray]; omega) (by omega)) ⟨e, e2, ?_⟩
  refine ⟨.non, _, I.lset (its' := its ++ its2) hH e (by simp) (r.append r2) ?_, rfl, q⟩
  rw [List.length_append]
  omega

noncomputable def rCat : R2 := fun x y H Q => ∃ l b xs zs, x = .ref l ∧ y = .ref b ∧ H l = some (.lst xs) ∧ H b = some (.lst zs) ∧ xs.length + zs.length ≤ sizeLine ∧ ∀ p, H p = none → Q (.ref p) (upd H p (.lst (xs ++ zs)))
theorem op_cat : OpR X (binaryOp .Add) rCat := by
  intro pins s σ H x y v u Q I rx ry h
  obtain ⟨l, b, xs, zs, rfl, rfl, hH, hB, hz, q⟩ := h
  cases rx
  cases ry
  obtain ⟨z, its, n, r, hl, e⟩ := I.lstM hH
  obtain ⟨z2, its2, n2, r2, hl2, e2⟩ := I.lstM hB
  refine PySem.P.add_list e e2 ?_ (by rw [List.size_toArray, List.size_toArray]; omega)
  have ea : its.toArray ++ its2.toArray = (its ++ its2).toArray := by simp
  rw [ea]
  exact ⟨.ref _, _, I.lnew (t' := s.toks) (r.append r2) (by rw [List.length_append]; omega), rfl, q _ I.fresh⟩
noncomputable def rRep : R2 := fun x y H Q => ∃ l k xs, x = .ref l ∧ y = .int k ∧ H l = some (.lst xs) ∧ -(2 ^ 63) ≤ k ∧ k < 2 ^ 63 ∧ xs.length * k.toNat ≤ sizeLine ∧
  ∀ p, H p = none → Q (.ref p) (upd H p (.lst (List.replicate k.toNat xs).flatten))
theorem len_rep {α : Type} (xs : List α) (k : Nat) : (List.replicate k xs).flatten.length = k * xs.length := by
  induction k with
  | zero => simp
  | succ k ih => rw [List.replicate_succ, List.flatten_cons, List.length_append, ih, Nat.succ_mul, Nat.add_comm]
theorem op_rep : OpR X (binaryOp .Mult) rRep := by
  intro pins s σ H x y v u Q I rx ry h
  obtain ⟨l, k, xs, rfl, rfl, hH, h1, h2, hz, q⟩ := h
  cases rx
  obtain ⟨t, rfl⟩ := ry
  obtain ⟨z, its, n, r, hl, e⟩ := I.lstM hH
  have hlen : its.toArray.size * k.toNat ≤ sizeLine := by rw [List.size_toArray, ← hl]; exact hz
  have hcap : ¬ its.toArray.size * k.toNat > (2 ^ 63 - 1) / 8 := by
    have : (sizeLine : Nat) ≤ (2 ^ 63 - 1) / 8 := by decide
    omega
  have hfit : ¬ (!Builtin.List.listFitsIndex k) = true := by
    rw [fitsIndex_both h1 h2]
    exact Bool.false_ne_true
  have hlong : ¬ Builtin.List.listTooLong (its.toArray.size * k.toNat) = true := by
    rw [notLongL hlen]
    exact Bool.false_ne_true
  have hnew : List.foldl (fun x1 x2 => x1 ++ x2) #[] (List.replicate (if its.toArray.isEmpty = true then 0 else k.toNat) its.toArray) = (List.replicate k.toNat its).flatten.toArray := by
    have f0 : ∀ m : Nat, List.foldl (fun x1 x2 => x1 ++ x2) #[] (List.replicate m its.toArray) = (List.replicate m its).flatten.toArray := fun m => by
      have := foldl_rep its m []
      rw [List.nil_append] at this
      exact this
    rw [f0]
    cases its with
    | nil => simp
    | cons a r' => rw [if_neg (by simp)]
  refine wpAny_binaryOp_repeat_ref (T := "list") (U := "int") (by decide) ⟨_, e, rfl⟩ (fun s' => typeIs_int s' k t) noFill_list_mul F.fills_int_mul F.slot_int_rmul repeat_list F.slot_int_index.lookup
    (call_meets F.slot_int_rmul (typeIs_int s k t) F.entry_int_rmul (F.args_int_rmul_2 _ _) (int___rmul___int_list k t l its.toArray n)
      ⟨e, rfl, ⟨_, e, rfl⟩, call_meets F.slot_list_mul ⟨_, e, rfl⟩ F.entry_list_mul (F.args_list_mul_2 _ _) (AutoListH.list___mul___list_int_3 l its.toArray n k t hfit hcap hlong) ⟨e, ?_⟩⟩)
  rw [hnew]
  exact ⟨.ref _, _, I.lnew (t' := s.toks) (r.rep k.toNat) (by rw [len_rep, Nat.mul_comm]; exact hz), rfl, q _ I.fresh⟩

end

section
variable {prog : Program} {w : World} {A : Around} {E : Value → Shared → Prop} {s : Shared}
end

section
variable {X : Cx}
end
end Internal

namespace Att
open PySem PySem.W PySem.Calls PyProof.Rows

theorem ints_of_wellAll {P : Params} {h : Heap} : ∀ (ns : List Int) (vs : List Value), WellAll P h vs (ns.map WData.int) → IntsAre vs ns := by
  intro ns
  induction ns with
  | nil =>
    intro vs w
    rw [List.map_nil] at w
    cases w
    exact .nil
  | cons n ns ih =>
    intro vs w
    rw [List.map_cons] at w
    cases w with
    | cons a b =>
      cases a
      exact .cons _ _ (ih _ b)

theorem script_of {l : OpenLaw} {n : Nat} (hn : l.most = some n) {P : Params} {h : Heap} {args : List WData} {vals : List Value}
    (hpre : l.row.toRowW.claim.pre args = true) (hwl : WellAll P h vals args) :
    ∃ a vs ns, vals = [Value.ref a] ∧ args = [WData.list (ns.map WData.int)] ∧ h.get? a = some { cls := .type "list", data := .seq vs.toArray } ∧ IntsAre vs ns ∧ ns.length ≤ n := by
  have hsh : WShape.hasAll [] args [.list .int] = true := (pre_splitW hpre).1
  have hc : l.pre.holds [] { args := args } = true := (pre_splitW hpre).2
  obtain ⟨d, r, rfl, h1, h2⟩ := hasAllW_cons hsh
  obtain rfl := hasAllW_nil h2
  obtain ⟨xs, rfl, h3⟩ := hasW_list h1
  obtain ⟨ns, rfl⟩ := items_int h3
  have hlen : ns.length ≤ n := by
    unfold OpenLaw.pre at hc
    have h4 : (WTm.not (.lt (.lit (.int (n : Int))) (.len (.arg 0)))).holds [] { args := [.list (ns.map .int)] } = true := by
      have h4 := (holds_andW hc).1
      rw [hn] at h4
      exact h4
    have h5 := condW_of h4 (w_not (w_lt w_lit (w_len_list (w_arg rfl))))
    rw [List.length_map] at h5
    refine Nat.le_of_not_lt fun q => ?_
    have q' : (n : Int) < ((ns.length : Nat) : Int) := by omega
    first
      | (rw [decide_eq_true q'] at h5; exact absurd h5 (by decide))
      | (simp at h5; omega)
  cases hwl with
  | cons w1 w2 =>
    cases w2
    cases w1 with
    | list ho hall => exact ⟨_, _, ns, rfl, rfl, ho, ints_of_wellAll ns _ hall, hlen⟩

theorem post_true (l : OpenLaw) (args : List WData) : l.row.toRowW.claim.post args (.bool true) args = true :=
  postW_of (r := l.row.toRowW) (X := (true == true))
    (show WShape.has [] (.bool true) .bool = true by first | rfl | decide | simp [WShape.has, WShape.arms, WShape.armsAll])
    (show (WTm.eq .res (.lit (.bool true))).value [] { args := args, res := some (.bool true), after := args } = some (.bool (true == true)) from w_eq_bool (w_res rfl) w_lit) rfl

theorem attach_call {l : OpenLaw} {n : Nat} {q : Program} {loose : List Str} {XP : (Str → Option Value) → Heap → Prop} {YP : World → Heap → Prop} {d : DefRec}
    (hn : l.most = some n) (hdf : d.params.defaults = [])
    (call : ∀ (w : World) (s₀ s₁ : Shared) (mg mb : Str → Option Value) (fa : Addr) (o : Obj) (pm cd doc : Value) (a : Addr) (vs : List Value) (ns : List Int),
      Ground q loose [] XP w s₀ mg mb s₁.heap → YP w s₁.heap →
      s₁.heap.get? fa = some o → o.data = .func (docDef d.name d.params d.body d.scope pm cd doc) → s₁.heap.CodeRec cd d.name → mg d.name = some (.ref fa) →
      s₁.heap.get? a = some { cls := .type "list", data := .seq vs.toArray } → IntsAre vs ns → ns.length ≤ n → s₁.gens = #[] →
      codeAny (model l.prog w) callerA (.call (.ref fa) ⟨[.ref a], []⟩) (fun r s' => r = .ok (.ret (.bool true)) ∧ OldK s₁.heap s'.heap ∧ s'.os = s₁.os ∧ AllBare s'.gens) s₁) :
    WalkO q loose XP YP l.row.toRowW d [] (fun f vs => PySem.call f vs) := by
  intro w s₀ s₁ mg mb G Y fa o pm cd doc dV kV ho hd hcd hD hmg hg args vals as hpre hlay hrd hwl hlo
  obtain rfl : dV = .none := Dflts.none hD hdf
  obtain rfl : kV = .none := Dflts.noKw hD
  obtain ⟨a, vs, ns, rfl, rfl, hobj, hints, hlen⟩ := script_of hn hpre hwl
  refine enter_call (codeAny_mono (call w s₀ s₁ mg mb fa o pm cd doc a vs ns G Y ho (fd_plain hd) hcd hmg hobj hints hlen hg) fun r s' hq => ?_)
  obtain ⟨rfl, h2, h3, h4⟩ := hq
  exact ⟨.inl ⟨.bool true, .bool true, [], rfl, fun _ => rfl, .bool true, post_true l _, fun _ => ⟨List.Pairwise.nil, fun _ hm => (nomatch hm)⟩⟩, h2, h3, h4⟩

section
variable {prog : Program} {w : World} {A : Around} {E : Value → Shared → Prop} {s : Shared} {K : Frag}

noncomputable def ledger (h : Heap) (L d : Addr) : List (Addr × Obj) := (List.range h.objs.size).filterMap fun a => if a = L ∨ a = d then none else (h.get? a).map fun o => (a, o)
end
end Att

namespace Internal
open PySem PySem.Spec PyProof.Rows

theorem vals_ints : ∀ {vs : List Value} {ns : List Int}, IntsAre vs ns → Vals (ns.map V.int) vs
  | _, _, .nil => .nil
  | _, _, .cons n t h => .cons ⟨t, rfl⟩ (vals_ints h)

noncomputable def Only (H : Hp) : Prop := ∀ b, H b = none ∨ ∃ o xs, H b = some (.frz o (.lst xs))

theorem law_call {P : Program} {w : World} {K : PySem.W.Frag} {mg mb : Str → Option Value} {CX : CXT} {k : Nat} {fa a : Addr} {fd : FuncData} {x : Str} {sp : Sp} {s₁ : Shared} {vs : List Value} {ns : List Int}
    (KX : K.In s₁.heap) (hns : s₁.heap.Ns mainGlobals mg) (hb : s₁.heap.Ns builtinsNs mb) (hbb : ∀ x : Str, x ≠ "__name__" → mb x = bootBuiltins x) (hlim : s₁.heap.NoLimit) (hg : s₁.gens = #[])
    (ha : s₁.heap.get? a = some { cls := .type "list", data := .seq vs.toArray }) (hi : IntsAre vs ns) (hl : ns.length ≤ sizeLine) (hr : Room k callerA)
    (F : ∀ base : Heap, K.In base → base.Ns mainGlobals mg → FnOk P w K mg base CX k fa fd [x] sp) (hbind : ∀ (s : Shared) (u : Value), BindsTo s fd ⟨[u], []⟩ [(x, u)])
    (hsp : ∀ H : Hp, Only H → SqL K H a (ns.map V.int) → sp [.ref a] H (fun v _ => v = .bl true) fun _ _ _ => False)
    (hCX : ∀ H e s', CX [] H s₁ (fun _ _ _ => False) e s' → False) :
    codeAny (model P w) callerA (.call (.ref fa) ⟨[.ref a], []⟩) (fun r s' => r = .ok (.ret (.bool true)) ∧ OldK s₁.heap s'.heap ∧ s'.os = s₁.os ∧ AllBare s'.gens) s₁ := by
  have rv := vals_ints hi
  have lenV := hi.length
  -- from an abstract heap in which nothing but the script may be tracked
  have core : ∀ H : Hp, Only H → SqL K H a (ns.map V.int) → HOk P w H s₁.heap → (∀ b, H b ≠ none → b = a) → (H a ≠ none → K.lookup a = none) →
      codeAny (model P w) callerA (.call (.ref fa) ⟨[.ref a], []⟩) (fun r s' => r = .ok (.ret (.bool true)) ∧ OldK s₁.heap s'.heap ∧ s'.os = s₁.os ∧ AllBare s'.gens) s₁ := by
    intro H hO hS hok hA hK
    have base_of : ∀ {b : Addr} {o : Obj}, s₁.heap.get? b = some o → H b = none → (hidT s₁.heap H).get? b = some o := fun e n => hidT_get e n
    have noA : ∀ {b : Addr} {o : Obj} {es : Array DictEntry} {ep : Nat}, s₁.heap.get? b = some o → o.data = .dict es ep → H b = none := fun {b o es ep} e d => by
      cases q : H b with
      | none => rfl
      | some u =>
        have e' : b = a := hA b (by rw [q]; simp)
        subst e'
        rw [ha] at e; cases e
        have d' : Data.seq vs.toArray _ = Data.dict es ep := d
        cases d'
    have nsK : ∀ {b : Addr} {m : Str → Option Value}, s₁.heap.Ns b m → (hidT s₁.heap H).Ns b m := fun {b m} ⟨o, es, ep, e, d, r⟩ => ⟨o, es, ep, base_of e (noA e d), d, r⟩
    have hKb : K.In (hidT s₁.heap H) := fun b o e => base_of (KX b o e) (by
      cases q : H b with
      | none => rfl
      | some u =>
        have e' : b = a := hA b (by rw [q]; simp)
        subst e'
        rw [hK (by rw [q]; simp)] at e; cases e)
    have hM : Mod K mg (hidT s₁.heap H) := ⟨hKb, nsK hns, ⟨mb, nsK hb, hbb⟩, let ⟨mc, h1, h2⟩ := hlim; ⟨mc, nsK h1, h2⟩⟩
    have e0 : Env0 P w K mg (hidT s₁.heap H) callerA [] s₁ H := ⟨rfl, hM, fun b o e => of_hidT e, Nat.le_of_eq (hidT_size _ _), trivial, fun b hb => absurd (show b ∈ ([] : List Addr) from hb) (by simp), hok, .of_eq hg⟩
    refine codeAny_mono ((F _ hKb (nsK hns)).run callerA [] s₁ H ⟨[.ref a], []⟩ [.ref a] [.ref a] _ _ hr e0 (hbind s₁ (.ref a)) (.cons rfl .nil) (hsp H hO hS)) fun r s' h => ?_
    cases r with
    | error e => exact (hCX H e s' h).elim
    | ok fl =>
      cases fl with
      | next => exact False.elim h
      | brk => exact False.elim h
      | cont => exact False.elim h
      | ret u =>
        obtain ⟨v, H', os, bare, un, hok', r', q⟩ := h
        have q' : v = .bl true := q
        subst q'
        obtain rfl : u = Value.bool true := r'
        refine ⟨rfl, OldK.of_keep fun b o e => ?_, os, bare⟩
        cases q : H b with
        | none => exact un.keep b o e q (by intro z; exact absurd (show b ∈ ([] : List Addr) from z) (by simp)) (by simp)
        | some u =>
          rcases hO b with z | ⟨ob, xs, z⟩
          · rw [q] at z; cases z
          · have z2 := un.frzs b ob _ z
            obtain ⟨e1, _⟩ := hok b _ z
            obtain ⟨e2, _⟩ := hok' b _ z2
            rw [e] at e1; cases e1
            exact e2
  cases hk : K.lookup a with
  | some o =>
    -- the script is one of the module's own objects
    have e := KX a o hk
    rw [ha] at e
    cases e
    refine core (fun _ => none) (fun _ => .inl rfl) (.inr ⟨_, vs.toArray, _, hk, rfl, rfl, rfl, by rw [List.size_toArray, lenV]; exact hl, by simpa using rv⟩) (fun b u z => by have z' : (none : Option HO) = some u := z; cases z') (fun b z => absurd rfl z) fun z => absurd rfl z
  | none =>
    refine core (fun b => if b = a then some (.frz { cls := .type "list", data := .seq vs.toArray } (.lst (ns.map V.int))) else none) (fun b => ?_) (.inl (.inr ⟨{ cls := .type "list", data := .seq vs.toArray }, if_pos rfl⟩)) (fun b u z => ?_) (fun b z => ?_) fun _ => hk
    · by_cases hb : b = a
      · exact .inr ⟨_, _, if_pos hb⟩
      · exact .inl (if_neg hb)
    · by_cases hb : b = a
      · have z' := (if_pos hb).symm.trans z
        cases z'
        subst hb
        exact ⟨ha, by rw [List.length_map]; exact hl, vs, _, rv, ha⟩
      · have z' := (if_neg hb).symm.trans z
        cases z'
    · by_cases hb : b = a
      · exact hb
      · exact absurd (if_neg hb) z
end Internal

namespace Internal
open PySem PySem.Spec PyProof.Rows

noncomputable abbrev KOf {K : PySem.W.Frag} {h : Heap} (_ : K.In h) : PySem.W.Frag := K

theorem walk_of {l : PySem.W.OpenLaw} {n k : Nat} {q : Program} {loose : List Str} {XP : (Str → Option Value) → Heap → Prop} {YP : World → Heap → Prop} {d : DefRec} {K : Params → PySem.W.Frag} {CX : World → CXT} {sp : World → Sp} {x : Str}
    (hn : l.most = some n) (hn2 : n ≤ sizeLine) (hdf : d.params.defaults = []) (hr : Room k callerA)
    (hY : ∀ (w : World) (h : Heap), YP w h → (K w.params).In h)
    (F : ∀ (w : World) (mg : Str → Option Value) (fa : Addr) (h : Heap), (K w.params).In h → h.Ns mainGlobals mg → mg d.name = some (.ref fa) →
      ∃ fd : FuncData, (∀ (s : Shared) (u : Value), BindsTo s fd ⟨[u], []⟩ [(x, u)]) ∧
        ∀ base : Heap, (K w.params).In base → base.Ns mainGlobals mg → FnOk l.prog w (K w.params) mg base (CX w) k fa fd [x] (sp w))
    (hsp : ∀ (w : World) (H : Hp) (a : Addr) (ns : List Int), ns.length ≤ n → Only H → SqL (K w.params) H a (ns.map V.int) → sp w [.ref a] H (fun v _ => v = .bl true) fun _ _ _ => False)
    (hCX : ∀ (w : World) (H : Hp) (s : Shared) (e : Value) (s' : Shared), CX w [] H s (fun _ _ _ => False) e s' → False) :
    PySem.W.WalkO q loose XP YP l.row.toRowW d [] (fun f vs => PySem.call f vs) := by
  refine Att.attach_call hn hdf fun w s₀ s₁ mg mb fa o pm cd doc a vs ns G Y ho hd hcd hmg hobj hints hlen hg => ?_
  have KX := hY w _ Y
  obtain ⟨fd, hb, hF⟩ := F w mg fa _ KX G.T.g hmg
  exact law_call KX G.T.g G.T.b G.T.builtins G.T.nolimit hg hobj hints (Nat.le_trans hlen hn2) hr hF hb (fun H hO hS => hsp w H a ns hlen hO hS) fun H e s' => hCX w H s₁ e s'
end Internal



namespace Internal
open PySem PySem.Spec PyProof.Rows

noncomputable def defArgs (s : Stmt) : Arguments := match s with
  | .FunctionDef _ a _ _ _ _ _ _ _ _ => a
  | _ => { posonlyargs := [], args := [], vararg := none, kwonlyargs := [], kw_defaults := [], kwarg := none, defaults := [] }
noncomputable def defBody (s : Stmt) : List Stmt := match s with
  | .FunctionDef _ _ b _ _ _ _ _ _ _ => b
  | _ => []
noncomputable def defScope (s : Stmt) : Scope := match s with
  | .FunctionDef _ _ _ _ _ _ sc _ _ _ => sc
  | _ => { kind := .function, names := [], isGenerator := false, isCoroutine := false }

noncomputable abbrev CX0 : CXT := fun _ _ _ _ _ _ => False
noncomputable abbrev E0 : XK := fun _ _ _ => False
set_option genInjectivity false in
set_option genSizeOf false in
structure Fun (K : PySem.W.Frag) (x qual : Str) (st : Stmt) (f : Addr) (fd : FuncData) : Prop where
  ex : ∃ (oc : Value) (od : Option Addr) (kV doc pm : Value) (an : Option Addr) (cdv ct : Value) (osl : Array (Option Value)),
    fd = PySem.W.fnOf x qual (defArgs st) (defBody st) (defScope st) .none kV doc pm an cdv ct ∧ K.lookup f = some ⟨oc, od, .func fd, osl⟩ ∧ PySem.W.codeIn K cdv qual = true
  kp : PySem.W.keepIn K (.ref f) = true
section
variable {P : Program} {w : World} {K : PySem.W.Frag} {mg : Str → Option Value} {base : Heap}
theorem Fun.binds {x qual : Str} {st : Stmt} {f : Addr} {fd : FuncData} {ps : List Str} (F : Fun K x qual st f fd)
    (h : ∀ (kV doc pm : Value) (an : Option Addr) (cdv ct : Value) (us : List Value), us.length = ps.length → bindArgs (PySem.W.fnOf x qual (defArgs st) (defBody st) (defScope st) .none kV doc pm an cdv ct) ⟨us, []⟩ = pure (ps.zip us)) : Binds K fd ps [] := by
  obtain ⟨oc, od, kV, doc, pm, an, cdv, ct, osl, rfl, lk, hcd⟩ := F.ex
  exact .all (h kV doc pm an cdv ct)
theorem fun_mk {x qual : Str} {st : Stmt} {f : Addr} {oc : Value} {od an : Option Addr} {osl : Array (Option Value)} {kV doc pm cdv ct : Value} (l : K.lookup f = some ⟨oc, od, .func (PySem.W.fnOf x qual (defArgs st) (defBody st) (defScope st) .none kV doc pm an cdv ct), osl⟩)
    (c : PySem.W.codeIn K cdv qual = true) (k : PySem.W.keepIn K (.ref f) = true) : Fun K x qual st f (PySem.W.fnOf x qual (defArgs st) (defBody st) (defScope st) .none kV doc pm an cdv ct) := ⟨⟨oc, od, kV, doc, pm, an, cdv, ct, osl, rfl, l, c⟩, k⟩
end
section
variable {X : Cx}
theorem pv (i : Nat) {x : Str} {pos : Pos} (hN : autoParam (X.N[i]? = some x) Internal.aut2._auto_1) (hv : Vis X.env.scope x := by first | exact Or.inl rfl | exact Or.inr (Or.inl rfl) | exact Or.inr (Or.inr rfl)) (hd : autoParam ((x == ("__debug__" : Str)) = false) Internal.aut1._auto_1)
    (hcd : autoParam ((x == ("__classdict__" : Str)) = false) Internal.aut1._auto_1) : PE X (.Name x pos) (tVar i) := pe_var hN hv hd hcd
end

noncomputable def Same (H H' : Hp) : Prop := ∀ b o, H b = some o → H' b = some o
theorem Same.refl (H : Hp) : Same H H := fun _ _ h => h
theorem Same.trans {H H1 H2 : Hp} (a : Same H H1) (b : Same H1 H2) : Same H H2 := fun c o h => b c o (a c o h)
theorem Same.seq {K : PySem.W.Frag} {H H' : Hp} {a : Addr} {xs : List V} (e : Same H H') (h : SqL K H a xs) : SqL K H' a xs := by
  rcases h with (h | ⟨o, h⟩) | h
  · exact .inl (.inl (e _ _ h))
  · exact .inl (.inr ⟨o, e _ _ h⟩)
  · exact .inr h

end Internal

set_option Elab.async false
set_option linter.all false
set_option maxRecDepth 100000
namespace Internal
open PySem PySem.Spec PyProof.Rows

namespace BT
theorem len : bootBuiltins "len" = some (.builtin "len") := by decide +kernel
theorem max : bootBuiltins "max" = some (.builtin "max") := by decide +kernel
theorem sorted : bootBuiltins "sorted" = some (.builtin "sorted") := by decide +kernel
theorem isinstance : bootBuiltins "isinstance" = some (.builtin "isinstance") := by decide +kernel
theorem int : bootBuiltins "int" = some (.type "int") := by decide +kernel
theorem bool : bootBuiltins "bool" = some (.type "bool") := by decide +kernel
theorem list : bootBuiltins "list" = some (.type "list") := by decide +kernel
theorem ValueError : bootBuiltins "ValueError" = some (.type "ValueError") := by decide +kernel
end BT

noncomputable def sz (i : Int) : Nat := Builtin.Int.intBits i
theorem sz_le {i : Int} {n : Nat} : sz i ≤ n ↔ i.natAbs < 2 ^ n := by
  unfold sz Builtin.Int.intBits
  by_cases h : i = 0
  · subst h; simp; exact Nat.two_pow_pos n
  · have h' : (i == 0) = false := by simp [h]
    rw [h', if_neg (by decide)]
    have hn : i.natAbs ≠ 0 := by omega
    rw [← Nat.log2_lt hn]; omega
theorem sz_add {i j : Int} {n : Nat} (h1 : sz i ≤ n) (h2 : sz j ≤ n) : sz (i + j) ≤ n + 1 := by
  rw [sz_le] at *; rw [Nat.pow_succ]; omega
theorem sz_mul {i j : Int} {n m : Nat} (h1 : sz i ≤ n) (h2 : sz j ≤ m) : sz (i * j) ≤ n + m := by
  rw [sz_le] at *
  rw [Int.natAbs_mul, Nat.pow_add]
  exact Nat.mul_lt_mul'' h1 h2
theorem sz_of {i : Int} {n : Nat} (h : i.natAbs < 2 ^ n) : sz i ≤ n := sz_le.mpr h
theorem sz200 {i : Int} (h1 : -1606938044258990275541962092341162602522202993782792835301376 < i) (h2 : i < 1606938044258990275541962092341162602522202993782792835301376) : sz i ≤ 200 := sz_of (by
  have : (2 : Nat) ^ 200 = 1606938044258990275541962092341162602522202993782792835301376 := by decide
  omega)
section
variable {X : Cx}
noncomputable def CMulS (i j : Int) : Prop := sz i + sz j ≤ 134217728
theorem CMulS.ok {i j : Int} (h : CMulS i j) : IntMulOk i j := by
  unfold IntMulOk
  have e : Builtin.Int.intTooBig (((Builtin.Int.intBits i : Nat) : Int) + ((Builtin.Int.intBits j : Nat) : Int)) = false := by
    unfold Builtin.Int.intTooBig
    have hb : bitsLine = 134217728 := by decide
    rw [decide_eq_false]
    rw [hb]
    unfold CMulS sz at h
    omega
  rw [e]; simp
theorem CMulS.of {i j : Int} {n m : Nat} (h1 : sz i ≤ n) (h2 : sz j ≤ m) (h : n + m ≤ 134217728) : CMulS i j := by unfold CMulS; omega
theorem op_mulS : OpR X (binaryOp .Mult) (rI CMulS fun i j => .int (i * j)) := opI fun _ _ _ _ _ _ _ hc q => mul_int q hc.ok
noncomputable def rMulU : R2 := fun x y H Q => rI CMulS (fun i j => .int (i * j)) x y H Q ∨ rRep x y H Q
theorem op_mulU : OpR X (binaryOp .Mult) rMulU := op_mulS.or op_rep
noncomputable def rAddU (K : PySem.W.Frag) : R2 := fun x y H Q => rI0 (fun i j => .int (i + j)) x y H Q ∨ rCat x y H Q ∨ rCatT K x y H Q
theorem op_addU : OpR X (binaryOp .Add) (rAddU X.K) := op_add.or (op_cat.or op_catT)
noncomputable def rModU : R2 := rI (fun _ j => j ≠ 0) fun i j => .int (i.fmod j)
theorem op_modU : OpR X (binaryOp .Mod) rModU := op_modN

mutual
inductive RepD (K : PySem.W.Frag) (H : Hp) : V → PyData → Prop
  | non : RepD K H .non .none
  | bl (b : Bool) : RepD K H (.bl b) (.bool b)
  | int (i : Int) : RepD K H (.int i) (.int i)
  | str (x : Str) (ok : PyData.canLay0 (.str x) = true) : RepD K H (.str x) (.str x)
  | lst {a : Addr} {vs : List V} {ds : List PyData} : SqL K H a vs → RepAll K H vs ds → RepD K H (.ref a) (.list ds)
  | tup {a : Addr} {vs : List V} {ds : List PyData} : SqT K H a vs → RepAll K H vs ds → RepD K H (.ref a) (.tuple ds)
inductive RepAll (K : PySem.W.Frag) (H : Hp) : List V → List PyData → Prop
  | nil : RepAll K H [] []
  | cons {v : V} {d : PyData} {vs : List V} {ds : List PyData} : RepD K H v d → RepAll K H vs ds → RepAll K H (v :: vs) (d :: ds)
end
mutual
theorem RepD.reads {pins : List (Addr × Obj)} {σ : St} {H : Hp} {s : Shared} (I : Inv X pins σ H s) : ∀ {v : V} {d : PyData} {u : Value}, RepD X.K H v d → RelV v u → ∃ as, Reads s.heap u d as
  | _, _, _, .non, r => by cases (show _ = Value.none from r); exact ⟨_, .none⟩
  | _, _, _, .bl b, r => by cases (show _ = Value.bool b from r); exact ⟨_, .bool b⟩
  | _, _, _, .int i, r => by obtain ⟨t, rfl⟩ := (show ∃ t, _ = Value.int i t from r); exact ⟨_, .int i t⟩
  | _, _, _, .str x _, r => by obtain ⟨t, rfl⟩ := (show ∃ t, _ = Value.str x t from r); exact ⟨_, .str x t⟩
  | _, _, _, .lst h k, r => by
    cases (show _ = Value.ref _ from r)
    obtain ⟨its, rv, ⟨o, n, h1, h2, _, h3⟩, _⟩ := I.list h
    obtain ⟨as, q⟩ := RepAll.reads I k rv
    exact ⟨_, .list h1 h2 h3 (by simpa using q)⟩
  | _, _, _, .tup h k, r => by
    cases (show _ = Value.ref _ from r)
    obtain ⟨its, rv, ⟨o, h1, h2, n, h3⟩, _⟩ := I.tuple h
    obtain ⟨as, q⟩ := RepAll.reads I k rv
    exact ⟨_, .tuple h1 h2 h3 (by simpa using q)⟩
theorem RepAll.reads {pins : List (Addr × Obj)} {σ : St} {H : Hp} {s : Shared} (I : Inv X pins σ H s) : ∀ {vs : List V} {ds : List PyData} {us : List Value}, RepAll X.K H vs ds → Vals vs us → ∃ as, ReadsAll s.heap us ds as
  | _, _, _, .nil, .nil => ⟨_, .nil⟩
  | _, _, _, .cons h k, .cons r t => by
    obtain ⟨as, q⟩ := RepD.reads I h r
    obtain ⟨bs, p⟩ := RepAll.reads I k t
    exact ⟨_, .cons q p⟩
end
mutual
theorem RepD.lay {K : PySem.W.Frag} {H : Hp} : ∀ {v : V} {d : PyData}, RepD K H v d → d.canLay0 = true
  | _, _, .non => rfl
  | _, _, .bl _ => rfl
  | _, _, .int _ => rfl
  | _, _, .str _ ok => ok
  | _, _, .lst _ k => by rw [PyData.canLay0]; exact RepAll.lay k
  | _, _, .tup _ k => by rw [PyData.canLay0]; exact RepAll.lay k
theorem RepAll.lay {K : PySem.W.Frag} {H : Hp} : ∀ {vs : List V} {ds : List PyData}, RepAll K H vs ds → PyData.canLayAll0 ds = true
  | _, _, .nil => rfl
  | _, _, .cons h k => by rw [PyData.canLayAll0, RepD.lay h, RepAll.lay k]; rfl
end
theorem Same.seqT {K : PySem.W.Frag} {H H' : Hp} {a : Addr} {xs : List V} (e : Same H H') (h : SqT K H a xs) : SqT K H' a xs := by
  rcases h with (h | ⟨o, h⟩) | h
  · exact .inl (.inl (e _ _ h))
  · exact .inl (.inr ⟨o, e _ _ h⟩)
  · exact .inr h
mutual
theorem Same.rep {K : PySem.W.Frag} {H H' : Hp} (e : Same H H') : ∀ {v : V} {d : PyData}, RepD K H v d → RepD K H' v d
  | _, _, .non => .non
  | _, _, .bl b => .bl b
  | _, _, .int i => .int i
  | _, _, .str x ok => .str x ok
  | _, _, .lst h k => .lst (e.seq h) (e.repAll k)
  | _, _, .tup h k => .tup (e.seqT h) (e.repAll k)
theorem Same.repAll {K : PySem.W.Frag} {H H' : Hp} (e : Same H H') : ∀ {vs : List V} {ds : List PyData}, RepAll K H vs ds → RepAll K H' vs ds
  | _, _, .nil => .nil
  | _, _, .cons h k => .cons (e.rep h) (e.repAll k)
end
noncomputable def rEqU (K : PySem.W.Frag) : R2 := fun x y H Q => (∃ d e, RepD K H x d ∧ RepD K H y e ∧ min d.depth e.depth ≤ 60 ∧ Q (.bl (PyData.eqv d e)) H) ∨ rEq x y H Q
noncomputable def rNeU (K : PySem.W.Frag) : R2 := fun x y H Q => (∃ d e, RepD K H x d ∧ RepD K H y e ∧ min d.depth e.depth ≤ 60 ∧ Q (.bl (!PyData.eqv d e)) H) ∨ rNe x y H Q
theorem op_eqU (hu : X.A.units + 64 < cLine) : OpR X (compareOp .Eq) (rEqU X.K) := by
  refine OpR.or ?_ op_eq
  intro pins s σ H x y v u Q I rx ry h
  obtain ⟨d, e, h1, h2, hd, q⟩ := h
  obtain ⟨as, r1⟩ := h1.reads I rx
  obtain ⟨bs, r2⟩ := h2.reads I ry
  exact PySem.SeqAt.compareEq_reads r1 r2 h1.lay h2.lay (by omega) ⟨.bl _, H, I, rfl, q⟩
theorem op_neU (hu : X.A.units + 64 < cLine) : OpR X (compareOp .NotEq) (rNeU X.K) := by
  refine OpR.or ?_ op_ne
  intro pins s σ H x y v u Q I rx ry h
  obtain ⟨d, e, h1, h2, hd, q⟩ := h
  obtain ⟨as, r1⟩ := h1.reads I rx
  obtain ⟨bs, r2⟩ := h2.reads I ry
  exact PySem.SeqAt.compareNe_reads r1 r2 h1.lay h2.lay (by omega) ⟨.bl _, H, I, rfl, q⟩

noncomputable def rIsi (K : PySem.W.Frag) : List V → Hp → VK → Prop := fun xs H Q => ∃ x c t b cv, xs = [x, c] ∧ RelV c cv ∧ TyOf K H x t ∧ PySem.W.kitOne K t cv = some b ∧ Q (.bl b) H
theorem call_isinst : CallR X (.builtin "isinstance") (rIsi X.K) := by
  intro pins s σ H xs us Q I r h
  obtain ⟨x, c, t, b, cv, rfl, rc, ty, e, q⟩ := h
  obtain ⟨u, w', rfl, r1, r2⟩ := vals2 r
  have ec : w' = cv := by
    cases c with
    | ty n => exact (show w' = _ from r2).trans (show cv = _ from rc).symm
    | ref a => exact (show w' = _ from r2).trans (show cv = _ from rc).symm
    | non => exact (show w' = _ from r2).trans (show cv = _ from rc).symm
    | bl b => exact (show w' = _ from r2).trans (show cv = _ from rc).symm
    | _ => obtain ⟨_, rfl⟩ := rc; simp [PySem.W.kitOne, PySem.W.kitCls] at e; cases ty <;> simp at e
  subst ec
  exact isinst_ok I r1 ty e fun tk => ⟨.bl b, H, I.tok tk, rfl, q⟩
noncomputable def tNotU (K : PySem.W.Frag) (ta : TE) : TE := fun σ H Q => ta σ H fun x H1 => ∃ k, TruV K x H1 k ∧ Q (.bl (!k)) H1
theorem pe_notU {a : Expr} {ta : TE} {pos : Pos} (ha : PE X a ta) : PE X (.UnaryOp .Not a pos) (tNotU X.K ta) := by
  intro pins s σ H Q I h
  refine UnaryOp_ (thn (ha pins s σ H _ I h) fun v s1 zz => ?_)
  obtain ⟨x, H1, I1, r1, k, hk, q1⟩ := zz
  exact not_of (thn (tru_ok pins s1 σ H1 x v (fun c H2 => Q (.bl (!c)) H2) I1 r1 ⟨k, hk, q1⟩) fun c s2 ⟨H2, I2, q2⟩ => ⟨.bl (!c), H2, I2, rfl, q2⟩)
end

noncomputable def rLen (K : PySem.W.Frag) : List V → Hp → VK → Prop := fun xs H Q => ∃ p ys, xs = [.ref p] ∧ (SqL K H p ys ∨ SqT K H p ys) ∧ Q (.int ys.length) H
noncomputable def rMax2 : List V → Hp → VK → Prop := fun xs H Q => ∃ i j, xs = [.int i, .int j] ∧ Q (.int (if j > i then j else i)) H
noncomputable def rListOf (K : PySem.W.Frag) : List V → Hp → VK → Prop := fun xs H Q => ∃ p ys, xs = [.ref p] ∧ (SqL K H p ys ∨ SqT K H p ys) ∧ ∀ l, H l = none → Q (.ref l) (upd H l (.lst ys))
section
variable {X : Cx}
theorem call_lenU : CallR X (.builtin "len") (rLen X.K) := call_len_seq
theorem call_maxU (hc : X.calm = true) : CallR X (.builtin "max") rMax2 := call_max2 hc
theorem call_listU : CallR X (.type "list") (rListOf X.K) := call_list_of
noncomputable abbrev tTru (K : PySem.W.Frag) (ta : TE) : TT := fun σ H Q => ta σ H fun x H' => ∃ k, TruV K x H' k ∧ Q k H'
theorem pt_truthU {a : Expr} {ta : TE} (ha : PE X a ta) (he : ∀ whole, isTrue a X.env whole = (do let v ← whole; standAt a.pos; holding [v] (truthy v))) : PT X a (tTru X.K ta) := pt_truth ha he
end
noncomputable def NoX (CX : CXT) : Prop := ∀ (outer : List Env) (H : Hp) (s : Shared) (e : Value) (s' : Shared), CX outer H s E0 e s' → False
theorem passN {CX : CXT} {X : Cx} (h : NoX CX) : Passes CX X E0 := fun _ _ H s e s' _ q => (h _ H s e s' q).elim
theorem Fun.okN {P : Program} {w : World} {K : PySem.W.Frag} {mg : Str → Option Value} {base : Heap} {CX : CXT} {x qual : Str} {st : Stmt} {f : Addr} {fd : FuncData} {N ps : List Str} {k : Nat} {sp : Sp} (F : Fun K x qual st f fd) (S : FnScope N ps (defScope st)) (len : ∀ vs H Q E, sp vs H Q E → vs.length = ps.length)
    (hbody : ∀ (cdv : Value) (A : Around) (outer : List Env) (s : Shared) (H : Hp) (vs : List V) (Q : VK) (E : XK), Room k (A.deeper (envOfC qual (defScope st) s.heap.objs.size f cdv)) → sp vs H Q E →
      ∃ t, PSs (cxOf CX P w K mg base N qual (defScope st) f cdv A outer s H E).nox (defBody st) t ∧ t { nx := fun _ H' => Q .non H', rt := Q } (start N vs) H) : FnOk P w K mg base CX (k + 1) f fd ps sp := by
  obtain ⟨oc, od, kV, doc, pm, an, cdv, ct, osl, rfl, lk, hcd⟩ := F.ex
  refine fn_of lk hcd S len fun A outer s H vs Q E hr hsp => ?_
  obtain ⟨t, h, q⟩ := hbody cdv A outer s H vs Q E hr hsp
  exact ⟨t, h.nox, q⟩
section
variable {σ : St} {H : Hp} {Q : VK} {D : Ends} {ta tb tc te : TE} {t u : TS} {K : PySem.W.Frag}
theorem x_var {i : Nat} {v : V} (e : σ[i]? = some (some v)) (q : Q v H) : tVar i σ H Q := ⟨v, e, q⟩
theorem x_i0 {g : Int → Int → V} {i j : Int} (q : Q (g i j) H) : rI0 g (.int i) (.int j) H Q := ⟨i, j, rfl, rfl, q⟩
theorem x_add {i j : Int} (q : Q (.int (i + j)) H) : rAddU K (.int i) (.int j) H Q := .inl ⟨i, j, rfl, rfl, q⟩
theorem x_mul {i j : Int} (c : CMulS i j) (q : Q (.int (i * j)) H) : rMulU (.int i) (.int j) H Q := .inl ⟨i, j, rfl, rfl, c, q⟩
theorem x_mod {i j : Int} (h0 : 0 < j) (q : Q (.int (i % j)) H) : rModU (.int i) (.int j) H Q :=
  ⟨i, j, rfl, rfl, by omega, by show Q (.int (i.fmod j)) H; rw [Int.fmod_eq_emod_of_nonneg _ (Int.le_of_lt h0)]; exact q⟩
theorem x_pow {i j k : Int} (c : CPow i j) (e : i ^ j.toNat = k) (q : Q (.int k) H) : rI CPow (fun i j => .int (i ^ j.toNat)) (.int i) (.int j) H Q := ⟨i, j, rfl, rfl, c, by show Q (.int (i ^ j.toNat)) H; rw [e]; exact q⟩
theorem dI {i j : Int} : decide (V.int i = V.int j) = decide (i = j) := by simp
theorem x_eqI {i j : Int} (q : Q (.bl (decide (i = j))) H) : rEqU K (.int i) (.int j) H Q := .inr ⟨rfl, by rw [dI]; exact q⟩
theorem x_neI {i j : Int} (q : Q (.bl (!decide (i = j))) H) : rNeU K (.int i) (.int j) H Q := .inr ⟨rfl, by rw [dI]; exact q⟩
theorem x_eqD {x y : V} {d e : PyData} (h1 : RepD K H x d) (h2 : RepD K H y e) (hd : min d.depth e.depth ≤ 60) (q : Q (.bl (PyData.eqv d e)) H) : rEqU K x y H Q := .inl ⟨d, e, h1, h2, hd, q⟩
theorem x_neD {x y : V} {d e : PyData} (h1 : RepD K H x d) (h2 : RepD K H y e) (hd : min d.depth e.depth ≤ 60) (q : Q (.bl (!PyData.eqv d e)) H) : rNeU K x y H Q := .inl ⟨d, e, h1, h2, hd, q⟩
theorem x_ixL {a : Addr} {xs : List V} {i : Int} {v : V} (h : SqL K H a xs) (e : atI xs i = some v) (q : Q v H) : rIx K (.ref a) (.int i) H Q := .inl ⟨a, xs, i, v, rfl, rfl, h, e, q⟩
theorem x_ixT {a : Addr} {xs : List V} {i : Int} {v : V} (h : SqT K H a xs) (e : atI xs i = some v) (q : Q v H) : rIx K (.ref a) (.int i) H Q := .inr (.inl ⟨a, xs, i, v, rfl, rfl, h, e, q⟩)
theorem x_bl {T : Bool → Prop} {b : Bool} (q : T b) : ∃ k, V.bl b = .bl k ∧ T k := ⟨b, rfl, q⟩
theorem x_truB {T : Bool → Prop} {b : Bool} (q : T b) : ∃ k, TruV K (.bl b) H k ∧ T k := ⟨b, rfl, q⟩
theorem x_andV (q : ta σ H fun x H1 => ∃ c, x = .bl c ∧ if c = true then tb σ H1 Q else Q (.bl false) H1) : tAndV ta tb σ H Q := q
theorem x_orV (q : ta σ H fun x H1 => ∃ c, x = .bl c ∧ if c = true then Q (.bl true) H1 else tb σ H1 Q) : tOrV ta tb σ H Q := q
theorem x_notU (q : ta σ H fun x H1 => ∃ k, TruV K x H1 k ∧ Q (.bl (!k)) H1) : tNotU K ta σ H Q := q
theorem x_chain {r r' : R2} (q : ta σ H fun x H1 => tb σ H1 fun y H2 => r x y H2 fun z H3 => ∃ k, z = .bl k ∧ (if k = true then tc σ H3 fun w' H4 => r' y w' H4 Q else Q (.bl false) H3)) : tChain r r' ta tb tc σ H Q := q
theorem x_ite {p : Prop} [Decidable p] {A B : Prop} (h1 : p → A) (h2 : ¬ p → B) : if decide p = true then A else B := by
  by_cases h : p
  · rw [if_pos (decide_eq_true h)]; exact h1 h
  · rw [if_neg (by rw [decide_eq_false h]; exact Bool.false_ne_true)]; exact h2 h
theorem x_iteN {p : Prop} [Decidable p] {A B : Prop} (h1 : ¬ p → A) (h2 : p → B) : if (!decide p) = true then A else B := by
  by_cases h : p
  · rw [if_neg (by rw [decide_eq_true h]; exact Bool.false_ne_true)]; exact h2 h
  · rw [if_pos (by rw [decide_eq_false h]; rfl)]; exact h1 h
theorem x_iteT {A B : Prop} (h : A) : if true = true then A else B := by rw [if_pos rfl]; exact h
theorem x_iteF {A B : Prop} (h : B) : if false = true then A else B := by rw [if_neg Bool.false_ne_true]; exact h
theorem x_iteNT {A B : Prop} (h : B) : if (!true) = true then A else B := x_iteF h
theorem x_iteNF {A B : Prop} (h : A) : if (!false) = true then A else B := x_iteT h
theorem x_call {sp : Sp} {E : XK} {tr : TA} (q : tr σ H fun vs H1 => sp vs H1 Q E) : tCall sp [] E tr σ H Q := by unfold tCall; simp only [List.append_nil]; exact q
noncomputable def rTup (Q : VK) (xs : List V) (H : Hp) : Prop := xs.length ≤ sizeLine ∧ ∀ p, H p = none → Q (.ref p) (upd H p (.tup xs))
noncomputable def rLst (Q : VK) (xs : List V) (H : Hp) : Prop := xs.length ≤ sizeLine ∧ ∀ p, H p = none → Q (.ref p) (upd H p (.lst xs))
theorem x_tup {tr : TA} (q : tr σ H (rTup Q)) : tTup tr σ H Q := q
theorem x_lst {tr : TA} (q : tr σ H (rLst Q)) : tLst tr σ H Q := q
theorem x_lenL {a : Addr} {xs : List V} (h : SqL K H a xs) (q : Q (.int xs.length) H) : rLen K [.ref a] H Q := ⟨a, xs, rfl, .inl h, q⟩
theorem x_max {i j : Int} (q : Q (.int (if j > i then j else i)) H) : rMax2 [.int i, .int j] H Q := ⟨i, j, rfl, q⟩
theorem x_start {N : List Str} {vs : List V} {σ0 : St} (e : start N vs = σ0) (q : t D σ0 H) : t D (start N vs) H := by rw [e]; exact q
theorem x_isi {x c : V} {t' cv : Value} {b : Bool} (rc : RelV c cv) (ty : TyOf K H x t') (e : PySem.W.kitOne K t' cv = some b) (q : Q (.bl b) H) : rIsi K [x, c] H Q := ⟨x, c, t', b, cv, rfl, rc, ty, e, q⟩
end
theorem Same.new {H : Hp} {p : Addr} (h : H p = none) (o : HO) : Same H (upd H p o) := fun b u q => by rw [upd_ne (ne_of_none q h)]; exact q
end Internal

set_option Elab.async false
set_option linter.all false
set_option maxRecDepth 100000
namespace Internal
open PySem PySem.Spec PyProof.Rows

theorem closureFor_all {env : Env} {scope : Scope} (h : ∀ y ∈ scope.names, y.2 = .free → ∃ c, env.cells.lookup y.1 = some c) :
    ∃ cl, closureFor scope env = pure cl ∧ (∀ x c, cl.lookup x = some c → env.cells.lookup x = some c) ∧ ∀ y ∈ scope.names, y.2 = .free → cl.lookup y.1 = env.cells.lookup y.1 := by
  unfold closureFor
  have key : ∀ (names : List (Str × NameKind)) (acc : List (Str × Addr)), (∀ y ∈ names, y.2 = .free → ∃ c, env.cells.lookup y.1 = some c) → (∀ x c, acc.lookup x = some c → env.cells.lookup x = some c) →
      ∃ cl, (forIn (m := Sem) names acc fun (x : Str × NameKind) r => if (x.2 == .free) = true then (do let a ← cellOf env x.1; pure (ForInStep.yield ((x.1, a) :: r))) else pure (ForInStep.yield r)) = pure cl ∧
        (∀ x c, cl.lookup x = some c → env.cells.lookup x = some c) ∧ (∀ y ∈ names, y.2 = .free → cl.lookup y.1 = env.cells.lookup y.1) ∧ (∀ x, (∃ c, acc.lookup x = some c) → cl.lookup x = env.cells.lookup x) := by
    intro names
    induction names with
    | nil => intro acc _ ha; exact ⟨acc, rfl, ha, fun _ hy => (nomatch hy), fun x ⟨c, e⟩ => by rw [e, ha x c e]⟩
    | cons y r ih =>
      intro acc hn ha
      obtain ⟨n, k⟩ := y
      have hr : ∀ y ∈ r, y.2 = .free → ∃ c, env.cells.lookup y.1 = some c := fun y hy => hn y (List.mem_cons_of_mem _ hy)
      by_cases hk : k = .free
      · subst hk
        obtain ⟨c, hc⟩ := hn (n, .free) List.mem_cons_self rfl
        have ha' : ∀ x c', List.lookup x ((n, c) :: acc) = some c' → env.cells.lookup x = some c' := fun x c' e => by
          rw [List.lookup_cons] at e
          cases hb : x == n with
          | true => rw [hb] at e; cases e; rw [beq_iff_eq.mp hb]; exact hc
          | false => rw [hb] at e; exact ha x c' e
        obtain ⟨cl, e, h1, h2, h3⟩ := ih ((n, c) :: acc) hr ha'
        refine ⟨cl, ?_, h1, fun y hy hf => ?_, fun x hx => ?_⟩
        · rw [List.forIn_cons]
          simp only [cellOf, hc, beq_self_eq_true, if_true]
          exact e
        · rcases List.mem_cons.mp hy with rfl | hy
          · exact h3 n ⟨c, by rw [List.lookup_cons]; simp⟩
          · exact h2 y hy hf
        · refine h3 x ?_
          obtain ⟨c', e'⟩ := hx
          rw [List.lookup_cons]
          cases hb : x == n with
          | true => exact ⟨c, rfl⟩
          | false => exact ⟨c', e'⟩
      · obtain ⟨cl, e, h1, h2, h3⟩ := ih acc hr ha
        refine ⟨cl, ?_, h1, fun y hy hf => ?_, h3⟩
        · rw [List.forIn_cons]
          have hb : (k == NameKind.free) = false := by simpa using hk
          simp only [hb, Bool.false_eq_true, if_false]
          exact e
        · rcases List.mem_cons.mp hy with rfl | hy
          · exact absurd hf hk
          · exact h2 y hy hf
  obtain ⟨cl, e, h1, h2, _⟩ := key scope.names [] h (fun _ _ z => by simp at z)
  refine ⟨cl, ?_, h1, h2⟩
  show (forIn scope.names [] _ >>= fun r => pure r) = pure cl
  have e' : (forIn (m := Sem) scope.names [] fun (x : Str × NameKind) (r : List (Str × Addr)) => match x with | (name, kind) => if (kind == .free) = true then (do let a ← cellOf env name; pure (ForInStep.yield ((name, a) :: r))) else pure (ForInStep.yield r)) = pure cl := e
  first
    | (rw [e']; rfl)
    | (simp only [e']; rfl)
theorem cellsFrom_app : ∀ (names : List (Str × NameKind)) (n : Nat) (acc : List (Str × Addr)), cellsFrom n names acc = cellsFrom n names [] ++ acc
  | [], _, _ => rfl
  | (name, kind) :: r, n, acc => by
    unfold cellsFrom
    split
    · rw [cellsFrom_app r (n + 1) ((name, n) :: acc), cellsFrom_app r (n + 1) [(name, n)], List.append_assoc]; rfl
    · exact cellsFrom_app r n acc
theorem lookup_app {α : Type} {x : Str} : ∀ {l r : List (Str × α)}, (l ++ r).lookup x = match l.lookup x with | some c => some c | none => r.lookup x
  | [], _ => rfl
  | (k, v) :: l, r => by
    rw [List.cons_append, List.lookup_cons, List.lookup_cons]
    cases x == k with
    | true => rfl
    | false => exact lookup_app (l := l)
noncomputable def compEnv (scope : Scope) (cs : List (Str × Addr)) (C : Addr) (env : Env) : Env :=
  { scope := relabel scope env, locals := C, globals := env.globals, cells := cs, qual := env.qual, func := none, code := env.code, frame := env.frame, builtins := env.builtins }
theorem wpAny_compEnv {M : Model} {A : Around} {E : Value → Shared → Prop} {s : Shared} {scope : Scope} {globals : Addr} {cl : List (Str × Addr)} {qual : Str} {env : Env} {Q : Env → Shared → Prop}
    (hQ : ∀ (own : List (Str × Addr)) (s' : Shared), own = cellsFrom (s.heap.objs.size + 1) scope.names [] → s' = { s with heap := s'.heap } → (∀ b o, s.heap.get? b = some o → s'.heap.get? b = some o) →
      s'.heap.Ns s.heap.objs.size (fun _ => none) → (∀ n c, (n, c) ∈ own → s'.heap.IsCell c none ∧ s.heap.objs.size + 1 ≤ c) → (own.Pairwise fun x y => x.2 ≠ y.2) →
      Q { scope := scope, locals := s.heap.objs.size, globals := globals, cells := own ++ cl, qual := qual, func := none, code := env.code, frame := env.frame, builtins := env.builtins } s') :
    wpAny M A (newFunctionEnv scope globals cl [] qual none .none (some env)) Q E s := by
  simp only [newFunctionEnv, Option.isSome_some, if_true]
  refine wpAny_bind (wpAny_alloc ?_)
  refine wpAny_bind (wpAny_layCells _ (fun name kind cells => by cases hkc : kind == NameKind.cell <;> simp [hkc]) _ _ _ _ ?_)
  have ok := cellsFrom_ok scope.names (s.heap.push { cls := .type "dict", data := .dict #[] }) (s.heap.objs.size + 1) [] ⟨fun _ _ hm => (nomatch hm), List.Pairwise.nil⟩ (by rw [Heap.size_push]; exact Nat.le_refl _)
  rw [Heap.size_push] at ok
  rw [show ({ s with heap := s.heap.push { cls := .type "dict", data := .dict #[] } } : Shared).heap.objs.size = s.heap.objs.size + 1 from Heap.size_push ..]
  rw [cellsFrom_app]
  have fin := hQ _ { s with heap := pushCells (s.heap.push { cls := .type "dict", data := .dict #[] }) scope.names } rfl rfl (fun b o e => pushCells_keeps _ _ b o (Heap.get?_push_of_some _ e))
    ((Heap.Ns.new s.heap (.type "dict")).keeps (pushCells_keeps _ _)) ok.empty ok.apart
  exact wpAny_bind (wpAny_pure (wpAny_pure fin))

theorem lookup_relabel_free {env : Env} : ∀ {names : List (Str × NameKind)} {x : Str}, names.lookup x = some .free →
    (names.map fun (n, k) => if (k == NameKind.free && env.scope.kind == .function && env.kindOf n == some .cell) then (n, NameKind.cell) else (n, k)).lookup x = some .cell ∨
    (names.map fun (n, k) => if (k == NameKind.free && env.scope.kind == .function && env.kindOf n == some .cell) then (n, NameKind.cell) else (n, k)).lookup x = some .free
  | [], _, h => by simp at h
  | (n, k) :: r, x, h => by
    have ih := @lookup_relabel_free env r x
    show List.lookup x ((if (k == NameKind.free && env.scope.kind == .function && env.kindOf n == some .cell) = true then (n, NameKind.cell) else (n, k)) :: _) = _ ∨ List.lookup x ((if (k == NameKind.free && env.scope.kind == .function && env.kindOf n == some .cell) = true then (n, NameKind.cell) else (n, k)) :: _) = _
    by_cases hc : (k == NameKind.free && env.scope.kind == .function && env.kindOf n == some .cell) = true
    · rw [if_pos hc]
      cases hx : x == n with
      | true => left; simp [List.lookup_cons, hx]
      | false => simp only [List.lookup_cons, hx] at h ⊢; exact ih h
    · rw [if_neg hc]
      cases hx : x == n with
      | true => simp only [List.lookup_cons, hx] at h ⊢; exact .inr h
      | false => simp only [List.lookup_cons, hx] at h ⊢; exact ih h
theorem lookup_relabel_cell {env : Env} : ∀ {names : List (Str × NameKind)} {x : Str}, (names.map fun (n, k) => if (k == NameKind.free && env.scope.kind == .function && env.kindOf n == some .cell) then (n, NameKind.cell) else (n, k)).lookup x = some .cell ∨
    (names.map fun (n, k) => if (k == NameKind.free && env.scope.kind == .function && env.kindOf n == some .cell) then (n, NameKind.cell) else (n, k)).lookup x = some .free → names.lookup x = some .cell ∨ names.lookup x = some .free
  | [], _, h => by simp at h
  | (n, k) :: r, x, h => by
    have ih := @lookup_relabel_cell env r x
    have h' : List.lookup x ((if (k == NameKind.free && env.scope.kind == .function && env.kindOf n == some .cell) = true then (n, NameKind.cell) else (n, k)) :: (r.map fun (n, k) => if (k == NameKind.free && env.scope.kind == .function && env.kindOf n == some .cell) then (n, NameKind.cell) else (n, k))) = some .cell ∨
      List.lookup x ((if (k == NameKind.free && env.scope.kind == .function && env.kindOf n == some .cell) = true then (n, NameKind.cell) else (n, k)) :: (r.map fun (n, k) => if (k == NameKind.free && env.scope.kind == .function && env.kindOf n == some .cell) then (n, NameKind.cell) else (n, k))) = some .free := h
    clear h
    by_cases hc : (k == NameKind.free && env.scope.kind == .function && env.kindOf n == some .cell) = true
    · have hk : k = .free := by
        rw [Bool.and_eq_true, Bool.and_eq_true] at hc
        exact beq_iff_eq.mp hc.1.1
      subst hk
      rw [if_pos hc] at h'
      cases hx : x == n with
      | true => right; simp [List.lookup_cons, hx]
      | false => simp only [List.lookup_cons, hx] at h' ⊢; exact ih h'
    · rw [if_neg hc] at h'
      cases hx : x == n with
      | true => simp only [List.lookup_cons, hx] at h' ⊢; exact h'
      | false => simp only [List.lookup_cons, hx] at h' ⊢; exact ih h'
theorem lookup_relabel_own {env : Env} : ∀ {names : List (Str × NameKind)} {x : Str}, names.lookup x = some .cell →
    (names.map fun (n, k) => if (k == NameKind.free && env.scope.kind == .function && env.kindOf n == some .cell) then (n, NameKind.cell) else (n, k)).lookup x = some .cell
  | [], _, h => by simp at h
  | (n, k) :: r, x, h => by
    have ih := @lookup_relabel_own env r x
    show List.lookup x ((if (k == NameKind.free && env.scope.kind == .function && env.kindOf n == some .cell) = true then (n, NameKind.cell) else (n, k)) :: _) = _
    by_cases hc : (k == NameKind.free && env.scope.kind == .function && env.kindOf n == some .cell) = true
    · rw [if_pos hc]
      cases hx : x == n with
      | true => simp [List.lookup_cons, hx]
      | false => simp only [List.lookup_cons, hx] at h ⊢; exact ih h
    · rw [if_neg hc]
      cases hx : x == n with
      | true => simp only [List.lookup_cons, hx] at h ⊢; exact h
      | false => simp only [List.lookup_cons, hx] at h ⊢; exact ih h
theorem own_mem {names : List (Str × NameKind)} : ∀ {n : Nat} {acc : List (Str × Addr)} {x : Str} {c : Addr}, (x, c) ∈ cellsFrom n names acc → (x, .cell) ∈ names ∨ (x, c) ∈ acc := by
  induction names with
  | nil => intro n acc x c h; exact .inr h
  | cons y r ih =>
    intro n acc x c h
    obtain ⟨nm, k⟩ := y
    unfold cellsFrom at h
    split at h
    · rename_i hk
      rcases ih h with h | h
      · exact .inl (List.mem_cons_of_mem _ h)
      · rcases List.mem_cons.mp h with e | h
        · cases e
          rw [beq_iff_eq.mp hk]; exact .inl List.mem_cons_self
        · exact .inr h
    · rcases ih h with h | h
      · exact .inl (List.mem_cons_of_mem _ h)
      · exact .inr h
theorem nodup_lookup {names : List (Str × NameKind)} (nd : (names.map (·.1)).Nodup) {x : Str} {k : NameKind} (h : (x, k) ∈ names) : names.lookup x = some k := by
  induction names with
  | nil => cases h
  | cons y r ih =>
    obtain ⟨n, k'⟩ := y
    rw [List.map_cons, List.nodup_cons] at nd
    rw [List.lookup_cons]
    rcases List.mem_cons.mp h with e | hm
    · cases e; simp
    · have hne : x ≠ n := fun e => nd.1 (List.mem_map.mpr ⟨(x, k), hm, e⟩)
      have hb : (x == n) = false := by simpa using hne
      rw [hb]; exact ih nd.2 hm

noncomputable def compCx (X : Cx) (scope : Scope) (Ni : List Str) (cs : List (Str × Addr)) (s₃ : Shared) (H₃ : Hp) (fp : List Addr) (pins : List (Addr × Obj)) : Cx :=
  { X with N := Ni, s₀ := s₃, H₀ := H₃, env := compEnv scope cs s₃.heap.objs.size X.env, outer := X.stack, stack := X.stack, ex := fp, fn := fun y => decide (scope.names.lookup y = some .cell), pn := X.pn ++ pins, xe := fun _ _ => False }
set_option genInjectivity false in
set_option genSizeOf false in
structure CompScope (X : Cx) (scope : Scope) (Ni : List Str) (caps : List (Option Nat)) : Prop where
  kind : scope.kind = .function
  ndn : (scope.names.map (·.1)).Nodup
  free : ∀ y ∈ scope.names, y.2 = .free → X.env.kindOf y.1 = some .cell ∨ X.env.kindOf y.1 = some .free
  nd : Ni.Nodup
  len : caps.length = Ni.length
  cap : ∀ (i : Nat) (y : Str) (j : Nat), Ni[i]? = some y → caps[i]? = some (some j) → X.N[j]? = some y ∧ scope.names.lookup y = some .free
noncomputable def compChk (so : Scope) (No : List Str) (scope : Scope) (Ni : List Str) (caps : List (Option Nat)) : Bool :=
  (scope.kind == .function) && decide ((scope.names.map (·.1)).Nodup) && (scope.names.all fun y => y.2 != .free || so.names.lookup y.1 == some .cell || so.names.lookup y.1 == some .free) &&
  decide Ni.Nodup && (caps.length == Ni.length) && ((Ni.zip caps).all fun p => match p.2 with | none => true | some j => No[j]? == some p.1 && scope.names.lookup p.1 == some .free)
theorem compScope_of {X : Cx} {scope : Scope} {Ni : List Str} {caps : List (Option Nat)} (h : compChk X.env.scope X.N scope Ni caps = true) : CompScope X scope Ni caps := by
  unfold compChk at h
  simp only [Bool.and_eq_true] at h
  obtain ⟨⟨⟨⟨⟨h1, h2⟩, h3⟩, h4⟩, h5⟩, h6⟩ := h
  refine ⟨beq_iff_eq.mp h1, of_decide_eq_true h2, fun y hy hf => ?_, of_decide_eq_true h4, beq_iff_eq.mp h5, fun i y j e1 e2 => ?_⟩
  · have q := List.all_eq_true.mp h3 y hy
    rw [Bool.or_eq_true, Bool.or_eq_true] at q
    rcases q with (q | q) | q
    · rw [hf] at q; simp at q
    · exact .inl (beq_iff_eq.mp q)
    · exact .inr (beq_iff_eq.mp q)
  · have hm : (y, some j) ∈ Ni.zip caps := by
      refine List.mem_of_getElem? (i := i) ?_
      rw [List.getElem?_zip_eq_some]; exact ⟨e1, e2⟩
    have q := List.all_eq_true.mp h6 _ hm
    simp only [Bool.and_eq_true] at q
    exact ⟨beq_iff_eq.mp q.1, beq_iff_eq.mp q.2⟩
noncomputable def capSt (caps : List (Option Nat)) (σ : St) : St := caps.map fun o => match o with | some j => (σ[j]?).getD none | none => none
section
variable {X : Cx}
set_option genInjectivity false in
set_option genSizeOf false in
structure CompAt (X : Cx) (scope : Scope) (own cl : List (Str × Addr)) (s₃ : Shared) : Prop where
  oeq : own = cellsFrom (s₃.heap.objs.size + 1) scope.names []
  apart : own.Pairwise fun x y => x.2 ≠ y.2
  above : ∀ n c, (n, c) ∈ own → s₃.heap.objs.size + 1 ≤ c
  sub : ∀ x c, cl.lookup x = some c → X.env.cells.lookup x = some c
  all : ∀ y ∈ scope.names, y.2 = .free → cl.lookup y.1 = X.env.cells.lookup y.1
theorem CompAt.look {scope : Scope} {own cl : List (Str × Addr)} {s₃ : Shared} (T : CompAt X scope own cl s₃) {x : Str} {c : Addr} (h : (own ++ cl).lookup x = some c) : (x, c) ∈ own ∨ X.env.cells.lookup x = some c := by
  rw [lookup_app] at h
  cases e : own.lookup x with
  | some c' => rw [e] at h; cases h; exact .inl (mem_of_lookup e)
  | none => rw [e] at h; exact .inr (T.sub x c h)
theorem cells_lt {pins : List (Addr × Obj)} {σ : St} {H : Hp} {s : Shared} (I : Inv X pins σ H s) {x : Str} {c : Addr} (h : X.env.cells.lookup x = some c) : c < s.heap.objs.size := by
  obtain ⟨v, o, ho, _⟩ := I.cell x c h
  exact Heap.lt_size ho
theorem comp_ok {scope : Scope} {Ni : List Str} {caps : List (Option Nat)} {own cl : List (Str × Addr)} {pins : List (Addr × Obj)} {σ : St} {H₃ : Hp} {s₃ : Shared} {fp : List Addr}
    (S : CompScope X scope Ni caps) (T : CompAt X scope own cl s₃) (I : Inv X pins σ H₃ s₃) (f : ∀ b ∈ fp, FpOk X pins H₃ b) (hf : ∀ b ∈ fp, b < s₃.heap.objs.size) : (compCx X scope Ni (own ++ cl) s₃ H₃ fp pins).Ok where
  mod := I.ok.mod
  kind := S.kind
  glob := I.ok.glob
  blt := I.ok.blt
  above := Nat.le_refl _
  inj := fun x y c h1 h2 => by
    rcases T.look h1 with a | a
    · rcases T.look h2 with b | b
      · exact name_of_addr T.apart a b
      · exact absurd (Nat.lt_of_lt_of_le (cells_lt I b) (Nat.le_of_succ_le (T.above x c a))) (Nat.lt_irrefl _)
    · rcases T.look h2 with b | b
      · exact absurd (Nat.lt_of_lt_of_le (cells_lt I a) (Nat.le_of_succ_le (T.above y c b))) (Nat.lt_irrefl _)
      · exact I.ok.inj x y c a b
  has := fun x h => by
    have h' := lookup_relabel_cell (env := X.env) (names := scope.names) (x := x) h
    show ∃ c, (own ++ cl).lookup x = some c
    rw [lookup_app]
    cases e : own.lookup x with
    | some c => exact ⟨c, rfl⟩
    | none =>
      rcases h' with h' | h'
      · obtain ⟨c, ec⟩ := cell_has (n := s₃.heap.objs.size + 1) h'
        rw [← T.oeq, e] at ec; cases ec
      · have hm := mem_of_lookup h'
        obtain ⟨c, ec⟩ := I.ok.has x (S.free _ hm rfl)
        exact ⟨c, (T.all _ hm rfl).trans ec⟩
  cab := fun x c h1 h2 => by
    have hk : scope.names.lookup x = some .cell := of_decide_eq_true h1
    obtain ⟨c', ec⟩ := cell_has (n := s₃.heap.objs.size + 1) hk
    rw [← T.oeq] at ec
    have h2' : (own ++ cl).lookup x = some c := h2
    rw [lookup_app, ec] at h2'
    cases h2'
    have := T.above x _ (mem_of_lookup ec)
    show s₃.heap.objs.size ≤ _
    omega
  hd := I.ok.hd
  frames := I.ok.frames
  stk := .inl rfl
  exf := fun b hb => ⟨Nat.ne_of_lt (hf b hb), fun x c h => by
    rcases T.look h with a | a
    · exact fun e => absurd (Nat.lt_of_lt_of_le (hf b hb) (Nat.le_of_succ_le (e ▸ T.above x c a))) (Nat.lt_irrefl _)
    · exact (f b hb).2.2.2.2.1 x c a⟩
  bs := I.bs
  bsz := Nat.le_trans I.ok.bsz I.sz
  noex := fun b o e hb => by
    rcases (f b hb).2.2.2.1 with z | z
    · exact I.ok.noex b o e z
    · have h1 : b < X.base.objs.size := Heap.lt_size e
      have h2 := I.ok.bsz
      exact absurd (Nat.lt_of_lt_of_le h1 (Nat.le_trans h2 z)) (Nat.lt_irrefl _)
  exfs := fun b hb hm => by
    rcases List.mem_cons.mp (I.stkSub b hm) with z | z
    · exact (f b hb).2.1 z
    · exact (f b hb).2.2.1 z
  funs := I.stack
  frf := I.stkFree
theorem comp_start {scope : Scope} {Ni : List Str} {caps : List (Option Nat)} {own cl : List (Str × Addr)} {pins : List (Addr × Obj)} {σ : St} {H₃ : Hp} {s₃ s₄ : Shared} {fp : List Addr}
    (S : CompScope X scope Ni caps) (T : CompAt X scope own cl s₃) (I : Inv X pins σ H₃ s₃) (f : ∀ b ∈ fp, FpOk X pins H₃ b) (hf : ∀ b ∈ fp, b < s₃.heap.objs.size)
    (e4 : s₄ = { s₃ with heap := s₄.heap }) (k : ∀ b o, s₃.heap.get? b = some o → s₄.heap.get? b = some o) (ns : s₄.heap.Ns s₃.heap.objs.size fun _ => none) (oc : ∀ n c, (n, c) ∈ own → s₄.heap.IsCell c none) :
    Inv (compCx X scope Ni (own ++ cl) s₃ H₃ fp pins) [] (capSt caps σ) H₃ s₄ where
  ok := comp_ok S T I f hf
  os := by rw [e4]; rfl
  bare := by rw [e4]; exact I.bare
  base := Un.kept k
  loc := by
    refine ⟨_, ns, fun i x v h1 h2 h3 => ?_⟩
    have h2' : (capSt caps σ)[i]? = some (some v) := h2
    unfold capSt at h2'
    rw [List.getElem?_map] at h2'
    cases ec : caps[i]? with
    | none => rw [ec] at h2'; cases h2'
    | some o =>
      cases o with
      | none => rw [ec] at h2'; cases h2'
      | some j =>
        rw [ec] at h2'
        have h2'' : (σ[j]?).getD none = some v := Option.some.inj h2'
        have hj : σ[j]? = some (some v) := by
          cases e : σ[j]? with
          | none => rw [e] at h2''; cases h2''
          | some z => rw [e] at h2''; exact congrArg some h2''
        obtain ⟨hN, hfr⟩ := S.cap i x j h1 ec
        have hm := mem_of_lookup hfr
        have hk := S.free _ hm rfl
        obtain ⟨m, _, hl⟩ := I.loc
        obtain ⟨u, r, l⟩ := hl j x v hN hj (by rcases hk with z | z; exact .inr (.inl z); exact .inr (.inr z))
        refine ⟨u, r, .inr ⟨lookup_relabel_free hfr, ?_⟩⟩
        rcases l with ⟨z, _⟩ | ⟨_, c, hc, q⟩
        · have z' : X.env.kindOf x = some .local := z
          rcases hk with y | y <;> (have y' : X.env.kindOf x = _ := y; rw [z'] at y'; cases y')
        · refine ⟨c, ?_, q.keeps k⟩
          show (own ++ cl).lookup x = some c
          rw [lookup_app]
          cases eo : own.lookup x with
          | some c' =>
            rw [T.oeq] at eo
            rcases own_mem (mem_of_lookup eo) with y | y
            · have := nodup_lookup S.ndn y
              rw [hfr] at this; cases this
            · cases y
          | none => exact (T.all _ hm rfl).trans hc
  cell := fun x c h => by
    rcases T.look h with a | a
    · exact ⟨_, oc x c a⟩
    · obtain ⟨v, q⟩ := I.cell x c a
      exact ⟨v, q.keeps k⟩
  free := I.hok.fresh (Nat.le_refl _)
  freeC := fun x c h => by
    rcases T.look h with a | a
    · exact I.hok.fresh (by have := T.above x c a; omega)
    · exact I.freeC x c a
  pin := fun p hp => by
    have hp' : p ∈ X.pn ++ pins := by
      have : p ∈ (X.pn ++ pins) ++ [] := hp
      simpa using this
    obtain ⟨h1, h2, h3, h4, h5⟩ := I.pin p hp'
    refine ⟨k _ _ h1, h2, Nat.ne_of_lt (Heap.lt_size h1), fun z => ?_, h5⟩
    rcases List.mem_cons.mp (I.stkSub _ z) with y | y
    · exact h3 y
    · exact h4 y
  hok := I.hok.kept k
  len := by
    show (capSt caps σ).length = Ni.length
    unfold capSt; rw [List.length_map]; exact S.len
theorem comp_end {scope : Scope} {Ni : List Str} {cs : List (Str × Addr)} {pins : List (Addr × Obj)} {σ σ' : St} {H₃ H' : Hp} {s₃ s' : Shared} {fp : List Addr} (I : Inv X pins σ H₃ s₃) (f : ∀ b ∈ fp, FpOk X pins H₃ b)
    (J : Inv (compCx X scope Ni cs s₃ H₃ fp pins) [] σ' H' s') : Inv X pins σ H' s' := by
  have u : Un (frs X.stack) fp H₃ H' s₃.heap s'.heap := J.base
  have q := I.call (g' := s'.gens) (t' := s'.toks) (d' := s'.drawn) (ch := fp) u J.hok J.bare fun b hb => ⟨(f b hb).2.2.2.1, (f b hb).2.1, (f b hb).2.2.2.2.1, (f b hb).2.2.2.2.2⟩
  have e : ({ s₃ with heap := s'.heap, gens := s'.gens, drawn := s'.drawn, toks := s'.toks } : Shared) = s' := by
    have h1 : s'.os = s₃.os := J.os
    cases s'; cases s₃
    simp only at h1
    subst h1; rfl
  rw [e] at q
  exact q
noncomputable def PF (Y : Cx) (ifs : List Expr) (t : TT) : Prop := ∀ (pins : List (Addr × Obj)) (s : Shared) (σ : St) (H : Hp) (Q : Bool → Hp → Prop), Inv Y pins σ H s → t σ H Q →
  wpAny (model Y.prog Y.w) Y.A (forIn ifs true fun c r => if r = true then do let ok ← isTrue c Y.env (eval c Y.env); pure (ForInStep.yield ok) else pure (ForInStep.yield r)) (TP Y pins σ Q) Y.xe s
noncomputable abbrev tYes : TT := fun _ H T => T true H
theorem pf_nil {Y : Cx} : PF Y [] tYes := fun pins s σ H Q I h => wpAny_tests_nil ⟨H, I, h⟩
theorem pf_one {Y : Cx} {c : Expr} {t : TT} (h : PT Y c t) : PF Y [c] t := fun pins s σ H Q I q => wpAny_tests_one (h pins s σ H Q I q)
noncomputable def tComp (wi : TI) (caps : List (Option Nat)) (g : TG) (tf : TT) (te : TE) : TE := fun σ H Q => wi σ H fun J H1 => ∀ D, H1 D = none →
  ∃ W : Nat → Nat → St → Hp → Prop, (∃ m, W 0 m (capSt caps σ) (upd H1 D (.lst []))) ∧ ∀ i m σ' H', W i m σ' H' →
    (J.stop i H' ∧ Q (.ref D) H') ∨ (J.go i H' ∧ ∃ N : St → Hp → Prop, (∀ σ2 H2, N σ2 H2 → ∃ m', m' < m ∧ W (i + 1) m' σ2 H2) ∧
      ∀ x H2, J.yld i H' x H2 → g x σ' H2 fun σ1 H3 => tf σ1 H3 fun b H4 => if b = true then te σ1 H4 fun v H5 => rAppend (.ref D) [v] H5 fun _ H6 => N σ1 H6 else N σ1 H4)

theorem compLoop_own {P : Program} {w : World} {A : Around} {R : Result → Shared → Prop} {s0 : Shared} {elt tg iter : Expr} {tests : List Expr} {sc : Scope} {ps : Pos} {itv acc : Value} {en : Env} (J : Nat → Shared → Prop)
    (turn : ∀ n s, J n s → wpAny (model P w) A (pyNext itv) (fun r s1 => match r with | none => R (.ok .next) s1 | some v => wpAny (model P w) A (letOwnedTupleGo tg itv v) (fun _ s1' => wpAny (model P w) A (assign tg en v) (fun _ s2 =>
      wpAny (model P w) A (forIn tests true fun c r => if r = true then do let ok ← isTrue c en (eval c en); pure (ForInStep.yield ok) else pure (ForInStep.yield r)) (fun ok s3 => if ok = true then wpAny (model P w) A (eval elt en) (fun x s4 =>
        wpAny (model P w) A (call (.builtin "list.append") [acc, x]) (fun _ s5 => ∃ m, m < n ∧ J m s5) (notedBy (model P w) A en fun e s' => R (.error e) s') s4) (notedBy (model P w) A en fun e s' => R (.error e) s') s3
          else ∃ m, m < n ∧ J m s3) (notedBy (model P w) A en fun e s' => R (.error e) s') s2) (notedBy (model P w) A en fun e s' => R (.error e) s') s1') (notedBy (model P w) A en fun e s' => R (.error e) s') s1) (notedBy (model P w) A en fun e s' => R (.error e) s') s)
    (n0 : Nat) (j0 : J n0 s0) : codeAny (model P w) A (.compLoop (.ListComp elt [⟨tg, iter, tests, 0⟩] sc ps) 0 itv acc en) R s0 := by
  refine codeAny_loop rfl J (fun n s hJ => ?_) n0 j0
  show wpAny _ A ((compTurn (.ListComp elt [⟨tg, iter, tests, 0⟩] sc ps) 0 itv acc en).onRaise (fun x => do noteFrame x en; theTreesLotGoes x)) _ _ s
  refine wpAny_noted ?_
  rw [compTurn_list]
  refine wpAny_bind (wpAny_standAt (wpAny_bind (wpAny_mono (turn n s hJ) (fun r s1 h1 => ?_) fun _ _ z => z)))
  cases r with
  | none => exact wpAny_pure h1
  | some v =>
    refine wpAny_bind (wpAny_mono h1 (fun _ s1' h1' => wpAny_bind (wpAny_mono h1' (fun _ s2 h2 => wpAny_bind (wpAny_mono h2 (fun ok s3 h3 => ?_) fun _ _ z => z)) fun _ _ z => z)) fun _ _ z => z)
    cases ok with
    | false => exact wpAny_pure ⟨rfl, h3⟩
    | true =>
      exact wpAny_bind (wpAny_bind (wpAny_mono h3 (fun x s4 h4 => wpAny_bind (wpAny_mono h4 (fun _ s5 h5 => wpAny_pure (wpAny_pure ⟨rfl, h5⟩)) fun _ _ z => z)) fun _ _ z => z))
theorem comp_loop {Y : Cx} {elt iter : Expr} {tg : Expr} {ifs : List Expr} {scope : Scope} {pos : Pos} {it D : Addr} {fp : List Addr} {tn : Nat → Heap → Prop} {J : It} {g : TG} {tf : TT} {te : TE} {Q : VK} {R : Result → Shared → Prop}
    (T : Turn Y.prog Y.w Y.K tg J fp it tn) (hc : Y.calm = true) (gY : PG Y tg g) (hF : PF Y ifs tf) (hE : PE Y elt te) (fpY : ∀ {H' : Hp}, (∀ b ∈ fp, H' b = none) → ∀ b ∈ fp, FpOk Y [] H' b) (hx : ∀ e s, ¬ Y.xe e s)
    {W : Nat → Nat → St → Hp → Prop} (turn : ∀ i m σ' H', W i m σ' H' →
      (J.stop i H' ∧ Q (.ref D) H') ∨ (J.go i H' ∧ ∃ N : St → Hp → Prop, (∀ σ2 H2, N σ2 H2 → ∃ m', m' < m ∧ W (i + 1) m' σ2 H2) ∧
        ∀ x H2, J.yld i H' x H2 → g x σ' H2 fun σ1 H3 => tf σ1 H3 fun b H4 => if b = true then te σ1 H4 fun v H5 => rAppend (.ref D) [v] H5 fun _ H6 => N σ1 H6 else N σ1 H4))
    (fin : ∀ σ' H' s', Inv Y [] σ' H' s' → Q (.ref D) H' → R (.ok .next) s') {m0 : Nat} {σ0 : St} {H0 : Hp} {s0 : Shared} (I0 : Inv Y [] σ0 H0 s0) (st0 : tn 0 s0.heap) (fr0 : ∀ b ∈ fp, H0 b = none) (w0 : W 0 m0 σ0 H0) :
    codeAny (model Y.prog Y.w) Y.A (.compLoop (.ListComp elt [⟨tg, iter, ifs, 0⟩] scope pos) 0 (.ref it) (.ref D) Y.env) R s0 := by
  refine compLoop_own (fun n s' => ∃ i σ' H', Inv Y [] σ' H' s' ∧ tn i s'.heap ∧ (∀ b ∈ fp, H' b = none) ∧ W i n σ' H') ?_ m0 ⟨0, _, _, I0, st0, fr0, w0⟩
  rintro n s5 ⟨i, σ5, H5, I5, st5, fr5, w5⟩
  have noE : ∀ {α : Type} {t : Sem α} {Q1 : α → Shared → Prop} {E2 : Value → Shared → Prop} {s1 : Shared}, wpAny (model Y.prog Y.w) Y.A t Q1 Y.xe s1 → wpAny (model Y.prog Y.w) Y.A t Q1 E2 s1 :=
    fun h => wpAny_mono h (fun _ _ q => q) fun e s z => (hx e s z).elim
  rcases turn i n σ5 H5 w5 with ⟨stop, qn⟩ | ⟨go, N, hN, step⟩
  · refine thn (T.done Y rfl rfl rfl hc i [] s5 σ5 H5 _ I5 (fpY fr5) st5 stop) fun r s6 ⟨hr, I6⟩ => ?_
    subst hr
    exact fin σ5 H5 s6 I6 qn
  · refine thn (T.item Y rfl rfl rfl hc i [] s5 σ5 H5 _ I5 (fpY fr5) st5 go) fun r s6 ⟨u, hr, h6⟩ => ?_
    subst hr
    refine thn h6 fun _ s7 zz => ?_
    obtain ⟨x7, H7, I7, r7, y7, st7, fr7⟩ := zz
    have I7' := I7.pinned (fpY fr7) (T.obj _ _ st7)
    have again : ∀ {σ9 : St} {H9 : Hp} {s9 : Shared}, Inv Y ([] ++ pinsAt fp s7.heap) σ9 H9 s9 → N σ9 H9 → ∃ m, m < n ∧ ∃ i σ' H', Inv Y [] σ' H' s9 ∧ tn i s9.heap ∧ (∀ b ∈ fp, H' b = none) ∧ W i m σ' H' := fun {σ9 H9 s9} I9 n9 => by
      obtain ⟨m', hm, w9⟩ := hN σ9 H9 n9
      refine ⟨m', hm, i + 1, σ9, H9, I9.unpinned, T.keep _ _ _ st7 fun b hb o e => (I9.pin (b, o) (List.mem_append_right _ (List.mem_append_right _ (mem_pinsAt hb e)))).1, fun b hb => ?_, w9⟩
      obtain ⟨o, e, d⟩ := T.obj _ _ st7 b hb
      exact (I9.pin (b, o) (List.mem_append_right _ (List.mem_append_right _ (mem_pinsAt hb e)))).2.1
    refine noE (thn (gY _ s7 σ5 H7 x7 u _ I7' r7 (step x7 _ y7)) fun _ s8 zz => ?_)
    obtain ⟨σ8, H8, I8, q8⟩ := zz
    refine noE (thn (hF _ s8 _ _ _ I8 q8) fun b s9 ⟨H9, I9, q9⟩ => ?_)
    cases b with
    | false => exact again I9 q9
    | true =>
      refine noE (thn (hE _ s9 _ _ _ I9 q9) fun y s10 zz => ?_)
      obtain ⟨v10, H10, I10, r10, q10⟩ := zz
      refine noE (thn (mt_append (X := Y) _ s10 _ _ (.ref D) [v10] (.ref D) [y] _ I10 rfl (.cons r10 .nil) q10) fun _ s11 zz => ?_)
      obtain ⟨v11, H11, I11, _, q11⟩ := zz
      exact again I11 q11
theorem pg_nameC {scope : Scope} {Ni : List Str} {caps : List (Option Nat)} {x : Str} {px : Pos} {gi : Nat} {cs : List (Str × Addr)} {s₃ : Shared} {H₃ : Hp} {fp : List Addr} {pins : List (Addr × Obj)}
    (S : CompScope X scope Ni caps) (hx : scope.names.lookup x = some .local ∨ scope.names.lookup x = some .cell) (hgi : Ni[gi]? = some x) : PG (compCx X scope Ni cs s₃ H₃ fp pins) (.Name x px) (gName gi) := by
  rcases hx with hx | hx
  · exact pg_name S.nd hgi (.inl (lookup_relabel_local hx)) (.inr (lookup_relabel_local hx))
  · refine pg_name S.nd hgi ?_ (.inl (decide_eq_true hx))
    have : (relabel scope X.env).names.lookup x = some .cell := lookup_relabel_own hx
    exact .inr this
theorem comp_core {elt iter : Expr} {tg : Expr} {ifs : List Expr} {scope : Scope} {pos pos' : Pos} {wi : TI} {Ni : List Str} {caps : List (Option Nat)} {g : TG} {tf : TT} {te : TE}
    (hc : X.calm = true) (hi : PI X tg iter wi) (S : CompScope X scope Ni caps) (hG : CompScope X scope Ni caps → ∀ cs s₃ H₃ fp pins, PG (compCx X scope Ni cs s₃ H₃ fp pins) tg g)
    (hF : ∀ cs s₃ H₃ fp pins, PF (compCx X scope Ni cs s₃ H₃ fp pins) ifs tf) (hE : ∀ cs s₃ H₃ fp pins, PE (compCx X scope Ni cs s₃ H₃ fp pins) elt te)
    (hs : ∀ x, foldedSetIterable iter X.env x = pure x)
    {pins : List (Addr × Obj)} {s : Shared} {σ : St} {H : Hp} {Q : VK} (I : Inv X pins σ H s) (h : tComp wi caps g tf te σ H Q) {use : Option (Value → Sem Unit)} {R : Value → Shared → Prop}
    (fin : ∀ (D C : Addr) (H' : Hp) (s' : Shared) (m : Str → Option Value), Inv X pins σ H' s' → Q (.ref D) H' → s'.heap.Ns C m → H' C = none → X.s₀.heap.objs.size ≤ C → C ≠ X.env.locals → (∀ y c, X.env.cells.lookup y = some c → c ≠ C) → (∀ p ∈ X.pn ++ pins, p.1 ≠ C) →
      compPost (model X.prog X.w) X.A X.xe use R (.ref D) C (.ok .next) s') :
    wpAny (model X.prog X.w) X.A (comprehension (.ListComp elt [⟨tg, iter, ifs, 0⟩] scope pos) scope X.env pos' (newList []) false (eval iter X.env) use) R X.xe s := by
  obtain ⟨cl, hcl, hsub, hall⟩ := closureFor_all (env := X.env) (scope := scope) fun y hy hf => I.ok.has y.1 (S.free y hy hf)
  refine wpAny_comprehension_free rfl hs hcl S.kind (fun y hy hl => by obtain ⟨n, k⟩ := y; cases hl; exact nodup_lookup S.ndn hy) (thn (hi pins s σ H _ I h) fun v s1 h1 => thn h1 fun itv s2 h2 => ?_)
  obtain ⟨it, fp, tn, J, H2, e, I2, T, st2, f2, hW⟩ := h2
  subst e
  have I3 : Inv X pins σ (upd H2 s2.heap.objs.size (.lst [])) { s2 with heap := s2.heap.push { cls := .type "list", dict := none, data := .seq ([] : List Value).toArray }, toks := s2.toks } :=
    I2.laid (fun b u e => Heap.get?_push_of_some _ e) (Nat.le_refl _) ⟨Nat.zero_le _, [], _, .nil, Heap.get?_push_size _ rfl⟩
  have hD : H2 s2.heap.objs.size = none := I2.hok.fresh (Nat.le_refl _)
  obtain ⟨W, ⟨m0, w0⟩, turn⟩ := hW s2.heap.objs.size hD
  have st3 : tn 0 (s2.heap.push { cls := .type "list", dict := none, data := .seq ([] : List Value).toArray }) := T.keep _ _ _ st2 fun b _ o e => Heap.get?_push_of_some _ e
  have f3 : ∀ b ∈ fp, FpOk X pins (upd H2 s2.heap.objs.size (.lst [])) b := fun b hb => by
    obtain ⟨o, e, _⟩ := T.obj _ _ st2 b hb
    exact ⟨by rw [upd_ne (Nat.ne_of_lt (Heap.lt_size e))]; exact (f2 b hb).1, (f2 b hb).2⟩
  refine wpAny_newObj_type ?_
  generalize hs3 : ({ s2 with heap := s2.heap.push { cls := .type "list", dict := none, data := .seq ([] : List Value).toArray }, toks := s2.toks } : Shared) = s3 at I3
  have eh : s2.heap.push { cls := .type "list", dict := none, data := .seq ([] : List Value).toArray } = s3.heap := by rw [← hs3]
  rw [eh] at st3
  have hf3 : ∀ b ∈ fp, b < s3.heap.objs.size := fun b hb => by
    obtain ⟨o, e, _⟩ := T.obj _ _ st3 b hb
    exact Heap.lt_size e
  refine wpAny_compEnv fun own s4 eo e4 k4 ns4 oc4 ap4 => ?_
  have T4 : CompAt X scope own cl s3 := ⟨eo, ap4, fun n c hm => (oc4 n c hm).2, hsub, hall⟩
  have I4 := comp_start (Ni := Ni) (caps := caps) S T4 I3 f3 hf3 e4 k4 ns4 fun n c hm => (oc4 n c hm).1
  have st4 : tn 0 s4.heap := T.keep _ _ _ st3 fun b _ o e => k4 b o e
  have fpY : ∀ {H' : Hp}, (∀ b ∈ fp, H' b = none) → ∀ b ∈ fp, FpOk (compCx X scope Ni (own ++ cl) s3 (upd H2 s2.heap.objs.size (.lst [])) fp pins) [] H' b := fun hn b hb =>
    ⟨hn b hb, Nat.ne_of_lt (hf3 b hb), I4.ok.exfs b hb, .inl hb, (I4.ok.exf b hb).2, fun p hp => by
      have hp' : p ∈ X.pn ++ pins := by
        have : p ∈ (X.pn ++ pins) ++ [] := hp
        simpa using this
      exact (f3 b hb).2.2.2.2.2 p hp'⟩
  have loop := comp_loop (Q := Q) (elt := elt) (iter := iter) (scope := scope) (pos := pos) (R := compPost (model X.prog X.w) X.A X.xe use R (.ref s2.heap.objs.size) s3.heap.objs.size) (Y := compCx X scope Ni (own ++ cl) s3 (upd H2 s2.heap.objs.size (.lst [])) fp pins)
    T hc (hG S _ _ _ _ _) (hF _ _ _ _ _) (hE _ _ _ _ _) fpY (fun _ _ z => z) turn (fun σ' H' s' I6 qn => by
      have I6' := comp_end I3 f3 I6
      obtain ⟨m6, ns6, _⟩ := I6.loc
      exact fin _ _ H' s' m6 I6' qn ns6 I6.free I3.sz (Nat.ne_of_gt I3.lt) (fun y c hc' => Nat.ne_of_lt (cells_lt I3 hc')) fun p hp => Nat.ne_of_lt (Heap.lt_size (I3.pin p hp).1)) I4 st4 (fun b hb => (f3 b hb).1) w0
  exact codeAny_compStart_list loop (T.self _ _ _ _ _ st4 loop)
theorem pe_comp {elt iter : Expr} {tg : Expr} {ifs : List Expr} {scope : Scope} {pos : Pos} {wi : TI} {Ni : List Str} {caps : List (Option Nat)} {g : TG} {tf : TT} {te : TE}
    (hc : X.calm = true) (hi : PI X tg iter wi) (S : CompScope X scope Ni caps) (hG : CompScope X scope Ni caps → ∀ cs s₃ H₃ fp pins, PG (compCx X scope Ni cs s₃ H₃ fp pins) tg g)
    (hF : ∀ cs s₃ H₃ fp pins, PF (compCx X scope Ni cs s₃ H₃ fp pins) ifs tf) (hE : ∀ cs s₃ H₃ fp pins, PE (compCx X scope Ni cs s₃ H₃ fp pins) elt te)
    (hs : autoParam (∀ x, foldedSetIterable iter X.env x = pure x) Internal.aut3._auto_1) : PE X (.ListComp elt [⟨tg, iter, ifs, 0⟩] scope pos) (tComp wi caps g tf te) := by
  intro pins s σ H Q I h
  rw [eval_ListComp]
  refine comp_core hc hi S hG hF hE hs I h fun D C H' s' m I' q ns hn hC h1 h2 h3 => ?_
  refine ⟨m, ns, fun h' sb => ?_⟩
  exact ⟨.ref D, H', I'.turned (t' := s'.toks) (it := C) (fun b o hb e => (sb.2 b hb).trans e) hn h1 (.inr hC) h2 h3, rfl, q⟩
theorem ps_setC {i : Nat} {y : Str} {py : Pos} {elt iter : Expr} {tg : Expr} {ifs : List Expr} {scope : Scope} {pos spos : Pos} {wi : TI} {Ni : List Str} {caps : List (Option Nat)} {g : TG} {tf : TT} {te : TE}
    (hN : X.N.Nodup) (hyi : X.N[i]? = some y) (hy : X.env.scope.names.lookup y = some .local) (hc : X.calm = true) (hi : PI X tg iter wi) (S : CompScope X scope Ni caps) (hG : CompScope X scope Ni caps → ∀ cs s₃ H₃ fp pins, PG (compCx X scope Ni cs s₃ H₃ fp pins) tg g)
    (hF : ∀ cs s₃ H₃ fp pins, PF (compCx X scope Ni cs s₃ H₃ fp pins) ifs tf) (hE : ∀ cs s₃ H₃ fp pins, PE (compCx X scope Ni cs s₃ H₃ fp pins) elt te)
    (hsw : autoParam (swapsWith (.ListComp elt [⟨tg, iter, ifs, 0⟩] scope pos) (some (.Name y py)) spos.line X.env = pure true) Internal.aut2._auto_1)
    (hs : autoParam (∀ x, foldedSetIterable iter X.env x = pure x) Internal.aut3._auto_1) : PS X (.Assign [.Name y py] (.ListComp elt [⟨tg, iter, ifs, 0⟩] scope pos) spos) (tAsg (tComp wi caps g tf te) (gName i)) := by
  intro pins s σ H D I h
  rw [exec_Assign_Name_used _ _ _ _ hsw]
  refine wpAny_bind (wpAny_standAt (wpAny_bind ?_))
  show wpAny _ X.A (do let _ ← comprehension (.ListComp elt [⟨tg, iter, ifs, 0⟩] scope pos) scope X.env _ (newList []) false (eval iter X.env) (some (assign (.Name y py) X.env))) _ _ s
  refine wpAny_bind (wpAny_mono (comp_core (R := fun _ s' => SP X pins D .next s') hc hi S hG hF hE hs I h fun L C H' s' m I' q ns hn hC h1 h2 h3 => ?_) (fun _ s' hq => wpAny_pure (wpAny_pure hq)) fun _ _ e => e)
  show wpAny _ X.A (assign (.Name y py) X.env (.ref L)) _ _ _
  refine wpAny_assign_Name (store_ok2 (v := .ref L) I' hN hyi (.inl hy) rfl (fun s2 I2 sb2 => ?_) (.inr hy))
  obtain ⟨a, sb, ha⟩ := sb2
  have hCa : C ≠ a := by
    rcases ha with z | z
    · rw [z]; exact h1
    · exact fun w' => h2 y a z w'.symm
  refine ⟨m, ns.sameBut sb hCa, fun h' sb' => ?_⟩
  exact ⟨_, H', I2.turned (t' := s2.toks) (it := C) (fun b o hb e => (sb'.2 b hb).trans e) hn h1 (.inr hC) h2 h3, q⟩
end
end Internal

namespace My
end My

set_option Elab.async false
set_option linter.all false
set_option maxRecDepth 100000
namespace Internal
open PySem PySem.Spec PyProof.Rows
theorem x_iteB {b : Bool} {A B : Prop} (h1 : b = true → A) (h2 : b = false → B) : if b = true then A else B := by
  cases b with
  | true => rw [if_pos rfl]; exact h1 rfl
  | false => rw [if_neg Bool.false_ne_true]; exact h2 rfl
section
variable {K : PySem.W.Frag} {H : Hp} {Q : VK}
theorem x_isII {i : Int} (q : Q (.bl true) H) : rIsi K [.int i, .ty "int"] H Q := x_isi (t' := .type "int") (cv := .type "int") (b := true) rfl (.int i) (by with_unfolding_all rfl) q
theorem x_isIB {i : Int} (q : Q (.bl false) H) : rIsi K [.int i, .ty "bool"] H Q := x_isi (t' := .type "int") (cv := .type "bool") (b := false) rfl (.int i) (by with_unfolding_all rfl) q
theorem x_isLL {a : Addr} {xs : List V} (h : H a = some (.lst xs)) (q : Q (.bl true) H) : rIsi K [.ref a, .ty "list"] H Q := x_isi (t' := .type "list") (cv := .type "list") (b := true) rfl (.lst h) (by with_unfolding_all rfl) q
end
noncomputable def cell (ns : List Int) (k : Int) : Int := ns.getD k.toNat 0
noncomputable def spCell (K : PySem.W.Frag) : Sp := fun vs H Q _ => ∃ (a : Addr) (ns : List Int) (k : Int), vs = [.ref a, .int k] ∧ SqL K H a (ns.map V.int) ∧ 0 ≤ k ∧ Q (.int (cell ns k)) H
theorem cell_in {ns : List Int} {k : Int} (h0 : 0 ≤ k) (h : k < ((ns.map V.int).length : Int)) : atI (ns.map V.int) k = some (.int (cell ns k)) := by
  rw [List.length_map] at h
  have hk : k.toNat < ns.length := by omega
  have ek : k = ((k.toNat : Nat) : Int) := by omega
  have q : atI (ns.map V.int) ((k.toNat : Nat) : Int) = some (.int ns[k.toNat]) := atI_nat (by rw [List.getElem?_map, List.getElem?_eq_getElem hk]; rfl)
  rw [← ek] at q
  rw [q]; unfold cell; rw [List.getD_eq_getElem?_getD, List.getElem?_eq_getElem hk]; rfl
theorem cell_out {ns : List Int} {k : Int} (h : ¬ k < ((ns.map V.int).length : Int)) : cell ns k = 0 := by
  rw [List.length_map] at h
  unfold cell; rw [List.getD_eq_getElem?_getD, List.getElem?_eq_none (by omega)]; rfl
theorem spCell_i {K : PySem.W.Frag} {a : Addr} {ns : List Int} {k : Int} {H : Hp} {Q : VK} {E : XK} (hS : SqL K H a (ns.map V.int)) (h0 : 0 ≤ k) (q : Q (.int (cell ns k)) H) : spCell K [.ref a, .int k] H Q E := ⟨a, ns, k, rfl, hS, h0, q⟩
noncomputable def spWhole : Sp := fun vs H Q _ => ∃ i : Int, vs = [.int i] ∧ Q (.bl true) H
theorem spWhole_i {a : Int} {H : Hp} {Q : VK} {E : XK} (q : Q (.bl true) H) : spWhole [.int a] H Q E := ⟨a, rfl, q⟩
noncomputable def IsQ (H : Hp) (a : Addr) (q : Rat) : Prop := H a = some (.tup [.int q.num, .int (q.den : Int)])
noncomputable def NewQ (H : Hp) (Q : VK) (q : Rat) : Prop := ∀ p H', Same H H' → IsQ H' p q → Q (.ref p) H'
end Internal

set_option Elab.async false
set_option linter.all false
set_option maxRecDepth 100000
namespace Internal
open PySem PySem.Spec PyProof.Rows
section
variable {σ : St} {H : Hp} {Q : VK} {D : Ends} {ta tb tc te to : TE} {t u : TS} {K : PySem.W.Frag}
noncomputable def ForK (J : It) (g : TG) (tb : TS) : TS := fun D σ H => ∃ W : Nat → Nat → St → Hp → Prop, (∃ m, W 0 m σ H) ∧ ∀ i m σ H, W i m σ H →
  (J.stop i H ∧ D.nx σ H) ∨ (J.go i H ∧ ∃ N : St → Hp → Prop, (∀ σ' H', N σ' H' → ∃ m', m' < m ∧ W (i + 1) m' σ' H') ∧ ∀ x H', J.yld i H x H' → g x σ H' fun σ2 H2 => tb { D with nx := N, ct := N, bk := D.nx } σ2 H2)
theorem x_for {wi : TI} {g : TG} {tb : TS} (q : wi σ H fun J H1 => ForK J g tb D σ H1) : tFor wi g tb D σ H := q
noncomputable def rRng1 (R : It → Hp → Prop) (vs : List V) (H : Hp) : Prop := ∃ j : Int, vs = [.int j] ∧ -(2 ^ 62) ≤ j ∧ j < 2 ^ 62 ∧ R (Itr 0 j.toNat) H
noncomputable def rItL (K : PySem.W.Frag) (R : It → Hp → Prop) (x : V) (H : Hp) : Prop := ∃ a, x = .ref a ∧ (∃ xs, SqL K H a xs) ∧ R (Itl K a) H
theorem x_rng1 {tr : TA} {R : It → Hp → Prop} (q : tr σ H (rRng1 R)) : iRng1 tr σ H R := q
theorem x_itL {R : It → Hp → Prop} (q : te σ H (rItL K R)) : iList K te σ H R := q
theorem x_rngk1 {R : It → Hp → Prop} {j : Int} (h1 : -4611686018427387904 ≤ j) (h2 : j < 4611686018427387904) (q : R (Itr 0 j.toNat) H) : rRng1 R [.int j] H := ⟨j, rfl, h1, h2, q⟩
theorem x_itk {R : It → Hp → Prop} {a : Addr} {xs : List V} (h : SqL K H a xs) (q : R (Itl K a) H) : rItL K R (.ref a) H := ⟨a, rfl, ⟨xs, h⟩, q⟩
theorem x_forR {lo : Int} {n : Nat} {g : TG} {tb : TS} (Pv : Nat → St → Hp → Prop) (h0 : Pv 0 σ H)
    (hs : ∀ i σ H, i < n → Pv i σ H → g (.int (lo + i)) σ H fun σ2 H2 => tb { D with nx := Pv (i + 1), ct := Pv (i + 1), bk := D.nx } σ2 H2) (hd : ∀ σ H, Pv n σ H → D.nx σ H) : ForK (Itr lo n) g tb D σ H := for_range Pv h0 hs hd
theorem x_forL {a : Addr} {xs : List V} {g : TG} {tb : TS} (Pv : Nat → St → Hp → Prop) (h0 : Pv 0 σ H) (hl : ∀ i σ H, i ≤ xs.length → Pv i σ H → SqL K H a xs)
    (hs : ∀ i x σ H, xs[i]? = some x → Pv i σ H → g x σ H fun σ2 H2 => tb { D with nx := Pv (i + 1), ct := Pv (i + 1), bk := D.nx } σ2 H2) (hd : ∀ σ H, Pv xs.length σ H → D.nx σ H) : ForK (Itl K a) g tb D σ H := for_list Pv h0 hl hs hd
theorem x_bm {T : String} {r : V → List V → Hp → VK → Prop} {tr : TA} (q : to σ H fun x H1 => tyV K T x H1 ∧ tr σ H1 fun xs H2 => r x xs H2 Q) : tBM K T r to tr σ H Q := q
theorem x_tyL {l : Addr} {xs : List V} {A : Prop} (h : H l = some (.lst xs)) (q : A) : tyV K "list" (.ref l) H ∧ A := ⟨.inl ⟨rfl, xs, SqL.of h⟩, q⟩
theorem x_append {l : Addr} {xs : List V} {y : V} (h : H l = some (.lst xs)) (hl : xs.length < sizeLine) (q : Q .non (upd H l (.lst (xs ++ [y])))) : rAppend (.ref l) [y] H Q := ⟨l, xs, y, rfl, rfl, h, hl, q⟩
theorem x_setL {l : Addr} {xs : List V} {k : Int} {j : Nat} {v : V} {R : Hp → Prop} (h : H l = some (.lst xs)) (e : ixN xs.length k = some j) (q : R (upd H l (.lst (xs.set j v)))) : rSetL (.ref l) (.int k) v H R := ⟨l, xs, k, j, rfl, rfl, h, e, q⟩
theorem x_listOf {a : Addr} {xs : List V} (h : SqL K H a xs) (q : ∀ l, H l = none → Q (.ref l) (upd H l (.lst xs))) : rListOf K [.ref a] H Q := ⟨a, xs, rfl, .inl h, q⟩
theorem x_ixLs {a : Addr} {xs : List V} {i : Int} {v : V} (h : H a = some (.lst xs)) (e : atI xs i = some v) (q : Q v H) : rIx K (.ref a) (.int i) H Q := x_ixL (.of h) e q
noncomputable def rPart (R : Option Int → Hp → Prop) (x : V) (H : Hp) : Prop := ∃ i, x = .int i ∧ R (some i) H
theorem x_part {R : Option Int → Hp → Prop} (q : te σ H (rPart R)) : tPart te σ H R := q
theorem x_partI {R : Option Int → Hp → Prop} {i : Int} (q : R (some i) H) : rPart R (.int i) H := ⟨i, rfl, q⟩
theorem x_cut {a : Addr} {xs : List V} {lo hi : Option Int} (h : SqL K H a xs) (q : ∀ p, H p = none → Q (.ref p) (upd H p (.lst (cutV xs lo hi)))) : rSlL K (.ref a) lo hi H Q := ⟨a, xs, rfl, h, q⟩
end
theorem Same.fresh {H H' : Hp} {l : Addr} (g : Same H H') (h : H' l = none) : H l = none := by
  cases e : H l with
  | none => rfl
  | some o => rw [g l o e] at h; cases h
theorem small_of {n : Nat} (h : n ≤ 100000) : n < sizeLine := Nat.lt_of_le_of_lt h (by decide)
theorem small_le {n : Nat} (h : n ≤ 100000) : n ≤ sizeLine := Nat.le_of_lt (small_of h)
noncomputable def But (l : Addr) (H H' : Hp) : Prop := ∀ b, b ≠ l → H' b = H b
theorem But.upd {H : Hp} {l : Addr} {o : HO} : But l H (Internal.upd H l o) := fun _ h => upd_ne h
theorem But.at {l : Addr} {H H' : Hp} (g : But l H H') {a : Addr} {o : HO} (h : H a = some o) (n : a ≠ l) : H' a = some o := by rw [g a n]; exact h
theorem But.same {l : Addr} {H0 H H' : Hp} (g : But l H H') (e : Same H0 H) (h : H0 l = none) : Same H0 H' := fun b o q => by rw [g b (ne_of_none q h)]; exact e b o q
noncomputable def LBut (l : Addr) (H H' : Hp) : Prop := But l H H' ∧ ∃ xs, H l = some (.lst xs)
theorem LBut.tup {l : Addr} {H H' : Hp} (g : LBut l H H') {a : Addr} {xs : List V} (h : H a = some (.tup xs)) : H' a = some (.tup xs) := by
  obtain ⟨ys, e⟩ := g.2
  exact g.1.at h (ne_of h e (by intro z; cases z))
theorem LBut.lst {l : Addr} {H H' : Hp} (g : LBut l H H') {a : Addr} {o : HO} (h : H a = some o) (n : a ≠ l) : H' a = some o := g.1.at h n
theorem LBut.same {l : Addr} {H0 H H' : Hp} (g : LBut l H H') (e : Same H0 H) (h : H0 l = none) : Same H0 H' := g.1.same e h
theorem Same.at {H H' : Hp} (e : Same H H') {a : Addr} {o : HO} (h : H a = some o) : H' a = some o := e a o h
theorem SqL.keep {K : PySem.W.Frag} {H H' : Hp} {a : Addr} {xs : List V} (h : SqL K H a xs) (e : Same H H') : SqL K H' a xs := e.seq h
theorem Same.after {H H1 H2 : Hp} (b : Same H1 H2) (a : Same H H1) : Same H H2 := a.trans b
theorem Same.none {H H' : Hp} {l : Addr} (h : H' l = none) (g : Same H H') : H l = none := g.fresh h
theorem ne_new {H : Hp} {a b : Addr} {o : HO} (h' : H b = none) (h : H a = some o) : a ≠ b := ne_of_none h h'
section
variable {σ : St} {H : Hp} {Q : VK} {D : Ends} {t u : TS} {K : PySem.W.Frag}
theorem x_tupN {xs : List V} (hl : xs.length ≤ 100000) (q : ∀ p H', H p = none → Same H H' → H' p = some (.tup xs) → Q (.ref p) H') : rTup Q xs H := ⟨small_le hl, fun p hp => q p _ hp (Same.new hp _) upd_same⟩
theorem x_lstN {xs : List V} (hl : xs.length ≤ 100000) (q : ∀ p H', H p = none → Same H H' → H' p = some (.lst xs) → Q (.ref p) H') : rLst Q xs H := ⟨small_le hl, fun p hp => q p _ hp (Same.new hp _) upd_same⟩
theorem x_appN {l : Addr} {xs : List V} {y : V} (h : H l = some (.lst xs)) (hl : xs.length ≤ 100000) (q : ∀ H', LBut l H H' → H' l = some (.lst (xs ++ [y])) → Q .non H') : rAppend (.ref l) [y] H Q :=
  x_append h (small_of hl) (q _ ⟨But.upd, xs, h⟩ upd_same)
theorem x_setN {l : Addr} {xs : List V} {k : Int} {j : Nat} {v : V} {R : Hp → Prop} (h : H l = some (.lst xs)) (e : ixN xs.length k = some j) (q : ∀ H', LBut l H H' → H' l = some (.lst (xs.set j v)) → R H') : rSetL (.ref l) (.int k) v H R :=
  x_setL h e (q _ ⟨But.upd, xs, h⟩ upd_same)
theorem x_listOfN {a : Addr} {xs : List V} (h : SqL K H a xs) (q : ∀ p H', H p = none → Same H H' → H' p = some (.lst xs) → Q (.ref p) H') : rListOf K [.ref a] H Q := x_listOf h fun p hp => q p _ hp (Same.new hp _) upd_same
theorem x_cutN {a : Addr} {xs : List V} {lo hi : Option Int} (h : SqL K H a xs) (q : ∀ p H', H p = none → Same H H' → H' p = some (.lst (cutV xs lo hi)) → Q (.ref p) H') : rSlL K (.ref a) lo hi H Q := x_cut h fun p hp => q p _ hp (Same.new hp _) upd_same
end
theorem ixN_lt {n : Nat} {k : Int} (h0 : 0 ≤ k) (h : k < n) : ixN n k = some k.toNat := by unfold ixN; rw [if_pos h0, if_pos h]
theorem atI_lt {α : Type} {xs : List α} {k : Int} {v : α} (h0 : 0 ≤ k) (h : xs[k.toNat]? = some v) : atI xs k = some v := by
  have e : k = (k.toNat : Int) := by omega
  rw [e]; exact atI_nat h
end Internal

set_option Elab.async false
set_option linter.all false
set_option maxRecDepth 100000
namespace Internal
open PySem PySem.Spec PyProof.Rows

theorem ObjOk.obj {P : Program} {w : World} {H : Hp} {h : Heap} {a : Addr} {o : HO} (x : ObjOk P w H h a o) : ∃ u, h.get? a = some u := by
  cases o with
  | lst xs => exact ⟨_, x.2.choose_spec.choose_spec.2⟩
  | tup xs => obtain ⟨_, _, _, ob, e, _⟩ := x; exact ⟨ob, e⟩
  | dK kvs => obtain ⟨_, _, _, _, ob, _, _, e, _⟩ := x; exact ⟨ob, e⟩
  | dT kvs => obtain ⟨_, _, _, _, ob, _, _, e, _⟩ := x; exact ⟨ob, e⟩
  | set S n => obtain ⟨ob, _, _, _, e, _⟩ := x; exact ⟨ob, e⟩
  | ins C dx fs => exact ⟨_, x.2.2.2.1⟩
  | own y => exact x
  | xd fs => obtain ⟨_, ⟨ob, _, _, e, _⟩, _⟩ := x; exact ⟨ob, e⟩
  | rng lo hi => obtain ⟨_, _, _, e⟩ := x; exact ⟨_, e⟩
  | frz ob u => exact ⟨ob, x.1⟩
  | tbl ps => exact ⟨_, show h.get? a = some _ from x⟩
  | met f y => exact ⟨_, show h.get? a = some _ from x⟩
  | ext φ => exact x.2.1

noncomputable def DK {α : Type} : Sem α → Prop
  | .pure _ => True
  | .raise _ => True
  | .unsupported _ => True
  | .finish _ => True
  | .rule _ k => DK (k ())
  | .at _ k => DK (k ())
  | .load _ _ k => ∀ o, DK (k o)
  | .update _ _ f k => (∀ o, (f o).dict = o.dict) ∧ DK (k ())
  | .alloc _ k => ∀ a, DK (k a)
  | .loadIfAlive _ k => ∀ o, DK (k o)
  | .point _ k => DK (k ())
  | .fresh k => ∀ t, DK (k t)
  | .ask k => ∀ t, DK (k t)
  | .handled _ k => ∀ t, DK (k t)
  | .stack k => ∀ t, DK (k t)
  | .thread k => ∀ t, DK (k t)
  | _ => False
theorem DK.bind {α β : Type} {m : Sem α} {f : α → Sem β} (hm : DK m) (hf : ∀ a, DK (f a)) : DK (m >>= f) := by
  show DK (Sem.bind m f)
  induction m with
  | pure a => exact hf a
  | raise e => trivial
  | unsupported w => trivial
  | finish e => trivial
  | rule t k ih => exact ih () hm
  | «at» p k ih => exact ih () hm
  | load a p k ih => exact fun o => ih o (hm o)
  | update a p g k ih => exact ⟨hm.1, ih () hm.2⟩
  | alloc o k ih => exact fun a => ih a (hm a)
  | loadIfAlive a k ih => exact fun a => ih a (hm a)
  | point l k ih => exact ih () hm
  | fresh k ih => exact fun a => ih a (hm a)
  | ask k ih => exact fun a => ih a (hm a)
  | handled o k ih => exact fun a => ih a (hm a)
  | stack k ih => exact fun a => ih a (hm a)
  | thread k ih => exact fun a => ih a (hm a)
  | _ => exact hm.elim
noncomputable def Bare (er : Addr) (s : Shared) : Prop := ∃ o, s.heap.objs[er]? = some o ∧ o.dict = none
theorem DK.wp {α : Type} {M : Model} {Γ : PySem.Ctx} {er : Addr} {t : Sem α} (h : DK t) : ∀ {Q : α → Pos → Shared → Prop} {E : Value → Pos → Shared → Prop} {p : Pos} {s : Shared}, Bare er s → Sem.wp M Γ t Q E p s →
    Sem.wp M Γ t (fun a p s' => Q a p s' ∧ Bare er s') (fun e p s' => E e p s' ∧ Bare er s') p s := by
  induction t with
  | pure a => intro Q E p s b w; rw [Sem.wp] at *; exact ⟨w, b⟩
  | raise e => intro Q E p s b w; rw [Sem.wp] at *; exact ⟨w, b⟩
  | unsupported _ => intro Q E p s b w; rw [Sem.wp] at *; exact w
  | finish _ => intro Q E p s b w; rw [Sem.wp] at *; exact w
  | rule t k ih => intro Q E p s b w; rw [Sem.wp] at *; exact ih () h b w
  | «at» q k ih => intro Q E p s b w; rw [Sem.wp] at *; exact ih () h b w
  | load a q k ih =>
    intro Q E p s b w; rw [Sem.wp] at *
    obtain ⟨o, e, w⟩ := w
    exact ⟨o, e, ih o (h o) b w⟩
  | update a q g k ih =>
    intro Q E p s b w; rw [Sem.wp] at *
    refine ⟨w.1, ih () h.2 ?_ w.2⟩
    obtain ⟨o, e, d⟩ := b
    by_cases c : a = er
    · subst c
      exact ⟨g o, by simp [Heap.update, Array.getElem?_modify, e], by rw [h.1]; exact d⟩
    · exact ⟨o, by simp [Heap.update, Array.getElem?_modify, c, e], d⟩
  | alloc o k ih =>
    intro Q E p s b w; rw [Sem.wp] at *
    refine ih _ (h _) ?_ w
    obtain ⟨o', e, d⟩ := b
    refine ⟨o', ?_, d⟩
    have hl : er < s.heap.objs.size := (Array.getElem?_eq_some_iff.mp e).1
    show (s.heap.objs.push o)[er]? = some o'
    rw [Array.getElem?_push]
    rw [if_neg (Nat.ne_of_lt hl)]; exact e
  | loadIfAlive a k ih => intro Q E p s b w; rw [Sem.wp] at *; exact ih _ (h _) b w
  | point l k ih => intro Q E p s b w; rw [Sem.wp] at *; exact ih () h b w
  | fresh k ih => intro Q E p s b w; rw [Sem.wp] at *; exact ih _ (h _) b w
  | ask k ih => intro Q E p s b w; rw [Sem.wp] at *; exact ih _ (h _) b w
  | handled o k ih => intro Q E p s b w; rw [Sem.wp] at *; exact ih _ (h _) b w
  | stack k ih => intro Q E p s b w; rw [Sem.wp] at *; exact ih _ (h _) b w
  | thread k ih => intro Q E p s b w; rw [Sem.wp] at *; exact ih _ (h _) b w
  | _ => exact h.elim
theorem DK.any {α : Type} {M : Model} {A : Around} {er : Addr} {t : Sem α} {Q : α → Shared → Prop} {E : Value → Shared → Prop} {s : Shared} (h : DK t) (b : Bare er s) (w : wpAny M A t Q E s) : wpAny M A t (fun a s' => Q a s' ∧ Bare er s') (fun e s' => E e s' ∧ Bare er s') s :=
  fun Γ p hΓ => h.wp b (w Γ p hΓ)
theorem Bare.get {er : Addr} {s : Shared} {o : Obj} (b : Bare er s) (e : s.heap.get? er = some o) : o.dict = none := by
  obtain ⟨o', e', d⟩ := b
  obtain ⟨e1, _⟩ := Heap.get?_some_iff.mp e
  rw [e'] at e1; cases e1; exact d
theorem mapFields_dict (f : Array Value → Array Value) (o : Obj) : (o.mapFields f).dict = o.dict := by
  obtain ⟨c, d, dt, sl⟩ := o; cases dt <;> rfl
theorem dk_load {a : Addr} : DK (load a) := fun _ => trivial
theorem dk_field (v : Value) (i : Nat) : DK (field v i) := by
  unfold field fieldsOf
  refine DK.bind ?_ fun x => ?_
  · cases v <;> try trivial
    refine DK.bind dk_load fun o => ?_
    split <;> trivial
  · split <;> trivial
theorem dk_setField (v : Value) (i : Nat) (x : Value) : DK (setField v i x) := by
  unfold setField updateField
  cases v <;> try trivial
  refine DK.bind dk_load fun o => ?_
  split
  · split
    · exact ⟨fun o => mapFields_dict _ o, trivial⟩
    · trivial
  · trivial
theorem dk_setFlight (e : Value) (f : Option Addr) : DK (setFlight e f) := by
  unfold setFlight
  refine DK.bind (dk_field _ _) fun tb => ?_
  split
  · exact dk_setField _ _ _
  · trivial
theorem dk_kept (env : Env) (i : Bool) (l : List Env) : DK (keptBack env i l) := by
  unfold keptBack
  cases l with
  | nil =>
    simp only
    split
    · trivial
    · refine DK.bind ?_ fun _ => trivial
      unfold underTheClaimsCaller
      exact fun _ => trivial
  | cons c r => trivial
theorem dk_behind (env : Env) (l : List Env) : DK (behindIsImport env l) := by
  unfold behindIsImport
  split
  · trivial
  · split
    · trivial
    · exact DK.bind (dk_field _ _) fun _ => trivial
theorem dk_ready : ∀ l : List Env, DK (readyFrames l)
  | [] => trivial
  | env :: outer => by
    unfold readyFrames
    split
    · refine DK.bind dk_load fun o => ?_
      split
      · trivial
      · refine DK.bind (dk_behind _ _) fun _ => DK.bind (dk_kept _ _ _) fun _ => DK.bind ⟨fun _ => rfl, trivial⟩ fun _ => dk_ready outer
    · trivial
theorem dk_frameObject (l : List Env) : DK (frameObject l) := by
  cases l with
  | nil => trivial
  | cons env outer => exact DK.bind (dk_ready _) fun _ => trivial
theorem dk_frameOf (env : Env) : DK (PySem.frameOf env) := by
  unfold PySem.frameOf frameEnvs
  refine DK.bind (DK.bind (fun _ => trivial) fun _ => trivial) fun _ => DK.bind (dk_frameObject _) fun o => ?_
  split <;> trivial
theorem dk_place (f : Addr) (b : Bool) : DK (entryPlaceOf f b) := by
  unfold entryPlaceOf
  refine DK.bind (fun _ => trivial) fun acts => ?_
  split <;> trivial
theorem dk_asIs (T : String) (d : Data) : DK (newObjAsIs (.type T) d) := by
  unfold newObjAsIs
  exact fun _ => trivial
theorem dk_rec (T : String) (vs : Array Value) : DK (newObj (.type T) (.fields vs)) := by
  unfold newObj
  simp only
  split
  · exact DK.bind (m := unsupported "record:memory") trivial fun _ => dk_asIs _ _
  · exact dk_asIs _ _
theorem dk_entry (a b c d e : Value) (pl : List Value) : DK (EntryCells.newEntry a b c d e pl) := dk_rec _ _
theorem dk_note (e : Value) (env : Env) : DK (noteFrame e env) := by
  unfold noteFrame
  have fin : ∀ (head : Value) (f : Addr), DK (do setField e 1 (← EntryCells.newEntry head (← frameOf env) .none (rawInt f) .none (← entryPlaceOf f (head != .none)))) := fun head f =>
    DK.bind (dk_frameOf _) fun _ => DK.bind (dk_place _ _) fun _ => DK.bind (dk_entry _ _ _ _ _ _) fun _ => dk_setField _ _ _
  split
  · refine DK.bind (dk_field _ _) fun head => ?_
    split
    · refine DK.bind (dk_field _ _) fun x => ?_
      split
      · trivial
      · exact DK.bind (dk_setField _ _ _) fun _ => fin _ _
    · exact fin _ _
  · trivial
theorem dk_leaving (env : Env) (e : Value) : DK (leaving env e) := DK.bind (dk_note _ _) fun _ => dk_setFlight _ _
set_option genInjectivity false in
set_option genSizeOf false in
structure Fly (P : Program) (w : World) (outer : List Env) (H : Hp) (s : Shared) (H' : Hp) (er C t : Addr) (B : Heap) (s' : Shared) : Prop where
  os : s'.os = s.os
  bare : AllBare s'.gens
  un : Un (frs outer) [] H H' s.heap s'.heap
  hok : HOk P w H' s'.heap
  fly : Heap.FlyingW B outer er (.ref C) (.ref t) s'.heap
  old : ∀ b o, s.heap.get? b = some o → H b = none → b ∉ frs outer → B.get? b = some o
  has : ∀ b o, s.heap.get? b = some o → b ∉ frs outer → ∃ u, B.get? b = some u
  trk : ∀ b o u, H' b = some o → s'.heap.get? b = some u → B.get? b = some u
  nod : Bare er s'
noncomputable def CXF (P : Program) (w : World) : CXT := fun outer H s E e s' => ∃ er C t B H', e = .ref er ∧ Fly P w outer H s H' er C t B s' ∧ E (.ref C) none H'
theorem nox_F {P : Program} {w : World} : NoX (CXF P w) := fun _ _ _ _ _ ⟨_, _, _, _, _, _, _, h⟩ => h

section
variable {P : Program} {w : World} {outer : List Env} {H H' : Hp} {s s' : Shared} {er C t : Addr} {B h : Heap}
theorem Fly.noTrk (F : Fly P w outer H s H' er C t B s') : H' er = none := by
  cases e : H' er with
  | none => rfl
  | some o =>
    obtain ⟨ob, q, _⟩ := F.fly.there
    have z := F.trk er o ob e q
    rw [F.fly.2.1] at z; cases z
theorem Fly.unAt (F : Fly P w outer H s H' er C t B s') (fr : s.heap.FunFrames base outer) (st : B.StaysIn h) (up : s'.heap.UpToSlots h) : Un (frs outer) [] H H' s.heap h where
  keep := fun b o q n hb _ => st b o (F.old b o q n hb)
  slot := fun b o q n hb _ => by
    obtain ⟨sl, e1⟩ := F.un.slot b o q n hb (by simp)
    obtain ⟨_, o', e', nf⟩ := fr.mem hb
    rw [q] at e'; cases e'
    obtain ⟨sl', e2⟩ := up b _ e1 nf
    exact ⟨sl', e2⟩
  free := F.un.free
  there := fun b o q _ => by
    by_cases hb : b ∈ frs outer
    · obtain ⟨_, o', e', nf⟩ := fr.mem hb
      rw [q] at e'; cases e'
      cases hn : H b with
      | none =>
        obtain ⟨sl, e1⟩ := F.un.slot b o q hn hb (by simp)
        obtain ⟨sl', e2⟩ := up b _ e1 nf
        exact ⟨_, e2⟩
      | some x =>
        obtain ⟨_, o1, e1, nf1⟩ := F.fly.2.2.1.mem hb
        obtain ⟨sl', e2⟩ := up b _ e1 nf1
        exact ⟨_, e2⟩
    · obtain ⟨u, e⟩ := F.has b o q hb
      exact ⟨u, st b u e⟩
  tups := F.un.tups
  frzs := F.un.frzs
  tbls := F.un.tbls
theorem Fly.hokAt (F : Fly P w outer H s H' er C t B s') (st : B.StaysIn h) : HOk P w H' h := fun a o e =>
  (F.hok a o e).stay (fun b u hb q => st b u (by
    rcases hb with rfl | hb
    · exact F.trk b o u e q
    · exact F.trk b _ u hb q)) (fun _ q => q) fun _ _ q => q
noncomputable def IsExc (er C : Addr) (h : Heap) : Prop := ∃ oe : Obj, PySem.W.InstAt h er oe C none
noncomputable def ExcAt (er C : Addr) : HO := .ext (IsExc er C)
theorem isExc_of {l : List Env} {a0 : Value} {B h : Heap} {s : Shared} {er C : Addr} (f : Heap.FlyingW B l er (.ref C) a0 h) (b : Bare er { s with heap := h }) : IsExc er C h := by
  obtain ⟨oe, vs, e, c, d, _⟩ := f.first
  have nd : oe.dict = none := b.get e
  exact ⟨oe, e, c, by unfold PySem.W.notCls; rw [d], by rw [nd]; trivial⟩
theorem Fly.unEr (F : Fly P w outer H s H' er C t B s') (u : Un (frs outer) [] H H' s.heap h) : Un (frs outer) [] H (upd H' er (ExcAt er C)) s.heap h := by
  have ne : ∀ b o, s.heap.get? b = some o → b ≠ er := fun b o q z => by
    subst z
    by_cases hb : b ∈ frs outer
    · obtain ⟨_, o1, e1, nf1⟩ := F.fly.2.2.1.mem hb
      obtain ⟨oe, vs, e2, _, d, _⟩ := F.fly.first
      rw [e1] at e2; cases e2
      exact nf1 vs d
    · obtain ⟨u, e⟩ := F.has b o q hb
      rw [F.fly.2.1] at e; cases e
  have nt := F.noTrk
  exact ⟨u.keep, u.slot, fun b o q n hx => by rw [upd_ne (ne b o q)]; exact u.free b o q n hx, u.there, fun b xs q => by
      rw [upd_ne (ne_of_none (u.tups b xs q) nt)]; exact u.tups b xs q, fun b o v q => by
      rw [upd_ne (ne_of_none (u.frzs b o v q) nt)]; exact u.frzs b o v q, fun b ps q => by
      obtain ⟨m, e⟩ := u.tbls b ps q
      exact ⟨m, by rw [upd_ne (ne_of_none e nt)]; exact e⟩⟩
theorem hok_er (hk : HOk P w H' h) (nt : H' er = none) (he : IsExc er C h) : HOk P w (upd H' er (ExcAt er C)) h := fun a o e => by
  by_cases ha : a = er
  · subst ha
    rw [upd_same] at e; cases e
    obtain ⟨oe, i⟩ := he
    refine ⟨⟨oe, i⟩, ⟨oe, i.at_⟩, fun h1 h2 ⟨o1, i1⟩ k => ⟨o1, k o1 i1.at_, i1.cls, i1.no, ?_⟩⟩
    have z := i1.dict
    cases hd : o1.dict with
    | none => trivial
    | some dx => rw [hd] at z; exact z.elim
  · rw [upd_ne ha] at e
    exact (hk a o e).stay (fun _ _ _ q => q) (fun b q => by rw [upd_ne (ne_of_none q nt)]; exact q) fun b xs q => by rw [upd_ne (ne_of_none q nt)]; exact q
end

noncomputable def bmV : List Value := [.type "ValueError", .type "Exception", .type "BaseException", .type "object"]
noncomputable def OwnErr (K : PySem.W.Frag) (C : Addr) : Prop := PySem.W.excIn K C bmV "ValueError.__new__" = true
theorem OwnErr.obj {K : PySem.W.Frag} {h : Heap} {C : Addr} (q : OwnErr K C) (X : K.In h) : ∃ bm N nm qn bs hd sn sub ab col dd k0 k1 k2 k3 k5 mN,
    h.get? C = some (excClassObj nm qn C N bs bm hd sn sub ab col dd k0 k1 k2 k3 k5 "ValueError.__new__") ∧ h.Ns N mN ∧ mN "__init__" = none ∧ OwnTail h bmV bm := by
  have q' : PySem.W.excIn K C bmV "ValueError.__new__" = true := q
  unfold PySem.W.excIn at q'
  split at q'
  · rename_i dd cd sl lk
    split at q'
    · rename_i C' bm k0 k1 k2 k3 nid k5 em es
      rw [Bool.and_eq_true, Bool.and_eq_true, Bool.and_eq_true, Bool.and_eq_true, Bool.and_eq_true] at q'
      obtain ⟨⟨⟨⟨⟨a1, a2⟩, a3⟩, a4⟩, a5⟩, a6⟩ := q'
      have b1 : C' = C := eq_of_beq a1
      have b2 : nid = "ValueError.__new__" := eq_of_beq a2
      have b3 : cd.hasDel = false := by simpa using a3
      have b6 := eq_of_beq a6
      have g := X C _ lk
      obtain ⟨nm, bs, mro, ns, qn, hd, sn, sub, ab, col, del⟩ := cd
      simp only at em b3 a5 b6
      subst em b3 b1 b2
      have hsl : sl = #[k0, k1, k2, k3, some (.builtin "ValueError.__new__"), k5] := by
        rw [← Array.toList_inj]; exact es
      subst hsl
      exact ⟨bm, ns, nm, qn, bs, hd, sn, sub, ab, col, dd, k0, k1, k2, k3, k5, _, g, Heap.Ns.of_isNs (PySem.W.isNs_of_in X a5), PySem.W.nsMap_none_of_in X a5 b6, PySem.W.tail_of_in X a4⟩
    · cases q'
  · cases q'
theorem exc_class {prog : Program} {w : World} {A : Around} {E : Value → Shared → Prop} {s : Shared} {K : PySem.W.Frag} {er C : Addr} {oe : Obj} {Q : Option Value → Shared → Prop}
    (ga : PySem.W.findIn K (.ref C) "__getattribute__" = some (some (.builtin "BaseException.__getattribute__"))) (gn : PySem.W.findIn K (.ref C) "__getattr__" = some none)
    (hf : PySem.W.findObj K C none "__class__" = some (.bind (.builtin "getset_descriptor.__get__") (.builtin "object.__class__"))) (mo : PySem.W.mroIn K C (.type "object") = some true) (be : PySem.W.mroIn K C (.type "BaseException") = some true)
    (X : K.In s.heap) (i : PySem.W.InstAt s.heap er oe C none) (q : Q (some (.ref C)) { s with toks := s.toks + 1 }) : wpAny (model prog w) A (getAttr? (.ref er) "__class__") Q E s := by
  obtain ⟨hh, g, d, t, os⟩ := s
  have L0 := i.type (M := model prog w)
  have L1 := PySem.W.looks_findIn (M := model prog w) X ga
  have Internal' := PySem.W.looks_findIn (M := model prog w) X gn
  have L3 := PySem.W.looks_find (M := model prog w) X i hf
  have L4 := PySem.W.looks_mroIn (M := model prog w) X be
  have f3 := PySem.F.attr_ValueError.ga.bind (.ref er)
  unfold getAttr? getAttrBy? getAttrBy
  refine wpAny_bind (wpAny_mkText (wpAny_bind (wpAny_attempt (wpAny_holding (wpAny_bind (L0.at (wpAny_bind (L1.at ?_))))))))
  show wpAny _ _ (getAttrByItsOwn _ _ _ _ _ _) _ _ _
  unfold getAttrByItsOwn hookBefore
  refine wpAny_bind (Internal'.at ?_)
  refine wpAny_bind (wpAny_attempt (wpAny_holding ?_))
  show wpAny _ _ (boundAndCalled _ _ _) _ _ _
  unfold boundAndCalled
  rw [f3]
  refine wpAny_bind (wpAny_pure ?_)
  refine wpAny_call (codeAny_call_builtin PySem.F.attr_ValueError.ga.plain PySem.F.entry_bexc_ga ?_)
  have hk : builtinKind "BaseException.__getattribute__" = some .slot := by decide +kernel
  have hsp : splitId "BaseException.__getattribute__" = some ("BaseException", "__getattribute__") := by decide +kernel
  simp only [checkBuiltinCall, hk, hsp]
  unfold isInstance
  refine wpAny_bind (wpAny_bind (L0.at (L4.at ?_)))
  simp only [Bool.not_true, Bool.false_eq_true, if_false]
  have ha := PySem.F.args_bexc_ga (.ref er) (.str "__class__" t)
  unfold argsOk at ha
  refine wpAny_of_eq (a := ()) ha ?_
  show wpAny _ _ (Builtin.«object.__getattribute__» _) _ _ _
  unfold Builtin.«object.__getattribute__»
  refine wpAny_bind (wpAny_pure ?_)
  refine wpAny_bind (wpAny_pure ?_)
  refine wpAny_bind (L0.at ?_)
  refine wpAny_bind (L3.at ?_)
  show wpAny _ _ (Builtin.ObjectAttr.bindTo _ _ _ _) _ _ _
  unfold Builtin.ObjectAttr.bindTo
  refine wpAny_bind (wpAny_holding (wpAny_call (PySem.W.class_get X i mo ?_)))
  exact wpAny_pure (PySem.W.handed_on rfl (wpAny_pure q))
noncomputable def errOk (K : PySem.W.Frag) (C : Addr) : Bool := PySem.W.excIn K C bmV "ValueError.__new__" && (PySem.W.findIn K (.ref C) "__getattribute__" == some (some (.builtin "BaseException.__getattribute__"))) && (PySem.W.findIn K (.ref C) "__getattr__" == some none) && (PySem.W.mroIn K C (.type "BaseException") == some true) && (PySem.W.clsIn K C).isSome && (PySem.W.findIn K (.ref C) "__class__" == some (some (.builtin "object.__class__"))) &&
  (PySem.W.specialIn K (.builtin "object.__class__") "__get__" == some (some (.builtin "getset_descriptor.__get__"))) && (PySem.W.takesIn K (.builtin "object.__class__") == some true) && (PySem.W.mroIn K C (.type "object") == some true)
theorem errOk.own {K : PySem.W.Frag} {C : Addr} (h : errOk K C = true) : OwnErr K C := by
  unfold errOk at h
  simp only [Bool.and_eq_true] at h
  exact h.1.1.1.1.1.1.1.1
theorem kitx_err {K : PySem.W.Frag} {er C : Addr} (h : errOk K C = true) : PySem.W.KitX K (.ref er) (.ref C) (IsExc er C) := by
  unfold errOk at h
  simp only [Bool.and_eq_true, beq_iff_eq] at h
  obtain ⟨⟨⟨⟨⟨⟨⟨⟨_, ga⟩, gn⟩, be⟩, cl⟩, fa⟩, sn⟩, tk⟩, mo⟩ := h
  obtain ⟨cd, hc⟩ := Option.isSome_iff_exists.mp cl
  have there : ∃ o : Obj, K.lookup C = some o ∧ o.data = .cls cd := by
    unfold PySem.W.clsIn at hc
    split at hc
    · rename_i lk; cases hc; exact ⟨_, lk, rfl⟩
    · cases hc
  obtain ⟨o, lk, dt⟩ := there
  refine ⟨fun M h _ ⟨oe, i⟩ => i.type, fun M h X _ A Q E s k q => ?_, fun h tp dd its n sl X e => ?_, fun {prog w A E Q s} X ⟨oe, i⟩ q => ?_⟩
  · have g := k _ _ (X _ _ lk)
    obtain ⟨oc, od, oda, osl⟩ := o
    simp only at dt
    subst dt
    unfold isType loadHead
    exact wpAny_bind (wpAny_loadPart g (wpAny_pure q))
  · rw [Bool.eq_false_iff]
    intro z
    have ec : C = tp := Value.ref.inj (beq_iff_eq.mp z)
    subst ec
    have g := X _ _ lk
    rw [e] at g; cases g; cases dt
  · have hf : PySem.W.findObj K C none "__class__" = some (.bind (.builtin "getset_descriptor.__get__") (.builtin "object.__class__")) := by
      unfold PySem.W.findObj
      rw [hc, Option.bind_some, fa, Option.bind_some]
      simp [sn, tk]
    exact exc_class ga gn hf mo be X i q
noncomputable def tRaise (C : Addr) (Ex : XK) (ta : TA) : TS := fun _ σ H => ta σ H fun vs H1 => vs.length ≤ sizeLine ∧ Ex (.ref C) none H1
noncomputable def Made (X : Cx) (C : Addr) (Ex : XK) : Prop := ∀ (pins : List (Addr × Obj)) (σ : St) (H : Hp) (s : Shared) (h' : Heap) (er : Addr) (args : List Value), Inv X pins σ H s → Heap.MadeExcOf s.heap h' er (.ref C) args → Ex (.ref C) none H → X.xe (.ref er) { s with heap := h' }
theorem ps_raise {X : Cx} {C : Addr} {x : Str} {np cpos pos : Pos} {e : Expr} {es : List Expr} {ta : TA} {Ex : XK} (hc : X.calm = true) (hg : Gl X x) (hm : X.mg x = some (.ref C)) (hX : OwnErr X.K C) (ha : PA X (e :: es) ta) (hl : Made X C Ex)
    (hdb : autoParam ((x == ("__debug__" : Str)) = false) Internal.aut1._auto_1) (he : autoParam (starEach (e :: es) X.env = (false, eval e X.env) :: starEach es X.env) Internal.aut2._auto_1) (hpl : autoParam ((backTo cpos (starEach es X.env)).any (·.1) = false) Internal.aut2._auto_1) :
    PS X (.Raise (some (.Call (.Name x np) (e :: es) [] cpos)) none pos) (tRaise C Ex ta) := by
  intro pins s σ H D I h
  obtain ⟨bm, N, nm, qn, bs, hd, sn, sub, ab, col, dd, k0, k1, k2, k3, k5, mN, g1, g2, g3, g4⟩ := hX.obj I.ok.mod.kin
  have pl : (backTo cpos (starEach (e :: es) X.env)).any (·.1) = false := by rw [he]; exact hpl
  refine wpAny_Raise_call_subT PySem.F.excBase_ValueError (C := C) (nm := nm) (q := qn) (N := N) (bs := bs) (hdct := hd) (sn := sn) (sub := sub) (ab := ab) (col := col) (dd := dd) (k0 := k0) (k1 := k1) (k2 := k2) (k3 := k3) (k5 := k5) (g4.hasType (by decide)) (I.ok.hd hc) pl g3 (ld_glob I hg hm ⟨rfl, ?_⟩ hdb)
  have run := ha cpos pins s σ H _ I h
  rw [he] at run ⊢
  refine Calls.evalArgs_plain (wpAny_mono run (fun us s1 q => ?_) fun _ _ z => z)
  obtain ⟨vs, H1, I1, r, z, ex⟩ := q
  exact ⟨rfl, by rw [← r.length]; exact z, I1.bk _ _ g1, g2.keeps I1.bk, g4.keeps I1.bk, fun h' er mk => hl pins σ H1 s1 h' er us I1 mk ex⟩
theorem made_F {P : Program} {w : World} {K : PySem.W.Frag} {mg : Str → Option Value} {base : Heap} {N : List Str} {qual : Str} {scope : Scope} {f : Addr} {cd : Value} {A : Around} {outer : List Env} {s : Shared} {H : Hp} {E : XK} {C : Addr} :
    Made (cxOf (CXF P w) P w K mg base N qual scope f cd A outer s H E) C E := by
  intro pins σ H1 s1 h' er args I mk ex
  have fr := I.stack
  have hin : ∀ env ∈ (envOfC qual scope s.heap.objs.size f cd :: outer), ∀ b, env.frame = some b → b ∈ frs (envOfC qual scope s.heap.objs.size f cd :: outer) := fun env he b hb => List.mem_filterMap.mpr ⟨env, he, hb⟩
  have sb : ∀ b o, (PySem.W.hideAll s1.heap (frs (envOfC qual scope s.heap.objs.size f cd :: outer))).get? b = some o → s1.heap.get? b = some o := fun b o q => PySem.W.of_hideAll _ q
  have inB : ∀ b o, s1.heap.get? b = some o → b ∉ frs (envOfC qual scope s.heap.objs.size f cd :: outer) → (PySem.W.hideAll s1.heap (frs (envOfC qual scope s.heap.objs.size f cd :: outer))).get? b = some o := fun b o q n => PySem.W.hideAll_get _ q n
  have nfr : ∀ b o, s.heap.get? b = some o → b ∉ frs outer → b ∉ frs (envOfC qual scope s.heap.objs.size f cd :: outer) := fun b o q n z => by
    rcases List.mem_cons.mp (show b ∈ s.heap.objs.size :: frs outer from z) with z | z
    · exact Nat.ne_of_lt (Heap.lt_size q) z
    · exact n z
  have trkB : ∀ b o u, H1 b = some o → s1.heap.get? b = some u → (PySem.W.hideAll s1.heap (frs (envOfC qual scope s.heap.objs.size f cd :: outer))).get? b = some u := fun b o u q e => inB b u e fun z => by
    have := I.stkFree b z
    rw [q] at this; cases this
  show wpAny (model P w) (A.deeper (envOfC qual scope s.heap.objs.size f cd)) (leaving (envOfC qual scope s.heap.objs.size f cd) (.ref er)) _ _ _
  have b0 : Bare er { s1 with heap := h' } := by
    obtain ⟨t, e, _⟩ := mk.there
    exact ⟨_, (Heap.get?_some_iff.mp e).1, rfl⟩
  refine wpAny_mono (DK.any (E := fun _ _ => False) (Q := fun _ s'' => Bare er s'' → CXF P w outer H s E (.ref er) s'') (dk_leaving _ _) b0 ?_) (fun _ s'' q => q.1 q.2) fun _ _ q => q.1.elim
  refine wpAny_leaves_madeW (L := s.heap.objs.size) (base := PySem.W.hideAll s1.heap (frs (envOfC qual scope s.heap.objs.size f cd :: outer))) (h := s1.heap) I.ok.frames rfl sb (PySem.W.funFrames_hide fr hin) mk fun h'' t fly _ _ up b1 => ?_
  refine ⟨er, C, t, _, H1, rfl, ⟨I.os, I.bare, ⟨fun b o q n hb _ => ?_, fun b o q n hb _ => ?_, fun b o q n _ => I.base.free b o q n (by simp [cxOf]), fun b o q _ => ?_, I.base.tups, I.base.frzs, I.base.tbls⟩, ?_, fly, fun b o q n hb => ?_, fun b o q hb => ?_, ?_, b1⟩, ex⟩
  · exact fly.1 b o (inB b o (I.base.keep b o q n hb (by simp [cxOf])) (nfr b o q hb))
  · obtain ⟨sl, e1⟩ := I.base.slot b o q n hb (by simp [cxOf])
    obtain ⟨_, o1, e2, nf⟩ := I.ok.funs.mem hb
    have e3 : s.heap.get? b = some o1 := e2
    rw [q] at e3; cases e3
    obtain ⟨sl', e4⟩ := up b _ (mk.keeps b _ e1) nf
    exact ⟨sl', e4⟩
  · by_cases hb : b ∈ frs outer
    · obtain ⟨_, o1, e1, _⟩ := fly.2.2.1.mem hb
      exact ⟨o1, e1⟩
    · obtain ⟨o1, e1⟩ := I.base.there b o q (by simp [cxOf])
      exact ⟨o1, fly.1 b o1 (inB b o1 e1 (nfr b o q hb))⟩
  · intro a o e
    exact (I.hok a o e).stay (fun b u hb q => fly.1 b u (by
      rcases hb with rfl | hb
      · exact trkB b o u e q
      · exact trkB b _ u hb q)) (fun _ q => q) fun _ _ q => q
  · exact inB b o (I.base.keep b o q n hb (by simp [cxOf])) (nfr b o q hb)
  · obtain ⟨o1, e1⟩ := I.base.there b o q (by simp [cxOf])
    exact ⟨o1, inB b o1 e1 (nfr b o q hb)⟩
  · intro b o u q e
    obtain ⟨u1, e1⟩ := (I.hok b o q).obj
    have z := fly.1 b u1 (trkB b o u1 q e1)
    have e' : h''.get? b = some u := e
    rw [z] at e'; cases e'
    exact trkB b o _ q e1

noncomputable abbrev Cx.inH (X : Cx) (er : Addr) : Cx := { X with A := X.A.mark (some (.ref er)), calm := false, xe := fun _ _ => False }
theorem Cx.Ok.inH {X : Cx} (ok : X.Ok) (er : Addr) : (X.inH er).Ok :=
  ⟨ok.mod, ok.kind, ok.glob, ok.blt, ok.above, ok.inj, ok.has, ok.cab, fun z => (by cases z), ok.frames, ok.stk, ok.exf, ok.bs, ok.bsz, ok.noex, ok.exfs, ok.funs, ok.frf⟩
section
variable {X : Cx} {pins : List (Addr × Obj)} {σ : St} {H H' : Hp} {s s' : Shared}
theorem Inv.inH (I : Inv X pins σ H s) (er : Addr) : Inv (X.inH er) pins σ H s := ⟨I.ok.inH er, I.os, I.bare, I.base, I.loc, I.cell, I.free, I.freeC, I.pin, I.hok, I.len⟩
theorem Inv.outH {er : Addr} (ok : X.Ok) (I : Inv (X.inH er) pins σ H s) : Inv X pins σ H s := ⟨ok, I.os, I.bare, I.base, I.loc, I.cell, I.free, I.freeC, I.pin, I.hok, I.len⟩
theorem unbind_ok {i : Nat} {n : Str} {pos : Pos} {Q : Unit → Shared → Prop} {E : Value → Shared → Prop} (I : Inv X pins σ H s) (hN : X.N.Nodup) (hi : X.N[i]? = some n) (hl : X.env.kindOf n = some .local) (q : ∀ s2, Inv X pins (σ.set i none) H s2 → Q () s2) :
    wpAny (model X.prog X.w) X.A (do bindName X.env n .none; unbindBehindTheSuite X.env n pos) Q E s := by
  obtain ⟨m, hn, lk⟩ := id I.loc
  obtain ⟨oL, _, _, hoL, _⟩ := id hn
  refine wpAny_nameGoes_keeps hl hn (by rw [I.ok.kind]; rfl) fun h' v hn' hs => q _ ?_
  have nL : ∀ b o, X.s₀.heap.get? b = some o → b ≠ X.env.locals := fun b o e => Nat.ne_of_lt (Nat.lt_of_lt_of_le (Heap.lt_size e) I.ok.above)
  refine ⟨I.ok, I.os, I.bare, ⟨fun b o e n hb hx => (hs.2 b (nL b o e)).trans (I.base.keep b o e n hb hx), fun b o e n hb hx => ?_, I.base.free, fun b o e hx => ?_, I.base.tups, I.base.frzs, I.base.tbls⟩, ⟨_, hn', fun j y v' e1 e2 e3 => ?_⟩, fun y c e => ?_, I.free, I.freeC, fun p hp => ?_, fun b ob e => ?_, by rw [List.length_set]; exact I.len⟩
  · obtain ⟨sl, e1⟩ := I.base.slot b o e n hb hx
    exact ⟨sl, (hs.2 b (nL b o e)).trans e1⟩
  · obtain ⟨o', e1⟩ := I.base.there b o e hx
    exact ⟨o', (hs.2 b (nL b o e)).trans e1⟩
  · by_cases hj : j = i
    · subst hj
      have hlt : j < σ.length := by rw [I.len]; exact (List.getElem?_eq_some_iff.mp hi).1
      rw [List.getElem?_set_self hlt] at e2
      cases e2
    · rw [List.getElem?_set_ne (Ne.symm hj)] at e2
      obtain ⟨u, r, z⟩ := lk j y v' e1 e2 e3
      refine ⟨u, r, ?_⟩
      have ny : y ≠ n := fun z => hj (nodup_ix hN e1 (z ▸ hi))
      rcases z with ⟨k, e⟩ | ⟨k, c, e, z⟩
      · exact .inl ⟨k, by show (if y = n then v else m y) = some u; rw [if_neg ny]; exact e⟩
      · exact .inr ⟨k, c, e, z.sameBut hs (I.cne y c e)⟩
  · obtain ⟨u, z⟩ := I.cell y c e
    exact ⟨u, z.sameBut hs (I.cne y c e)⟩
  · obtain ⟨e, n, ne, nf, d⟩ := I.pin p hp
    exact ⟨(hs.2 p.1 ne).trans e, n, ne, nf, d⟩
  · refine (I.hok b ob e).stay (fun c u hc q => (hs.2 c ?_).trans q) (fun _ q => q) fun _ _ q => q
    rintro rfl
    rcases hc with rfl | hc
    · have := I.free; rw [e] at this; cases this
    · have := I.free; rw [hc] at this; cases this
noncomputable def Ends.gone (D : Ends) (i : Nat) : Ends := ⟨fun σ H => D.nx (σ.set i none) H, D.rt, fun σ H => D.bk (σ.set i none) H, fun σ H => D.ct (σ.set i none) H⟩
theorem SP.gone {i : Nat} {D : Ends} {f : Flow} {er : Addr} (ok : X.Ok) (h : SP (X.inH er) pins (D.gone i) f s) : ∃ σ' H', Inv X pins σ' H' s ∧ ∀ s2, Inv X pins (σ'.set i none) H' s2 → SP X pins D f s2 := by
  cases f with
  | next => obtain ⟨σ', H', I, q⟩ := h; exact ⟨σ', H', I.outH ok, fun s2 J => ⟨_, _, J, q⟩⟩
  | brk => obtain ⟨σ', H', I, q⟩ := h; exact ⟨σ', H', I.outH ok, fun s2 J => ⟨_, _, J, q⟩⟩
  | cont => obtain ⟨σ', H', I, q⟩ := h; exact ⟨σ', H', I.outH ok, fun s2 J => ⟨_, _, J, q⟩⟩
  | ret u => obtain ⟨v, σ', H', I, r, q⟩ := h; exact ⟨σ', H', I.outH ok, fun s2 J => ⟨v, _, _, J, r, q⟩⟩
theorem taken {er C CQ t : Addr} {B : Heap} {qn n : Str} {qp hp : Pos} {b0 : Stmt} {suite : List Stmt} {rest : List ExceptHandler} {i : Nat} {th : TS} {D : Ends} (hst : X.stack = X.env :: X.outer ∧ X.env.frame = some X.env.locals) (I : Inv X pins σ H s)
    (F : Fly X.prog X.w X.stack H s H' er C t B s') (hg : Gl X qn) (hm : X.mg qn = some (.ref CQ)) (hx : PySem.W.exmOne X.K (.ref C) (.ref CQ) = some true) (hN : X.N.Nodup) (hi : X.N[i]? = some n) (hl : X.env.kindOf n = some .local)
    (hth : PSs (X.inH er) (b0 :: suite) th) (q : th (D.gone i) (σ.set i (some (.ref er))) (upd H' er (ExcAt er C))) (hdb : (qn == ("__debug__" : Str)) = false) :
    wpAny (model X.prog X.w) X.A (noteFrame (.ref er) X.env) (fun _ s₂ => wpAny (model X.prog X.w) X.A (setFlight (.ref er) none) (fun _ s₃ =>
      wpAny (model X.prog X.w) X.A (handleBy (.ref er) X.env (.ExceptHandler (some (.Name qn qp)) (some n) (b0 :: suite) hp :: rest)) (SP X pins D) X.xe s₃) X.xe s₂) X.xe s' := by
  have hfr : X.A.frames = some (X.env :: X.outer) := by rw [I.ok.frames, hst.1]
  have fly0 : Heap.FlyingW B (X.env :: X.outer) er (.ref C) (.ref t) s'.heap := hst.1 ▸ F.fly
  have at' : ∀ {h : Heap}, B.StaysIn h → s'.heap.UpToSlots h → ∀ tk, Inv X pins σ H' { s' with heap := h, toks := tk } := fun {h} st up tk =>
    I.call' (s' := { s' with heap := h, toks := tk }) (ch := []) F.os (F.unAt I.stack st up) (F.hokAt st) F.bare fun _ z => nomatch z
  refine wpAny_mono (DK.any (E := fun _ _ => False) (Q := fun _ s2 => Bare er s2 → _) (dk_note _ _) F.nod (wpAny_looks_onW hfr hst.2 fly0 fun h4 held up4 b4 => ?_)) (fun _ s2 q => q.1 q.2) fun _ _ q => q.1.elim
  refine wpAny_mono (DK.any (E := fun _ _ => False) (Q := fun _ s2 => Bare er s2 → _) (dk_setFlight _ _) b4 (wpAny_landsW held fun h5 fly5 up5 b5 => ?_)) (fun _ s2 q => q.1 q.2) fun _ _ q => q.1.elim
  have up : s'.heap.UpToSlots h5 := up4.trans up5
  have J5 := (at' fly5.1 up s'.toks).inH er
  obtain ⟨ob, hob, hoc⟩ := fly5.there
  refine wpAny_handleBy_cons (codeAny_handlers_test (ld_glob (X := X.inH er) J5 hg hm ?_ hdb)) (by intro z; cases z)
  have LT : PySem.W.Looks (model X.prog X.w) h5 (typeOf (.ref er)) (.ref C) := hoc ▸ (PySem.W.Looks.ld hob).andThen .now
  refine (PySem.W.exm_one J5.kIn LT hx) _ _ _ _ (fun _ _ e => e) ?_
  show codeAny _ _ _ _ _
  refine codeAny_handlers_suite_as ?_
  refine wpAny_mono (DK.any (E := fun _ _ => False) (Q := fun _ s2 => Bare er s2 → _) (dk_setFlight _ _) b5 (lands_againW fly5 fun h6 fly6 up6 b6 => ?_)) (fun _ s2 q => q.1 q.2) fun _ _ q => q.1.elim
  have J6 := at' fly6.1 (up.trans up6) s'.toks
  have u6 : Un (frs X.stack) [] H (upd H' er (ExcAt er C)) s.heap h6 := F.unEr (F.unAt I.stack fly6.1 (up.trans up6))
  have K6 : Inv X pins σ (upd H' er (ExcAt er C)) { s' with heap := h6 } :=
    I.call' (s' := { s' with heap := h6 }) (ch := []) F.os u6 (hok_er (F.hokAt fly6.1) F.noTrk (isExc_of fly6 b6)) F.bare fun _ z => nomatch z
  refine store_ok (X := X.inH er) (i := i) (v := .ref er) (K6.inH er) hN hi (.inl hl) rfl (fun s7 J7 => ?_) (.inr hl)
  refine wpAny_mono (hth pins s7 _ _ _ J7 q) (fun fl s8 hs => ?_) fun _ _ z => z.elim
  obtain ⟨σ9, H9, I9, fin⟩ := SP.gone I.ok hs
  exact unbind_ok I9 hN hi hl fun s10 J10 => fin s10 J10
end

theorem Fun.okX {P : Program} {w : World} {K : PySem.W.Frag} {mg : Str → Option Value} {base : Heap} {CX : CXT} {x qual : Str} {st : Stmt} {f : Addr} {fd : FuncData} {N ps : List Str} {k : Nat} {sp : Sp} (F : Fun K x qual st f fd) (S : FnScope N ps (defScope st)) (len : ∀ vs H Q E, sp vs H Q E → vs.length = ps.length)
    (body : ∀ (cdv : Value) (A : Around) (outer : List Env) (s : Shared) (H : Hp) (vs : List V) (Q : VK) (E : XK), Room k (A.deeper (envOfC qual (defScope st) s.heap.objs.size f cdv)) → sp vs H Q E →
      ∃ t, PSs (cxOf CX P w K mg base N qual (defScope st) f cdv A outer s H E) (defBody st) t ∧ t { nx := fun _ H' => Q .non H', rt := Q } (start N vs) H) : FnOk P w K mg base CX (k + 1) f fd ps sp := by
  obtain ⟨oc, od, kV, doc, pm, an, cdv, ct, osl, rfl, lk, hcd⟩ := F.ex
  exact fn_of lk hcd S len fun A outer s H vs Q E hr hsp => body cdv A outer s H vs Q E hr hsp
noncomputable def tTryE (K : PySem.W.Frag) (CQ : Addr) (i : Nat) (sp : Sp) (ta : TA) (th : TS) : TS := fun D σ H => ta σ H fun vs H1 => sp vs H1 (fun _ H2 => D.nx σ H2) fun cls _ H2 =>
  ∃ C, cls = .ref C ∧ PySem.W.exmOne K (.ref C) (.ref CQ) = some true ∧ ∀ er, H2 er = none → th (D.gone i) (σ.set i (some (.ref er))) (upd H2 er (ExcAt er C))
theorem ps_tryE {X : Cx} {k : Nat} {f CQ : Addr} {fd : FuncData} {ps : List Str} {sp : Sp} {x qn n : Str} {p cp ep qp hp pos : Pos} {e : Expr} {es : List Expr} {ta : TA} {b0 : Stmt} {suite : List Stmt} {i : Nat} {th : TS}
    (hst : X.stack = X.env :: X.outer ∧ X.env.frame = some X.env.locals) (F : FnOk X.prog X.w X.K X.mg X.base (CXF X.prog X.w) k f fd ps sp) (hr : Room k X.A) (hgf : Gl X x) (hmf : X.mg x = some (.ref f)) (hk : PySem.W.keepIn X.K (.ref f) = true) (hb : Binds X.K fd ps [])
    (ha : PA X.nox (e :: es) ta) (hg : Gl X qn) (hm : X.mg qn = some (.ref CQ)) (hN : X.N.Nodup) (hi : X.N[i]? = some n) (hl : X.env.kindOf n = some .local) (hth : ∀ er, PSs (X.inH er) (b0 :: suite) th)
    (hdf : autoParam ((x == ("__debug__" : Str)) = false) Internal.aut1._auto_1) (hdb : autoParam ((qn == ("__debug__" : Str)) = false) Internal.aut1._auto_1) (he : autoParam (starEach (e :: es) X.env = (false, eval e X.env) :: starEach es X.env) Internal.aut2._auto_1) (hpl : autoParam ((backTo cp (starEach es X.env)).any (·.1) = false) Internal.aut2._auto_1)
    (hsw : autoParam (swapsWith (.Call (.Name x p) (e :: es) [] cp) none ep.line X.env = pure false) Internal.aut2._auto_1) :
    PS X (.Try [.Expr (.Call (.Name x p) (e :: es) [] cp) ep] [.ExceptHandler (some (.Name qn qp)) (some n) (b0 :: suite) hp] [] [] pos) (tTryE X.K CQ i sp ta th) := by
  intro pins s σ H D I h
  refine wpAny_Try_except (wpAny_execs_cons (wpAny_Expr_any ?_ I.quiet hsw))
  refine wpAny_Call_Name_kw (ld_glob I hgf hmf ?_ hdf)
  refine PySem.W.callWith_K (h₀ := X.base) I.ok.mod.kin hk (wpAny_mono (ha cp pins s σ H _ (I.wish _) h) (fun us s1 q => ?_) fun _ _ z => z.elim) he hpl
  obtain ⟨vs, H1, J1, r, q⟩ := q
  have I1 := J1.unwish
  refine ⟨I1.kIn, ?_⟩
  have hlen : us.length = ps.length := by rw [← r.length]; exact F.len _ _ _ _ q
  have hbd := hb s1 us I1.kIn (by rw [List.append_nil]; exact hlen)
  rw [List.append_nil] at hbd
  refine wpAny_call (codeAny_mono (F.run X.A X.stack s1 H1 ⟨us, []⟩ us vs _ _ hr I1.env0 hbd r q) fun res s' hq => ?_)
  cases res with
  | error er0 =>
    obtain ⟨er, C, t, B, H2, rfl, fl, C', ec, hx, hh⟩ := hq
    cases ec
    exact taken hst I1 fl hg hm hx hN hi hl (hth er) (hh er fl.noTrk) hdb
  | ok fw =>
    cases fw with
    | ret u =>
      obtain ⟨v, H2, I2, _, q2⟩ := I1.after hq
      exact wpAny_execs_nil (wpAny_execs_nil ⟨σ, H2, I2, q2⟩)
    | next => exact hq.elim
    | brk => exact hq.elim
    | cont => exact hq.elim
noncomputable def rIsiU (K : PySem.W.Frag) : List V → Hp → VK → Prop := fun xs H Q => (∃ er C c cv b, xs = [.ref er, c] ∧ RelV c cv ∧ H er = some (ExcAt er C) ∧ errOk K C = true ∧ PySem.W.kitOne K (.ref C) cv = some b ∧ Q (.bl b) H) ∨ rIsi K xs H Q
theorem call_isiU {X : Cx} : CallR X (.builtin "isinstance") (rIsiU X.K) := by
  refine CallR.or ?_ call_isinst
  intro pins s σ H xs us Q I r h
  obtain ⟨er, C, c, cv, b, rfl, rc, he, ok, hk, q⟩ := h
  obtain ⟨u, w', rfl, r1, r2⟩ := vals2 r
  obtain rfl : u = Value.ref er := r1
  have ie : IsExc er C s.heap := (I.hok er _ he).1
  have ec : w' = cv := by
    cases c with
    | ty n => exact (show w' = _ from r2).trans (show cv = _ from rc).symm
    | ref a => exact (show w' = _ from r2).trans (show cv = _ from rc).symm
    | non => exact (show w' = _ from r2).trans (show cv = _ from rc).symm
    | bl b => exact (show w' = _ from r2).trans (show cv = _ from rc).symm
    | _ => obtain ⟨_, rfl⟩ := rc; simp [PySem.W.kitOne, PySem.W.kitCls] at hk
  subst ec
  exact PySem.W.kia_one (kitx_err ok) I.kIn ie hk (by intro z; cases z) fun tk => ⟨.bl b, H, I.tok tk, rfl, q⟩
theorem x_isU {K : PySem.W.Frag} {xs : List V} {H : Hp} {Q : VK} (q : rIsi K xs H Q) : rIsiU K xs H Q := .inr q
theorem x_isE {K : PySem.W.Frag} {H : Hp} {Q : VK} {er C : Addr} {c : V} {cv : Value} {b : Bool} (h : H er = some (ExcAt er C)) (ok : errOk K C = true) (rc : RelV c cv) (e : PySem.W.kitOne K (.ref C) cv = some b) (q : Q (.bl b) H) : rIsiU K [.ref er, c] H Q := .inl ⟨er, C, c, cv, b, rfl, rc, h, ok, e, q⟩
theorem x_raise {C : Addr} {Ex : XK} {ta : TA} {D : Ends} {σ : St} {H : Hp} (q : ta σ H fun vs H1 => vs.length ≤ sizeLine ∧ Ex (.ref C) none H1) : tRaise C Ex ta D σ H := q
theorem x_tryE {K : PySem.W.Frag} {CQ : Addr} {i : Nat} {sp : Sp} {ta : TA} {th : TS} {D : Ends} {σ : St} {H : Hp} (q : ta σ H fun vs H1 => sp vs H1 (fun _ H2 => D.nx σ H2) fun cls _ H2 =>
  ∃ C, cls = .ref C ∧ PySem.W.exmOne K (.ref C) (.ref CQ) = some true ∧ ∀ er, H2 er = none → th (D.gone i) (σ.set i (some (.ref er))) (upd H2 er (ExcAt er C))) : tTryE K CQ i sp ta th D σ H := q
theorem x_catch {K : PySem.W.Frag} {C CQ : Addr} {th : TS} {D : Ends} {σ : St} {i : Nat} {H : Hp} (hx : PySem.W.exmOne K (.ref C) (.ref CQ) = some true) (q : ∀ er H', H er = none → Same H H' → H' er = some (ExcAt er C) → th D (σ.set i (some (.ref er))) H') :
    ∃ C', Value.ref C = Value.ref C' ∧ PySem.W.exmOne K (.ref C') (.ref CQ) = some true ∧ ∀ er, H er = none → th D (σ.set i (some (.ref er))) (upd H er (ExcAt er C')) := ⟨C, rfl, hx, fun er hn => q er _ hn (Same.new hn _) upd_same⟩
noncomputable def dTTF : PyData := .tuple [.bool true, .bool true, .bool false]
theorem rTTF {K : PySem.W.Frag} {H : Hp} {a : Addr} (h : H a = some (.tup [.bl true, .bl true, .bl false])) : RepD K H (.ref a) dTTF := .tup (.of h) (.cons (.bl _) (.cons (.bl _) (.cons (.bl _) .nil)))
theorem x_eqTTF {K : PySem.W.Frag} {H : Hp} {Q : VK} {a b : Addr} (h1 : H a = some (.tup [.bl true, .bl true, .bl false])) (h2 : H b = some (.tup [.bl true, .bl true, .bl false])) (q : Q (.bl true) H) : rEqU K (.ref a) (.ref b) H Q :=
  x_eqD (rTTF h1) (rTTF h2) (by decide) (by rw [show PyData.eqv dTTF dTTF = true from by simp [dTTF, PyData.eqv, PyData.eqvAll]]; exact q)
theorem cls_some {K : PySem.W.Frag} {D : Addr} (h : PySem.W.hasDictIn K D = true) : (PySem.W.clsIn K D).isSome = true := by
  obtain ⟨cd, e, _⟩ := PySem.W.any_some h
  rw [e]; rfl
theorem errOk_mk {K : PySem.W.Frag} {C : Addr} (x : PySem.W.excIn K C [.type "ValueError", .type "Exception", .type "BaseException", .type "object"] "ValueError.__new__" = true) (ga : PySem.W.findIn K (.ref C) "__getattribute__" = some (some (.builtin "BaseException.__getattribute__"))) (gn : PySem.W.findIn K (.ref C) "__getattr__" = some none) (be : PySem.W.mroIn K C (.type "BaseException") = some true) (hd : PySem.W.hasDictIn K C = true)
    (fa : PySem.W.findIn K (.ref C) "__class__" = some (some (.builtin "object.__class__"))) (sn : PySem.W.specialIn K (.builtin "object.__class__") "__get__" = some (some (.builtin "getset_descriptor.__get__"))) (tk : PySem.W.takesIn K (.builtin "object.__class__") = some true)
    (mo : PySem.W.mroIn K C (.type "object") = some true) : errOk K C = true := by
  unfold errOk bmV
  rw [x, ga, gn, be, cls_some hd, fa, sn, tk, mo]; simp
theorem kit_cls_of {K : PySem.W.Frag} {t : Value} {D : Addr} {b : Bool} (hd : PySem.W.hasDictIn K D = true) (ht : PySem.W.typeIn K (.ref D) = some (.type "type")) (hs : PySem.W.subIn K t (.ref D) = some b) : PySem.W.kitCls K t (.ref D) = some b := by
  unfold PySem.W.kitCls
  simp only
  rw [cls_some hd, ht, if_pos (by simp)]; exact hs
theorem kit_ne {K : PySem.W.Frag} {C D : Addr} {b : Bool} (h : C ≠ D) (hd : PySem.W.hasDictIn K D = true) (ht : PySem.W.typeIn K (.ref D) = some (.type "type")) (hs : PySem.W.subIn K (.ref C) (.ref D) = some b) : PySem.W.kitOne K (.ref C) (.ref D) = some b := by
  unfold PySem.W.kitOne
  rw [if_neg (by intro z; exact h (Value.ref.inj (beq_iff_eq.mp z)))]
  exact kit_cls_of hd ht hs
theorem kit_self {K : PySem.W.Frag} {C : Addr} : PySem.W.kitOne K (.ref C) (.ref C) = some true := by
  unfold PySem.W.kitOne
  rw [if_pos (by simp)]
theorem kit_V {K : PySem.W.Frag} {C : Addr} {b : Bool} (hs : PySem.W.subIn K (.ref C) (.type "ValueError") = some b) : PySem.W.kitOne K (.ref C) (.type "ValueError") = some b := by
  unfold PySem.W.kitOne
  rw [if_neg (by intro z; cases beq_iff_eq.mp z)]
  unfold PySem.W.kitCls
  simp only
  rw [if_pos (by decide +kernel)]; exact hs
theorem exm_mk {K : PySem.W.Frag} {C D : Addr} {b : Bool} (hq : PySem.W.subIn K (.ref D) (.type "BaseException") = some true) (hd : PySem.W.hasDictIn K D = true) (ht : PySem.W.typeIn K (.ref D) = some (.type "type")) (hs : PySem.W.subIn K (.ref C) (.ref D) = some b) : PySem.W.exmOne K (.ref C) (.ref D) = some b := by
  unfold PySem.W.exmOne
  rw [hq, if_pos (by simp)]
  exact kit_cls_of hd ht hs
end Internal

set_option Elab.async false
set_option linter.all false
set_option maxRecDepth 100000
namespace Internal
open PySem PySem.Spec PyProof.Rows
noncomputable abbrev TEr := St → Hp → VK → (Addr → Hp → Prop) → Prop
noncomputable abbrev TTr := Ends → (Addr → St → Hp → Prop) → St → Hp → Prop
section
variable {X : Cx} {pos : Pos}
noncomputable abbrev tExprR (te : TEr) : TTr := fun D Eh σ H => te σ H (fun _ H2 => D.nx σ H2) fun C H2 => Eh C σ H2
noncomputable abbrev tIfR (c : TT) (t u : TTr) : TTr := fun D Eh σ H => c σ H fun b H1 => if b = true then t D Eh σ H1 else u D Eh σ H1
noncomputable abbrev tNilR : TTr := fun D _ σ H => D.nx σ H
end
section
variable {σ : St} {H : Hp} {Q : VK} {D : Ends} {K : PySem.W.Frag} {Eh : Addr → Hp → Prop} {Eg : Addr → St → Hp → Prop}
end
end Internal

set_option Elab.async false
set_option linter.all false
set_option maxRecDepth 100000
namespace Internal
open PySem PySem.Spec PyProof.Rows
section
variable {X : Cx} {pins : List (Addr × Obj)} {σ : St} {H : Hp} {s : Shared} {h' : Heap}
theorem Inv.turnedL {t' : Nat} {fp : List Addr} (I : Inv X pins σ H s) (k : ∀ b o, b ∉ fp → s.heap.get? b = some o → h'.get? b = some o) (f : ∀ b ∈ fp, FpOk X pins H b) : Inv X pins σ H { s with heap := h', toks := t' } := by
  have nit : ∀ b u, H b = some u → b ∉ fp := fun b u e z => by rw [(f b z).1] at e; cases e
  refine I.step (g' := s.gens) (d' := s.drawn) (ch := fp) (fun b hb => ⟨(f b hb).2.2.2.1, (f b hb).2.1, (f b hb).2.2.2.2.1, (f b hb).2.2.2.2.2⟩) (fun b o _ _ hc e _ => k b o hc e) (fun b o _ _ hc e _ => ⟨o.slots, k b o hc e⟩) (fun _ _ _ _ n => n)
    (fun b o hc e => ⟨o, k b o hc e⟩) (fun _ _ e => e) (fun _ _ _ e => e) (fun b ps e => ⟨#[], by rw [e]; simp⟩) (fun m hm => ?_) (fun b u e => ?_) I.bare
  · obtain ⟨o, es, ep, ho, r⟩ := hm
    exact ⟨o, es, ep, k _ o (fun z => (f _ z).2.1 rfl) ho, r⟩
  · refine (I.hok b u e).stay (fun c v hc q => k c v ?_ q) (fun _ q => q) fun _ _ q => q
    rcases hc with z | z
    · rw [z]; exact nit b u e
    · exact nit c _ z
theorem Inv.turnedNew {t' : Nat} {fp : List Addr} {p : Addr} {o : HO} (I : Inv X pins σ H s) (k : ∀ b o, b ∉ fp → s.heap.get? b = some o → h'.get? b = some o) (f : ∀ b ∈ fp, FpOk X pins H b) (hp : s.heap.objs.size ≤ p) (new : ObjOk X.prog X.w (upd H p o) h' p o) :
    Inv X pins σ (upd H p o) { s with heap := h', toks := t' } := by
  have nit : ∀ b u, H b = some u → b ∉ fp := fun b u e z => by rw [(f b z).1] at e; cases e
  have hn : H p = none := I.hok.fresh hp
  refine I.step (g' := s.gens) (d' := s.drawn) (ch := fp) (fun b hb => ⟨(f b hb).2.2.2.1, (f b hb).2.1, (f b hb).2.2.2.2.1, (f b hb).2.2.2.2.2⟩) (fun b o _ _ hc e _ => k b o hc e) (fun b o _ _ hc e _ => ⟨o.slots, k b o hc e⟩) (fun b u _ e n => ?_)
    (fun b o hc e => ⟨o, k b o hc e⟩) (fun b xs e => by rw [upd_ne (ne_of_none e hn)]; exact e) (fun b u v e => by rw [upd_ne (ne_of_none e hn)]; exact e) (fun b ps e => ⟨#[], by rw [upd_ne (ne_of_none e hn), e]; simp⟩) (fun m hm => ?_) (fun b u e => ?_) I.bare
  · rw [upd_ne (Nat.ne_of_lt (Nat.lt_of_lt_of_le (Heap.lt_size e) hp))]; exact n
  · obtain ⟨o, es, ep, ho, r⟩ := hm
    exact ⟨o, es, ep, k _ o (fun z => (f _ z).2.1 rfl) ho, r⟩
  · by_cases hb : b = p
    · subst hb; rw [upd_same] at e; cases e; exact new
    · rw [upd_ne hb] at e
      refine (I.hok b u e).stay (fun c v hc q => k c v ?_ q) (fun c q => by rw [upd_ne (ne_of_none q hn)]; exact q) fun c xs q => by rw [upd_ne (ne_of_none q hn)]; exact q
      rcases hc with z | z
      · rw [z]; exact nit b u e
      · exact nit c _ z
end
theorem tup2 {P : Program} {w : World} {H : Hp} {h : Heap} {p : Addr} {x y : V} {u v : Value} (e : h.get? p = some { cls := .type "tuple", data := .seq #[u, v] }) (r1 : RelV x u) (r2 : RelV y v) : ObjOk P w H h p (.tup [x, y]) :=
  ⟨small_le (by simp), [u, v], .cons r1 (.cons r2 .nil), _, e, rfl, _, rfl⟩
noncomputable def Itn (K : PySem.W.Frag) (a : Addr) : It :=
  ⟨fun i H => ∃ xs x, SqL K H a xs ∧ xs[i]? = some x, fun i H v H' => ∃ p x, H p = none ∧ v = .ref p ∧ (∀ xs, SqL K H a xs → xs[i]? = some x) ∧ H' = upd H p (.tup [.int i, x]), fun i H => ∃ xs, SqL K H a xs ∧ xs.length ≤ i⟩
theorem turn_enum {P : Program} {w : World} {K : PySem.W.Frag} {es : List Expr} {kx : Nat} {tp : Pos} (a e it : Addr) (hne : e ≠ it) : Turn P w K (.Tuple es kx tp) (Itn K a) [e, it] e (fun i h => (∃ old, IsEnum h e it i old) ∧ h.IsListIter it a i) where
  mem := by simp
  obj := fun i h st b hb => by
    obtain ⟨⟨old, h1⟩, o, h2, c, d⟩ := st
    rcases List.mem_cons.mp hb with z | z
    · subst z; exact ⟨_, h1, fun v z => by cases z⟩
    · have e : b = it := by simpa using z
      subst e
      exact ⟨o, h2, fun v z => by rw [d] at z; cases z⟩
  keep := fun i h h' st k => by
    obtain ⟨⟨old, h1⟩, h2⟩ := st
    exact ⟨⟨old, k e (by simp) _ h1⟩, h2.at fun o q => k it (by simp) o q⟩
  item := by
    intro X hP hw hK hc i pins s σ H E I hf st hg
    subst hP hw hK
    obtain ⟨⟨old, he⟩, hit⟩ := st
    obtain ⟨xs, x, hq, hx⟩ := hg
    obtain ⟨its, rv, p, hz⟩ := I.list hq
    obtain ⟨u, hu, ru⟩ := rv.get hx
    refine wpAny_pyNext_enum_item he hit p.isList (x := u) (by simpa using hu) hne fun h1 eo it1 tp1 sz1 k1 => ?_
    refine ⟨_, rfl, wpAny_letOwnedTupleGo_enum eo fun h2 e2 sb2 => ?_⟩
    have hes : e ≠ s.heap.objs.size := Nat.ne_of_lt (Heap.lt_size he)
    have sb2' : Heap.SameBut e h1 h2 := sb2
    have t2 : h2.get? s.heap.objs.size = some { cls := .type "tuple", data := .seq #[.int i s.toks, u] } := (sb2'.2 _ (Ne.symm hes)).trans tp1
    have k2 : ∀ b o, b ∉ [e, it] → s.heap.get? b = some o → h2.get? b = some o := fun b o hb q => by
      have n1 : b ≠ e := fun z => hb (by simp [z])
      have n2 : b ≠ it := fun z => hb (by simp [z])
      exact (sb2'.2 b n1).trans (k1 b o n1 n2 q)
    have I2 : Inv X pins σ (upd H s.heap.objs.size (.tup [.int i, x])) { s with heap := h2, toks := s.toks + 1 } := I.turnedNew k2 hf (Nat.le_refl _) (tup2 t2 ⟨_, rfl⟩ ru)
    have hn : H s.heap.objs.size = none := I.hok.fresh (Nat.le_refl _)
    refine ⟨.ref s.heap.objs.size, _, I2, rfl, ⟨_, x, hn, rfl, fun ys hy => by rw [I.list_inj hy hq]; exact hx, rfl⟩, ⟨⟨_, e2⟩, it1.at fun o q => (sb2'.2 it (Ne.symm hne)).trans q⟩, fun b hb => ?_⟩
    have hbs : b ≠ s.heap.objs.size := by
      rcases List.mem_cons.mp hb with z | z
      · rw [z]; exact hes
      · have e : b = it := by simpa using z
        subst e
        obtain ⟨o, q, _⟩ := hit
        exact Nat.ne_of_lt (Heap.lt_size q)
    rw [upd_ne hbs]
    exact (hf b hb).1
  done := by
    intro X hP hw hK hc i pins s σ H E I hf st hg
    subst hP hw hK
    obtain ⟨⟨old, he⟩, hit⟩ := st
    obtain ⟨xs, hq, hx⟩ := hg
    obtain ⟨its, rv, p, hz⟩ := I.list hq
    have hl := rv.length
    refine wpAny_pyNext_enum_end (I.ok.hd hc) he hit p.isList (by simp; omega) fun h1 eb => ⟨rfl, I.turnedL (t' := s.toks) (fp := [e, it]) (fun b o hb q => eb b o (fun z => hb (by simp [z])) q) hf⟩
  self := fun _ _ _ _ _ st h => by
    obtain ⟨⟨old, he⟩, _⟩ := st
    exact wpAny_pyIter_enum he h
noncomputable def Itz (K : PySem.W.Frag) (a b : Addr) : It :=
  ⟨fun i H => ∃ xs ys x y, SqL K H a xs ∧ SqL K H b ys ∧ xs[i]? = some x ∧ ys[i]? = some y, fun i H v H' => ∃ p x y, H p = none ∧ v = .ref p ∧ (∀ xs, SqL K H a xs → xs[i]? = some x) ∧ (∀ ys, SqL K H b ys → ys[i]? = some y) ∧ H' = upd H p (.tup [x, y]),
    fun i H => ∃ xs ys, SqL K H a xs ∧ SqL K H b ys ∧ (xs.length ≤ i ∨ ys.length ≤ i)⟩
section
variable {X : Cx} {es : List Expr} {kx : Nat} {tp : Pos}
noncomputable def rEnum (K : PySem.W.Frag) (R : It → Hp → Prop) (vs : List V) (H : Hp) : Prop := ∃ a, vs = [.ref a] ∧ (∃ xs, SqL K H a xs) ∧ R (Itn K a) H
noncomputable def rZip (K : PySem.W.Frag) (R : It → Hp → Prop) (vs : List V) (H : Hp) : Prop := ∃ a b, vs = [.ref a, .ref b] ∧ (∃ xs, SqL K H a xs) ∧ (∃ ys, SqL K H b ys) ∧ R (Itz K a b) H
noncomputable abbrev iEnum (K : PySem.W.Frag) (ta : TA) : TI := fun σ H R => ta σ H (rEnum K R)
noncomputable abbrev iZip (K : PySem.W.Frag) (ta : TA) : TI := fun σ H R => ta σ H (rZip K R)
theorem pi_enum {a : Expr} {ta : TA} {p pos : Pos} (hg : Gl X "enumerate") (hm : X.mg "enumerate" = none) (ha : PA X [a] ta) (hs : autoParam (starEach [a] X.env = [(false, eval a X.env)]) Internal.aut2._auto_1) : PI X (.Tuple es kx tp) (.Call (.Name "enumerate" p) [a] [] pos) (iEnum X.K ta) := by
  intro pins s σ H R I h
  refine Call_ (ld_blt I hg hm boot_enumerate (PyProof.Rows.callWith_type1 (thn (ha pos pins s σ H _ I h) fun us s1 ⟨vs, H1, I1, r1, q1⟩ => ?_) hs rfl))
  obtain ⟨l, e, ⟨xs, hq⟩, q⟩ := q1
  subst e
  obtain ⟨u, rfl, r⟩ := vals1 r1
  cases r
  obtain ⟨its, rv, pl, hz⟩ := I1.list hq
  refine call_enumerate_list pl.isList fun h1 e1 i1 sz1 k1 => ?_
  refine wpAny_pyIter_enum e1 ?_
  have I2 : Inv X pins σ H1 { s1 with heap := h1, toks := s1.toks } := I1.kept k1
  refine ⟨s1.heap.objs.size + 1, [s1.heap.objs.size + 1, s1.heap.objs.size], _, _, H1, rfl, I2, turn_enum l _ _ (Nat.succ_ne_self _), ⟨⟨_, e1⟩, i1⟩, fun b hb => ?_, q⟩
  have hb' : s1.heap.objs.size ≤ b := by
    simp only [List.mem_cons, List.not_mem_nil, or_false] at hb
    rcases hb with rfl | rfl <;> omega
  exact I1.fpOk hb' (I1.hok.fresh hb')
end
section
variable {X : Cx}
theorem Inv.walk {pins : List (Addr × Obj)} {σ : St} {H : Hp} {s : Shared} {a : Addr} {xs : List V} (I : Inv X pins σ H s) (hq : SqL X.K H a xs) : ∃ its : List Value, Vals xs its ∧ s.heap.IsList a its.toArray ∧ its.length = xs.length ∧ a < s.heap.objs.size := by
  obtain ⟨its, rv, pl, hz⟩ := I.list hq
  obtain ⟨o, e, _⟩ := id pl.isList
  exact ⟨its, rv, pl.isList, rv.length.symm, Heap.lt_size e⟩
end
end Internal

set_option Elab.async false
set_option linter.all false
set_option maxRecDepth 100000
namespace Internal
open PySem PySem.Spec PyProof.Rows
section
variable {X : Cx}
end
noncomputable def Src (J : It) (P : Hp → Prop) (n : Nat) (Y : Nat → V → Hp → Prop) : Prop :=
  (∀ i H, P H → i < n → J.go i H) ∧ (∀ H, P H → J.stop n H) ∧ ∀ i H x H', P H → i < n → J.yld i H x H' → Same H H' ∧ Y i x H'
theorem lt_some {α : Type} {xs : List α} {i : Nat} (h : i < xs.length) : ∃ x, xs[i]? = some x := ⟨xs[i], by simp [h]⟩
theorem src_list {K : PySem.W.Frag} {a : Addr} {xs : List V} : Src (Itl K a) (fun H => SqL K H a xs) xs.length (fun i x _ => xs[i]? = some x) :=
  ⟨fun i H h hi => by obtain ⟨x, hx⟩ := lt_some hi; exact ⟨xs, x, h, hx⟩, fun H h => ⟨xs, h, Nat.le_refl _⟩, fun i H x H' h hi ⟨q, r⟩ => by subst q; exact ⟨Same.refl _, r xs h⟩⟩
theorem src_range {lo : Int} {n : Nat} : Src (Itr lo n) (fun _ => True) n (fun i x _ => x = .int (lo + i)) :=
  ⟨fun i H e hi => hi, fun H e => Nat.le_refl _, fun i H x H' e hi ⟨q, r⟩ => by subst q; exact ⟨Same.refl _, r⟩⟩
theorem src_enum {K : PySem.W.Frag} {a : Addr} {xs : List V} : Src (Itn K a) (fun H => SqL K H a xs) xs.length (fun i x H => ∃ p v, x = .ref p ∧ xs[i]? = some v ∧ H p = some (.tup [.int i, v])) :=
  ⟨fun i H h hi => by obtain ⟨x, hx⟩ := lt_some hi; exact ⟨xs, x, h, hx⟩, fun H h => ⟨xs, h, Nat.le_refl _⟩, fun i H x H' h hi ⟨p, v, hp, q, r, z⟩ => by subst z; exact ⟨Same.new hp _, p, v, q, r xs h, upd_same⟩⟩
section
variable {σ : St} {H : Hp} {Q : VK} {D : Ends} {ta tb tc te to ti : TE} {t u : TS} {K : PySem.W.Frag}
theorem x_forS {J : It} {P : Hp → Prop} {n : Nat} {Y : Nat → V → Hp → Prop} {g : TG} {tb : TS} (S : Src J P n Y) (Pv : Nat → St → Hp → Prop) (h0 : Pv 0 σ H) (hk : ∀ i σ H, Pv i σ H → P H)
    (hs : ∀ i x σ H H', i < n → Pv i σ H → Same H H' → Y i x H' → g x σ H' fun σ2 H2 => tb { D with nx := Pv (i + 1), ct := Pv (i + 1), bk := D.nx } σ2 H2) (hd : ∀ σ H, Pv n σ H → D.nx σ H) : ForK J g tb D σ H := by
  refine ⟨fun i m σ H => m = n - i ∧ i ≤ n ∧ Pv i σ H, ⟨n, by simp, Nat.zero_le _, h0⟩, ?_⟩
  rintro i m σ H ⟨rfl, hi, p⟩
  by_cases hlt : i < n
  · refine .inr ⟨S.1 i H (hk i σ H p) hlt, Pv (i + 1), fun σ' H' q => ⟨n - (i + 1), by omega, rfl, hlt, q⟩, fun x H' y => ?_⟩
    obtain ⟨e, y'⟩ := S.2.2 i H x H' (hk i σ H p) hlt y
    exact hs i x σ H H' hlt p e y'
  · have : i = n := by omega
    subst this
    exact .inl ⟨S.2.1 H (hk i σ H p), hd σ H p⟩
noncomputable def CompK (J : It) (caps : List (Option Nat)) (g : TG) (tf : TT) (te : TE) (σ : St) (Q : VK) (H1 : Hp) : Prop := ∀ D, H1 D = none →
  ∃ W : Nat → Nat → St → Hp → Prop, (∃ m, W 0 m (capSt caps σ) (upd H1 D (.lst []))) ∧ ∀ i m σ' H', W i m σ' H' →
    (J.stop i H' ∧ Q (.ref D) H') ∨ (J.go i H' ∧ ∃ N : St → Hp → Prop, (∀ σ2 H2, N σ2 H2 → ∃ m', m' < m ∧ W (i + 1) m' σ2 H2) ∧
      ∀ x H2, J.yld i H' x H2 → g x σ' H2 fun σ1 H3 => tf σ1 H3 fun b H4 => if b = true then te σ1 H4 fun v H5 => rAppend (.ref D) [v] H5 fun _ H6 => N σ1 H6 else N σ1 H4)
theorem x_comp {wi : TI} {caps : List (Option Nat)} {g : TG} {tf : TT} {te : TE} (q : wi σ H fun J H1 => CompK J caps g tf te σ Q H1) : tComp wi caps g tf te σ H Q := q
noncomputable def CompN (H : Hp) (Sv : St → Prop) (Pv : Nat → List V → Hp → Prop) (D : Addr) (i : Nat) (σ' : St) (H' : Hp) : Prop := Sv σ' ∧ Same H H' ∧ ∃ vs, H' D = some (.lst vs) ∧ vs.length ≤ i ∧ Pv i vs H'
theorem x_compS {J : It} {P : Hp → Prop} {n : Nat} {Y : Nat → V → Hp → Prop} {caps : List (Option Nat)} {g : TG} {tf : TT} {te : TE} (S : Src J P n Y) (e0 : ∀ H', Same H H' → P H') (Sv : St → Prop) (Pv : Nat → List V → Hp → Prop) (hc : Sv (capSt caps σ)) (h0 : ∀ H', Same H H' → Pv 0 [] H')
    (hs : ∀ i x D vs σ' H' H2, i < n → H D = none → Sv σ' → Same H H' → H' D = some (.lst vs) → vs.length ≤ i → Pv i vs H' → Same H' H2 → Y i x H2 → g x σ' H2 fun σ1 H3 => tf σ1 H3 fun b H4 => if b = true then te σ1 H4 fun v H5 => rAppend (.ref D) [v] H5 fun _ H6 => CompN H Sv Pv D (i + 1) σ1 H6 else CompN H Sv Pv D (i + 1) σ1 H4)
    (hq : ∀ D H' vs, H D = none → Same H H' → H' D = some (.lst vs) → vs.length ≤ n → Pv n vs H' → Q (.ref D) H') : CompK J caps g tf te σ Q H := by
  intro D hD
  refine ⟨fun i m σ' H' => m = n - i ∧ i ≤ n ∧ CompN H Sv Pv D i σ' H', ⟨n, by simp, Nat.zero_le _, hc, Same.new hD _, [], upd_same, Nat.le_refl _, h0 _ (Same.new hD _)⟩, ?_⟩
  rintro i m σ' H' ⟨rfl, hi, sv, e, vs, hv, hl, p⟩
  by_cases hlt : i < n
  · refine .inr ⟨S.1 i H' (e0 _ e) hlt, CompN H Sv Pv D (i + 1), fun σ2 H2 q => ⟨n - (i + 1), by omega, rfl, hlt, q⟩, fun x H2 y => ?_⟩
    obtain ⟨e', y'⟩ := S.2.2 i H' x H2 (e0 _ e) hlt y
    exact hs i x D vs σ' H' H2 hlt hD sv e hv hl p e' y'
  · have : i = n := by omega
    subst this
    exact .inl ⟨S.2.1 H' (e0 _ e), hq D H' vs hD e hv hl p⟩
theorem x_compS1 {J : It} {P : Hp → Prop} {n : Nat} {Y : Nat → V → Hp → Prop} {caps : List (Option Nat)} {g : TG} {tf : TT} {te : TE} {rest : St} (S : Src J P n Y) (e0 : ∀ H', Same H H' → P H') (hc : capSt caps σ = none :: rest) (Pv : Nat → List V → Hp → Prop) (h0 : ∀ H', Same H H' → Pv 0 [] H')
    (hs : ∀ i x D vs o H' H2, i < n → H D = none → Same H H' → H' D = some (.lst vs) → vs.length ≤ i → Pv i vs H' → Same H' H2 → Y i x H2 → g x (o :: rest) H2 fun σ1 H3 => tf σ1 H3 fun b H4 => if b = true then te σ1 H4 fun v H5 => rAppend (.ref D) [v] H5 fun _ H6 => CompN H (fun σ' => ∃ o, σ' = o :: rest) Pv D (i + 1) σ1 H6 else CompN H (fun σ' => ∃ o, σ' = o :: rest) Pv D (i + 1) σ1 H4)
    (hq : ∀ D H' vs, H D = none → Same H H' → H' D = some (.lst vs) → vs.length ≤ n → Pv n vs H' → Q (.ref D) H') : CompK J caps g tf te σ Q H :=
  x_compS S e0 (fun σ' => ∃ o, σ' = o :: rest) Pv ⟨_, hc⟩ h0 (fun i x D vs σ' H' H2 a1 a2 ⟨o, a3⟩ a4 a5 a6 a7 a8 a9 => by subst a3; exact hs i x D vs o H' H2 a1 a2 a4 a5 a6 a7 a8 a9) hq
theorem x_enumk {R : It → Hp → Prop} {a : Addr} {xs : List V} (h : SqL K H a xs) (q : R (Itn K a) H) : rEnum K R [.ref a] H := ⟨a, rfl, ⟨xs, h⟩, q⟩
theorem x_gTup {a : Addr} {xs : List V} {n : Nat} {t : TGs} {R : St → Hp → Prop} (h : H a = some (.tup xs)) (hn : xs.length = n) (q : t xs σ H R) : gTup K n t (.ref a) σ H R := ⟨a, xs, rfl, SqT.of h, hn, q⟩
theorem x_gCons {v : V} {r : List V} {t : TG} {u : TGs} {R : St → Hp → Prop} (q : t v σ H fun σ' H' => u r σ' H' R) : gCons t u (v :: r) σ H R := ⟨v, r, rfl, q⟩
theorem x_gNil {R : St → Hp → Prop} (q : R σ H) : gNil [] σ H R := ⟨rfl, q⟩
theorem x_rep0 {l : Addr} {x : V} {k : Int} (h : H l = some (.lst [x])) (h0 : 0 ≤ k) (h1 : k ≤ 100000) (q : ∀ p H', H p = none → Same H H' → H' p = some (.lst (List.replicate k.toNat x)) → Q (.ref p) H') : rMulU (.ref l) (.int k) H Q :=
  .inr ⟨l, k, [x], rfl, rfl, h, by omega, by omega, by have := small_le (n := k.toNat) (by omega); simpa using this, fun p hp => by
    have e : (List.replicate k.toNat [x]).flatten = List.replicate k.toNat x := by
      generalize k.toNat = n
      induction n with
      | zero => rfl
      | succ n ih => rw [List.replicate_succ, List.flatten_cons, ih, List.replicate_succ]; rfl
    rw [e]
    exact q p _ hp (Same.new hp _) upd_same⟩
theorem x_catN {l b : Addr} {xs zs : List V} (h : H l = some (.lst xs)) (h' : H b = some (.lst zs)) (hz : xs.length + zs.length ≤ 100000) (q : ∀ p H', H p = none → Same H H' → H' p = some (.lst (xs ++ zs)) → Q (.ref p) H') : rAddU K (.ref l) (.ref b) H Q :=
  .inr (.inl ⟨l, b, xs, zs, rfl, rfl, h, h', small_le hz, fun p hp => q p _ hp (Same.new hp _) upd_same⟩)
end
theorem x_iteZ {p : Prop} [Decidable p] {A B : Prop} (h : ¬ p) (b : B) : if decide p = true then A else B := by rw [decide_eq_false h]; exact x_iteF b
theorem x_iteNY {p : Prop} [Decidable p] {A B : Prop} (h : p) (b : B) : if (!decide p) = true then A else B := by rw [decide_eq_true h]; exact x_iteF b
section
variable {α : Type} {f : α → List V}
noncomputable def IsTs (f : α → List V) (H : Hp) : List V → List α → Prop
  | [], [] => True
  | v :: vs, x :: xs => (∃ a, v = .ref a ∧ H a = some (.tup (f x))) ∧ IsTs f H vs xs
  | _, _ => False
noncomputable def Tups (H H' : Hp) : Prop := ∀ a xs, H a = some (.tup xs) → H' a = some (.tup xs)
theorem Same.tups {H H' : Hp} (e : Same H H') : Tups H H' := fun a xs h => e a _ h
theorem LBut.tups {l : Addr} {H H' : Hp} (e : LBut l H H') : Tups H H' := fun a xs h => e.tup h
theorem IsTs.keep {H H' : Hp} (e : Tups H H') : ∀ {vs : List V} {xs : List α}, IsTs f H vs xs → IsTs f H' vs xs
  | [], [], _ => trivial
  | _ :: _, _ :: _, ⟨⟨a, q, h⟩, r⟩ => ⟨⟨a, q, e a _ h⟩, r.keep e⟩
theorem IsTs.same {H H' : Hp} {vs : List V} {xs : List α} (h : IsTs f H vs xs) (e : Same H H') : IsTs f H' vs xs := h.keep e.tups
theorem Same.isTs {H H' : Hp} {vs : List V} {xs : List α} (e : Same H H') (h : IsTs f H vs xs) : IsTs f H' vs xs := h.keep e.tups
theorem LBut.isTs {l : Addr} {H H' : Hp} {vs : List V} {xs : List α} (e : LBut l H H') (h : IsTs f H vs xs) : IsTs f H' vs xs := h.keep e.tups
theorem IsTs.length {H : Hp} : ∀ {vs : List V} {xs : List α}, IsTs f H vs xs → vs.length = xs.length
  | [], [], _ => rfl
  | _ :: _, _ :: _, ⟨_, r⟩ => by rw [List.length_cons, List.length_cons, r.length]
theorem IsTs.app {H : Hp} {a : Addr} {x : α} (h : H a = some (.tup (f x))) : ∀ {vs : List V} {xs : List α}, IsTs f H vs xs → IsTs f H (vs ++ [.ref a]) (xs ++ [x])
  | [], [], _ => ⟨⟨a, rfl, h⟩, trivial⟩
  | _ :: _, _ :: _, ⟨q, r⟩ => ⟨q, r.app h⟩
theorem IsTs.cat {H : Hp} {ws : List V} {ys : List α} (h : IsTs f H ws ys) : ∀ {vs : List V} {xs : List α}, IsTs f H vs xs → IsTs f H (vs ++ ws) (xs ++ ys)
  | [], [], _ => h
  | _ :: _, _ :: _, ⟨q, r⟩ => ⟨q, IsTs.cat h r⟩
theorem IsTs.get {H : Hp} : ∀ {vs : List V} {xs : List α} {i : Nat} {v : V}, IsTs f H vs xs → vs[i]? = some v → ∃ a x, v = .ref a ∧ xs[i]? = some x ∧ H a = some (.tup (f x))
  | _ :: _, x :: _, 0, _, ⟨⟨a, q, h⟩, _⟩, e => by cases e; exact ⟨a, x, q, rfl, h⟩
  | _ :: _, _ :: _, i + 1, _, ⟨_, r⟩, e => by obtain ⟨a, x, q, e', h⟩ := r.get (i := i) e; exact ⟨a, x, q, e', h⟩
theorem IsTs.getI {H : Hp} {vs : List V} {xs : List α} {i : Nat} {x : α} (h : IsTs f H vs xs) (e : xs[i]? = some x) : ∃ a, vs[i]? = some (.ref a) ∧ H a = some (.tup (f x)) := by
  have hi : i < vs.length := by rw [h.length]; exact (List.getElem?_eq_some_iff.mp e).1
  obtain ⟨v, hv⟩ := lt_some hi
  obtain ⟨a, y, q, e', h'⟩ := h.get hv
  rw [e] at e'; cases e'
  exact ⟨a, by rw [hv, q], h'⟩
theorem IsTs.rep {K : PySem.W.Frag} {H : Hp} {d : α → List PyData} (hd : ∀ x, RepAll K H (f x) (d x)) : ∀ {vs : List V} {xs : List α}, IsTs f H vs xs → RepAll K H vs (xs.map fun x => .tuple (d x))
  | [], [], _ => .nil
  | _ :: _, _ :: _, ⟨⟨a, q, h⟩, r⟩ => by subst q; exact .cons (.tup (.of h) (hd _)) (r.rep hd)
end
noncomputable def vec (n : Nat) (f : Nat → Int) : List Int := (List.range n).map f
theorem vec_len {n : Nat} {f : Nat → Int} : (vec n f).length = n := by simp [vec]
theorem vec_congr {n : Nat} {f g : Nat → Int} (h : ∀ i, i < n → f i = g i) : vec n f = vec n g := by
  unfold vec; exact List.map_congr_left fun i hi => h i (List.mem_range.mp hi)
theorem rep_ints {K : PySem.W.Frag} {H : Hp} : ∀ ns : List Int, RepAll K H (ns.map V.int) (ns.map PyData.int)
  | [] => .nil
  | n :: ns => .cons (.int n) (rep_ints ns)
theorem depth_ints : ∀ ns : List Int, PyData.depthAll (ns.map PyData.int) = 0
  | [] => by simp [PyData.depthAll]
  | n :: ns => by rw [List.map_cons, PyData.depthAll, depth_ints ns]; simp [PyData.depth]
theorem lay_ints : ∀ ns : List Int, PyData.canLayAll0 (ns.map PyData.int) = true
  | [] => by simp [PyData.canLayAll0]
  | n :: ns => by rw [List.map_cons, PyData.canLayAll0, lay_ints ns]; simp [PyData.canLay0]
theorem depth_list {ds : List PyData} : (PyData.list ds).depth = PyData.depthAll ds + 1 := by simp [PyData.depth]; try omega
section
variable {H : Hp} {Q : VK} {K : PySem.W.Frag}
theorem eqv_intsT {ns ms : List Int} (h : ns = ms) : PyData.eqv (.list (ns.map PyData.int)) (.list (ms.map PyData.int)) = true := by
  subst h; exact PySem.SeqAt.eqv_refl _ (by rw [PyData.canLay0]; exact lay_ints ns)
theorem x_eqInts {a b : Addr} {ns ms : List Int} (h1 : SqL K H a (ns.map V.int)) (h2 : SqL K H b (ms.map V.int)) (e : ns = ms) (q : Q (.bl true) H) : rEqU K (.ref a) (.ref b) H Q :=
  x_eqD (.lst h1 (rep_ints ns)) (.lst h2 (rep_ints ms)) (by rw [depth_list, depth_ints]; omega) (by rw [eqv_intsT e]; exact q)
theorem x_neInts {a b : Addr} {ns ms : List Int} (h1 : SqL K H a (ns.map V.int)) (h2 : SqL K H b (ms.map V.int)) (e : ns = ms) (q : Q (.bl false) H) : rNeU K (.ref a) (.ref b) H Q :=
  x_neD (.lst h1 (rep_ints ns)) (.lst h2 (rep_ints ms)) (by rw [depth_list, depth_ints]; omega) (by rw [eqv_intsT e]; exact q)
end
end Internal

set_option Elab.async false
set_option linter.all false
set_option maxRecDepth 100000
namespace Internal
open PySem PySem.Spec PyProof.Rows
section
variable {σ : St} {H : Hp} {Q : VK} {D : Ends} {K : PySem.W.Frag}
theorem x_ixTs {a : Addr} {xs : List V} {i : Int} {v : V} (h : H a = some (.tup xs)) (e : atI xs i = some v) (q : Q v H) : rIx K (.ref a) (.int i) H Q := x_ixT (.of h) e q
end
noncomputable def NewL (H : Hp) (Q : VK) (ns : List Int) : Prop := ∀ p H', H p = none → Same H H' → H' p = some (.lst (ns.map V.int)) → Q (.ref p) H'
set_option genInjectivity false in
set_option genSizeOf false in
structure Due where
  p : Int
  q : Int
  r : Int
  a : Int
noncomputable def dueV (d : Due) : List V := [.int d.p, .int d.q, .int d.r, .int d.a]
noncomputable def dueD (d : Due) : List PyData := [.int d.p, .int d.q, .int d.r, .int d.a]
noncomputable def DueOk (n : Int) (d : Due) : Prop := 0 ≤ d.p ∧ d.p < n ∧ 0 ≤ d.q ∧ d.q < n ∧ d.p ≠ d.q ∧ 0 ≤ d.r ∧ d.r < 3 ∧ 0 ≤ d.a ∧ d.a ≤ 100000000000000
noncomputable def IsSh (K : PySem.W.Frag) (H : Hp) (a : Addr) (ds : List Due) : Prop := ∃ vs, SqL K H a vs ∧ IsTs dueV H vs ds
theorem IsSh.same {K : PySem.W.Frag} {H H' : Hp} {a : Addr} {ds : List Due} (h : IsSh K H a ds) (e : Same H H') : IsSh K H' a ds := by
  obtain ⟨vs, h1, h2⟩ := h; exact ⟨vs, e.seq h1, h2.same e⟩
theorem Same.isSh {K : PySem.W.Frag} {H H' : Hp} {a : Addr} {ds : List Due} (e : Same H H') (h : IsSh K H a ds) : IsSh K H' a ds := h.same e
theorem IsSh.of {K : PySem.W.Frag} {H : Hp} {a : Addr} {vs : List V} {ds : List Due} (h : H a = some (.lst vs)) (t : IsTs dueV H vs ds) : IsSh K H a ds := ⟨vs, .of h, t⟩
theorem dues_rep {K : PySem.W.Frag} {H : Hp} {vs : List V} {ds : List Due} (h : IsTs dueV H vs ds) : RepAll K H vs (ds.map fun d => .tuple (dueD d)) :=
  h.rep fun d => .cons (.int _) (.cons (.int _) (.cons (.int _) (.cons (.int _) .nil)))
theorem depth_due (d : Due) : (PyData.tuple (dueD d)).depth = 1 := by simp [dueD, PyData.depth, PyData.depthAll]
theorem depth_dues : ∀ ds : List Due, PyData.depthAll (ds.map fun d => .tuple (dueD d)) ≤ 1
  | [] => by simp [PyData.depthAll]
  | d :: ds => by
    have := depth_dues ds
    rw [List.map_cons, PyData.depthAll, depth_due]
    omega
theorem lay_dues : ∀ ds : List Due, PyData.canLayAll0 (ds.map fun d => .tuple (dueD d)) = true
  | [] => by simp [PyData.canLayAll0]
  | d :: ds => by rw [List.map_cons, PyData.canLayAll0, lay_dues ds]; simp [dueD, PyData.canLay0, PyData.canLayAll0]
theorem x_neSh {K : PySem.W.Frag} {H : Hp} {Q : VK} {a b : Addr} {ds es : List Due} (h1 : IsSh K H a ds) (h2 : IsSh K H b es) (e : ds = es) (q : Q (.bl false) H) : rNeU K (.ref a) (.ref b) H Q := by
  subst e
  obtain ⟨vs, s1, t1⟩ := h1
  obtain ⟨ws, s2, t2⟩ := h2
  refine x_neD (.lst s1 (dues_rep t1)) (.lst s2 (dues_rep t2)) (by have := depth_dues ds; rw [depth_list]; omega) ?_
  rw [PySem.SeqAt.eqv_refl _ (by rw [PyData.canLay0]; exact lay_dues ds)]
  exact q
theorem take_snoc {α : Type} {xs : List α} {i : Nat} {x : α} (h : xs[i]? = some x) : xs.take (i + 1) = xs.take i ++ [x] := by
  obtain ⟨hi, rfl⟩ := List.getElem?_eq_some_iff.mp h
  exact List.take_succ_eq_append_getElem hi
section
variable {K : PySem.W.Frag} {H : Hp} {Q : VK} {E : XK} {n : Int} {a : Addr} {ds : List Due}
end
noncomputable def spDrawn (K : PySem.W.Frag) : Sp := fun vs H Q _ => ∃ (a : Addr) (ns : List Int) (k seed : Int), vs = [.ref a, .int k, .int seed] ∧ SqL K H a (ns.map V.int) ∧ 0 ≤ k ∧ k ≤ 1000 ∧ 0 ≤ seed ∧ seed ≤ 1000000000 ∧ ∀ i, 1 ≤ i → i ≤ 1000000000000000 → Q (.int i) H
theorem spDrawn_i {K : PySem.W.Frag} {a : Addr} {ns : List Int} {k seed : Int} {H : Hp} {Q : VK} {E : XK} (h : SqL K H a (ns.map V.int)) (h0 : 0 ≤ k) (h1 : k ≤ 1000) (s0 : 0 ≤ seed) (s1 : seed ≤ 1000000000) (q : ∀ i, 1 ≤ i → i ≤ 1000000000000000 → Q (.int i) H) : spDrawn K [.ref a, .int k, .int seed] H Q E :=
  ⟨a, ns, k, seed, rfl, h, h0, h1, s0, s1, q⟩
noncomputable def spAmount : Sp := fun vs H Q _ => ∃ (i seed : Int), vs = [.int i, .int seed] ∧ 1 ≤ i ∧ i ≤ 1000000000000000 ∧ 0 ≤ seed ∧ seed < 1000000000 ∧ ∀ x, 0 ≤ x → x ≤ 1000000000000 → Q (.int x) H
theorem spAmount_i {i seed : Int} {H : Hp} {Q : VK} {E : XK} (h0 : 1 ≤ i) (h1 : i ≤ 1000000000000000) (s0 : 0 ≤ seed) (s1 : seed < 1000000000) (q : ∀ x, 0 ≤ x → x ≤ 1000000000000 → Q (.int x) H) : spAmount [.int i, .int seed] H Q E := ⟨i, seed, rfl, h0, h1, s0, s1, q⟩
noncomputable def spDue : Sp := fun vs H Q _ => ∃ (i n seed : Int), vs = [.int i, .int n, .int seed] ∧ 1 ≤ i ∧ i ≤ 1000000000000000 ∧ 2 ≤ n ∧ n ≤ 1000 ∧ 0 ≤ seed ∧ seed < 1000000000 ∧ ∀ p H' d, H p = none → Same H H' → H' p = some (.tup (dueV d)) → DueOk n d ∧ d.a ≤ 1000000000000 → Q (.ref p) H'
theorem spDue_i {i n seed : Int} {H : Hp} {Q : VK} {E : XK} (h0 : 1 ≤ i) (h1 : i ≤ 1000000000000000) (n0 : 2 ≤ n) (n1 : n ≤ 1000) (s0 : 0 ≤ seed) (s1 : seed < 1000000000) (q : ∀ p H' d, H p = none → Same H H' → H' p = some (.tup (dueV d)) → DueOk n d ∧ d.a ≤ 1000000000000 → Q (.ref p) H') : spDue [.int i, .int n, .int seed] H Q E :=
  ⟨i, n, seed, rfl, h0, h1, n0, n1, s0, s1, q⟩
noncomputable def spSheet (K : PySem.W.Frag) : Sp := fun vs H Q _ => ∃ (a : Addr) (ns : List Int) (n most : Int), vs = [.ref a, .int n, .int most] ∧ SqL K H a (ns.map V.int) ∧ ns.length ≤ 63 ∧ 1 ≤ n ∧ n ≤ 1000 ∧ 0 ≤ most ∧ most ≤ 64 ∧
  ∀ p H' vs ds, H p = none → Same H H' → H' p = some (.lst vs) → IsTs dueV H' vs ds → (∀ d ∈ ds, DueOk n d ∧ d.a ≤ 1000000000000) → ds.length ≤ 64 → (n = 1 → ds = []) → Q (.ref p) H'
theorem spSheet_i {K : PySem.W.Frag} {a : Addr} {ns : List Int} {n most : Int} {H : Hp} {Q : VK} {E : XK} (h : SqL K H a (ns.map V.int)) (hn : ns.length ≤ 63) (n0 : 1 ≤ n) (n1 : n ≤ 1000) (s0 : 0 ≤ most) (s1 : most ≤ 64)
    (q : ∀ p H' vs ds, H p = none → Same H H' → H' p = some (.lst vs) → IsTs dueV H' vs ds → (∀ d ∈ ds, DueOk n d ∧ d.a ≤ 1000000000000) → ds.length ≤ 64 → (n = 1 → ds = []) → Q (.ref p) H') : spSheet K [.ref a, .int n, .int most] H Q E := ⟨a, ns, n, most, rfl, h, hn, n0, n1, s0, s1, q⟩
noncomputable def spWholes (K : PySem.W.Frag) : Sp := fun vs H Q _ => ∃ (a : Addr) (ns : List Int) (n : Int), vs = [.ref a, .int n] ∧ H a = some (.lst (ns.map V.int)) ∧ Q (.bl (decide ((ns.length : Int) = n))) H
theorem spWholes_i {K : PySem.W.Frag} {a : Addr} {ns : List Int} {n : Int} {H : Hp} {Q : VK} {E : XK} (h : H a = some (.lst (ns.map V.int))) (q : Q (.bl (decide ((ns.length : Int) = n))) H) : spWholes K [.ref a, .int n] H Q E := ⟨a, ns, n, rfl, h, q⟩
noncomputable def cutL {α : Type} (xs : List α) (lo hi : Option Int) : List α := (xs.drop (HT.sIx xs.length 0 lo)).take (HT.sIx xs.length xs.length hi - HT.sIx xs.length 0 lo)
theorem mem_cutL {α : Type} {xs : List α} {lo hi : Option Int} {x : α} (h : x ∈ cutL xs lo hi) : x ∈ xs := List.mem_of_mem_drop (List.mem_of_mem_take h)
theorem cutL_length {α : Type} (xs : List α) (lo hi : Option Int) : (cutL xs lo hi).length ≤ xs.length := by unfold cutL; rw [List.length_take, List.length_drop]; omega
theorem IsTs.take {α : Type} {f : α → List V} {H : Hp} : ∀ {vs : List V} {xs : List α} (n : Nat), IsTs f H vs xs → IsTs f H (vs.take n) (xs.take n)
  | [], [], _, _ => by simp [IsTs]
  | _ :: _, _ :: _, 0, _ => trivial
  | _ :: _, _ :: _, n + 1, ⟨q, r⟩ => ⟨q, r.take n⟩
theorem IsTs.drop {α : Type} {f : α → List V} {H : Hp} : ∀ {vs : List V} {xs : List α} (n : Nat), IsTs f H vs xs → IsTs f H (vs.drop n) (xs.drop n)
  | [], [], _, _ => by simp [IsTs]
  | _ :: _, _ :: _, 0, h => h
  | _ :: _, _ :: _, n + 1, ⟨_, r⟩ => r.drop n
theorem IsTs.cut {α : Type} {f : α → List V} {H : Hp} {vs : List V} {xs : List α} (h : IsTs f H vs xs) (lo hi : Option Int) : IsTs f H (cutV vs lo hi) (cutL xs lo hi) := by
  unfold cutV cutL
  rw [h.length]
  exact (h.drop _).take _
end Internal

set_option Elab.async false
set_option linter.all false
set_option maxRecDepth 100000
namespace Internal
open PySem PySem.Spec PyProof.Rows
noncomputable def Rows (H : Hp) (as : List Addr) (k : Nat) (F : Nat → Nat → Int) : Prop := as.Nodup ∧ ∀ i a, as[i]? = some a → H a = some (.lst ((vec k (F i)).map V.int))
section
variable {H H' : Hp} {as bs : List Addr} {k : Nat} {F G : Nat → Nat → Int} {K : PySem.W.Frag} {Q : VK}
theorem nodup_get {i j : Nat} {a : Addr} (n : as.Nodup) (h : as[i]? = some a) (h' : as[j]? = some a) : i = j := by
  obtain ⟨hi, e⟩ := List.getElem?_eq_some_iff.mp h
  obtain ⟨hj, e'⟩ := List.getElem?_eq_some_iff.mp h'
  exact (List.getElem_inj n).mp (e.trans e'.symm)
end
noncomputable def withF (ds : List Due) (m : Nat → Int) : List Due := ds.mapIdx fun i d => ⟨d.p, d.q, d.r, m i⟩
theorem withF_len {ds : List Due} {m : Nat → Int} : (withF ds m).length = ds.length := by simp [withF]
theorem withF_get {ds : List Due} {m : Nat → Int} {i : Nat} {d : Due} (h : ds[i]? = some d) : (withF ds m)[i]? = some ⟨d.p, d.q, d.r, m i⟩ := by simp [withF, h]
theorem getD_get {ms : List Int} {i : Nat} (h : i < ms.length) : ms[i]? = some (ms.getD i 0) := by rw [List.getD_eq_getElem?_getD, List.getElem?_eq_getElem h]; rfl
end Internal

set_option linter.all false
namespace My
section
variable (ch : Nat → Bool) (x : Nat → Int) (L : Int)
noncomputable def rest : Nat → Int
  | 0 => L
  | i + 1 => if ch i = true ∧ rest i > 0 then rest i - 1 else rest i
noncomputable def more (i : Nat) : Int := if ch i = true ∧ rest ch L i > 0 then x i + 1 else x i
variable {ch x L}
end
end My

set_option Elab.async false
set_option linter.all false
set_option maxRecDepth 100000
namespace Internal
open PySem PySem.Spec PyProof.Rows
noncomputable def bls (n : Nat) (ch : Nat → Bool) : List V := (List.range n).map fun i => V.bl (ch i)
theorem bls_succ {n : Nat} {ch : Nat → Bool} : bls (n + 1) ch = bls n ch ++ [.bl (ch n)] := by unfold bls; rw [List.range_succ, List.map_append]; rfl
theorem bls_len {n : Nat} {ch : Nat → Bool} : (bls n ch).length = n := by simp [bls]
theorem bls_get {n i : Nat} {ch : Nat → Bool} (h : i < n) : (bls n ch)[i]? = some (.bl (ch i)) := by simp [bls, h]
theorem snoc_ints {ns : List Int} {c : Int} : ns.map V.int ++ [.int c] = (ns ++ [c]).map V.int := by rw [List.map_append]; rfl
end Internal

set_option Elab.async false
set_option linter.all false
set_option maxRecDepth 100000
namespace Internal
open PySem PySem.Spec PyProof.Rows
end Internal

set_option Elab.async false
set_option linter.all false
set_option maxRecDepth 100000
namespace Internal
open PySem PySem.Spec PyProof.Rows
theorem BT.range : bootBuiltins "range" = some (.type "range") := by decide +kernel
section
variable {X : Cx}
theorem flat_ints : ∀ ns : List Int, (ns.map V.int).all flatV = true
  | [] => rfl
  | n :: ns => by rw [List.map_cons, List.all_cons, flat_ints ns]; rfl
noncomputable def rIndex : V → List V → Hp → VK → Prop := fun x vs H Q => ∃ (l : Addr) (ns : List Int) (k : Int) (j : Nat), x = .ref l ∧ vs = [.int k] ∧ H l = some (.lst (ns.map V.int)) ∧ ns[j]? = some k ∧ (∀ m, m < j → ns[m]? ≠ some k) ∧ ns.length ≤ 100000 ∧ Q (.int j) H
theorem mt_index : MtM X "list.index" rIndex := by
  intro pins s σ H x vs v us Q I rx rv h
  obtain ⟨l, ns, k, j, rfl, rfl, hH, hj, hno, hz, q⟩ := h
  cases rx
  obtain ⟨u, rfl, ru⟩ := rv.one
  obtain ⟨z, its, n, r, hl, e⟩ := I.lstM hH
  have hjl : j < ns.length := (List.getElem?_eq_some_iff.mp hj).1
  have hil : its.length = ns.length := by have := r.length; rw [List.length_map] at this; exact this.symm
  have at' : ∀ m (hm : m < its.length), eqU (.int k) its[m] = (ns[m]'(by omega) == k) := fun m hm => by
    obtain ⟨w, hw, rw'⟩ := r.get (show (ns.map V.int)[m]? = some (.int (ns[m]'(by omega))) by simp [show m < ns.length by omega])
    have : its[m] = w := by
      rw [List.getElem?_eq_getElem hm] at hw; exact Option.some.inj hw
    rw [this, eqU_of rw' rfl]; rfl
  refine call_meets F.slot_list_index ⟨_, e, rfl⟩ F.entry_list_index (F.args_list_index_2 _ _) (SeqAt.list_indexAt l its.toArray n none #[] u (eqU (.int k)) j (by simp; omega) (by omega) ?_ (fun m hm hlt => ?_)) ⟨e, fun y hy => mem_eqAt ru rfl r (flat_ints ns) y (by simpa using hy), ⟨.int j, H, I.tok _, ⟨_, rfl⟩, q⟩⟩
  · have := at' j (by omega)
    simp only [List.getElem_toArray]
    rw [this]
    have e' : ns[j] = k := by rw [List.getElem?_eq_getElem hjl] at hj; exact Option.some.inj hj
    rw [e']; simp
  · have hm' : m < its.length := by simpa using hm
    simp only [List.getElem_toArray]
    rw [at' m hm']
    have : ns[m]'(by omega) ≠ k := fun z => hno m hlt (by rw [List.getElem?_eq_getElem (by omega), z])
    simp [this]
noncomputable def rSorted (K : PySem.W.Frag) : List V → Hp → VK → Prop := fun vs H Q => ∃ (a : Addr) (ns : List Int), vs = [.ref a] ∧ SqL K H a (ns.map V.int) ∧ ns.length < 64 ∧ ∀ l ms, H l = none → List.Perm ms ns → ms.Pairwise (· ≤ ·) → Q (.ref l) (upd H l (.lst (ms.map V.int)))
theorem call_sortedU : CallR X (.builtin "sorted") (rSorted X.K) := by
  intro pins s σ H xs us Q I r h
  obtain ⟨a, ns, rfl, hq, hl, q⟩ := h
  obtain ⟨u, rfl, r1⟩ := vals1 r
  cases r1
  obtain ⟨its, rv, pl, hil, hlt⟩ := I.walk hq
  rw [List.length_map] at hil
  refine sorted_ints (vs := its) pl (intsAre_of rv) (by omega) fun out ms hI hp hs => ?_
  obtain ⟨e, he⟩ := sortedAll_at s.heap its out
  have hv := vals_ints hI
  have hml : ms.length = ns.length := hp.length_eq
  have J : Inv X pins σ (upd H (s.heap.objs.size + 1) (.lst (ms.map V.int))) { s with heap := sortedAll s.heap its out, toks := s.toks } := I.laid (fun b o z => sortedAll_old z) (Nat.le_succ _) ⟨by rw [List.length_map]; exact small_le (by omega), out.toList, e, hv, he⟩
  exact ⟨.ref (s.heap.objs.size + 1), _, J, rfl, q _ ms (I.hok.fresh (Nat.le_succ _)) hp hs⟩
noncomputable def rRange : List V → Hp → VK → Prop := fun vs H Q => ∃ j : Int, vs = [.int j] ∧ ∀ p, H p = none → Q (.ref p) (upd H p (.rng 0 j))
theorem call_rangeV : CallR X (.type "range") rRange := by
  intro pins s σ H xs us Q I r h
  obtain ⟨j, rfl, q⟩ := h
  obtain ⟨u, rfl, t, rfl⟩ := vals1 r
  refine call_range_1 ?_
  have J : Inv X pins σ (upd H s.heap.objs.size (.rng 0 j)) { s with heap := s.heap.push { cls := .type "range", data := .fields #[.int 0 s.toks, .int j t, .int 1 (s.toks + 1)] }, toks := s.toks + 1 + 1 } := I.laid (fun b o e => Heap.get?_push_of_some _ e) (Nat.le_refl _) ⟨_, _, _, Heap.get?_push_size _ rfl⟩
  exact ⟨.ref s.heap.objs.size, _, J, rfl, q _ (I.hok.fresh (Nat.le_refl _))⟩
theorem vec_cons {n : Nat} {f : Nat → Int} : vec (n + 1) f = f 0 :: vec n fun i => f (i + 1) := by unfold vec; rw [List.range_succ_eq_map, List.map_cons, List.map_map]; rfl
theorem vals_of : ∀ {us : List Value} {f : Nat → Int}, (∀ (i : Nat) (v : Value), us[i]? = some v → ∃ t, v = Value.int (f i) t) → Vals ((vec us.length f).map V.int) us
  | [], f, _ => .nil
  | u :: us, f, h => by
    rw [List.length_cons, vec_cons, List.map_cons]
    exact .cons (h 0 u rfl) (vals_of fun i v e => h (i + 1) v e)
noncomputable def rListRng : List V → Hp → VK → Prop := fun vs H Q => ∃ (p : Addr) (j : Int), vs = [.ref p] ∧ H p = some (.rng 0 j) ∧ 0 ≤ j ∧ j ≤ 100000 ∧ ∀ l, H l = none → Q (.ref l) (upd H l (.lst ((vec j.toNat fun i => (i : Int)).map V.int)))
theorem call_list_rng (hc : X.calm = true) : CallR X (.type "list") rListRng := by
  intro pins s σ H xs us Q I r h
  obtain ⟨p, j, rfl, hp, j0, j1, q⟩ := h
  obtain ⟨u, rfl, r1⟩ := vals1 r
  cases r1
  obtain ⟨t, u, v, e⟩ := I.hok p _ hp
  refine call_list_range (n := j.toNat) (I.ok.hd hc) (a := 0) (b := j) (c := 1) (t := t) (u := u) (v := v) e (small_one (by omega) (by omega) (by omega) (by omega)) (by rw [rangeSize_one]; split <;> omega) (by omega) fun h' tk acc c' k e' it => ?_
  have hv : Vals ((vec j.toNat fun i => (i : Int)).map V.int) acc.toList := by
    have := vals_of (us := acc.toList) (f := fun i => (i : Int)) fun i v hv => by
      obtain ⟨t', h'⟩ := it.2 i v (by simpa using hv)
      exact ⟨t', by rw [h']; congr 1; omega⟩
    rw [show acc.toList.length = j.toNat by simpa using it.1] at this
    exact this
  have J : Inv X pins σ (upd H s.heap.objs.size (.lst ((vec j.toNat fun i => (i : Int)).map V.int))) { s with heap := h', toks := tk } := I.laid k (Nat.le_refl _) ⟨by rw [List.length_map, vec_len]; exact small_le (by omega), acc.toList, c', hv, e'⟩
  exact ⟨.ref s.heap.objs.size, _, J, rfl, q _ (I.hok.fresh (Nat.le_refl _))⟩
end
section
variable {H : Hp} {Q : VK} {K : PySem.W.Frag}
theorem in_ints {i : Int} : ∀ ns : List Int, inV (.int i) (ns.map V.int) = decide (i ∈ ns)
  | [] => by simp [inV]
  | n :: ns => by
    have ih := in_ints (i := i) ns
    unfold inV at ih ⊢
    rw [List.map_cons, List.any_cons, ih]
    show ((n == i) || _) = _
    by_cases h : n = i
    · subst h; simp
    · have : ¬ i = n := fun z => h z.symm
      simp [h, this]
theorem x_in {a : Addr} {ns : List Int} {i : Int} (h : SqL K H a (ns.map V.int)) (q : Q (.bl (decide (i ∈ ns))) H) : rIn K false (.int i) (.ref a) H Q :=
  ⟨a, _, rfl, .inl h, rfl, flat_ints ns, by rw [if_neg Bool.false_ne_true, in_ints]; exact q⟩
theorem x_notIn {a : Addr} {ns : List Int} {i : Int} (h : SqL K H a (ns.map V.int)) (q : Q (.bl (!decide (i ∈ ns))) H) : rIn K true (.int i) (.ref a) H Q :=
  ⟨a, _, rfl, .inl h, rfl, flat_ints ns, by rw [if_pos rfl, in_ints]; exact q⟩
theorem x_extN {l b : Addr} {xs zs : List V} (h : H l = some (.lst xs)) (h' : H b = some (.lst zs)) (hz : xs.length + zs.length ≤ 100000) (q : ∀ H', LBut l H H' → H' l = some (.lst (xs ++ zs)) → Q .non H') : rExtend (.ref l) [.ref b] H Q :=
  ⟨l, b, xs, zs, rfl, rfl, h, h', small_le hz, q _ ⟨But.upd, xs, h⟩ upd_same⟩
theorem x_sortN {a : Addr} {ns : List Int} (h : SqL K H a (ns.map V.int)) (hl : ns.length < 64) (q : ∀ l ms H', H l = none → Same H H' → List.Perm ms ns → ms.Pairwise (· ≤ ·) → H' l = some (.lst (ms.map V.int)) → Q (.ref l) H') : rSorted K [.ref a] H Q :=
  ⟨a, ns, rfl, h, hl, fun l ms hn hp hs => q l ms _ hn (Same.new hn _) hp hs upd_same⟩
theorem x_rangeN {j : Int} (q : ∀ p H', H p = none → Same H H' → H' p = some (.rng 0 j) → Q (.ref p) H') : rRange [.int j] H Q := ⟨j, rfl, fun p hp => q p _ hp (Same.new hp _) upd_same⟩
theorem x_listRng {p : Addr} {j : Int} (h : H p = some (.rng 0 j)) (j0 : 0 ≤ j) (j1 : j ≤ 100000) (q : ∀ l H', H l = none → Same H H' → H' l = some (.lst ((vec j.toNat fun i => (i : Int)).map V.int)) → Q (.ref l) H') : rListRng [.ref p] H Q := ⟨p, j, rfl, h, j0, j1, fun l hl => q l _ hl (Same.new hl _) upd_same⟩
theorem x_index {l : Addr} {ns : List Int} {k : Int} {j : Nat} (h : H l = some (.lst (ns.map V.int))) (hj : ns[j]? = some k) (hno : ∀ m, m < j → ns[m]? ≠ some k) (hz : ns.length ≤ 100000) (q : Q (.int j) H) : rIndex (.ref l) [.int k] H Q := ⟨l, ns, k, j, rfl, rfl, h, hj, hno, hz, q⟩
end
noncomputable def optV : Option Nat → V
  | none => .non
  | some i => .int i
noncomputable def optL (n : Nat) (w : Nat → Option Nat) : List V := (List.range n).map fun m => optV (w m)
theorem optL_len {n : Nat} {w : Nat → Option Nat} : (optL n w).length = n := by simp [optL]
theorem optL_get {n i : Nat} {w : Nat → Option Nat} (h : i < n) : (optL n w)[i]? = some (optV (w i)) := by simp [optL, h]
theorem optL_congr {n : Nat} {w v : Nat → Option Nat} (h : ∀ i, i < n → w i = v i) : optL n w = optL n v := by
  unfold optL; exact List.map_congr_left fun i hi => by rw [h i (List.mem_range.mp hi)]
theorem optL_set {n j : Nat} {w : Nat → Option Nat} {o : Option Nat} : (optL n w).set j (optV o) = optL n fun m => if m = j then o else w m := by
  refine List.ext_getElem? fun i => ?_
  rw [List.getElem?_set]
  by_cases hi : i < n
  · rw [optL_get hi, optL_get hi, optL_len]
    by_cases e : j = i
    · subst e; simp [hi]
    · rw [if_neg e, if_neg (Ne.symm e)]
  · have h2 : ∀ v, (optL n v)[i]? = none := fun v => by rw [List.getElem?_eq_none_iff, optL_len]; omega
    rw [h2, h2, optL_len]
    by_cases e : j = i
    · subst e; simp [hi]
    · rw [if_neg e]
theorem optL_rep {n : Nat} : List.replicate n V.non = optL n fun _ => none := by
  refine List.ext_getElem? fun i => ?_
  rw [List.getElem?_replicate]
  by_cases hi : i < n
  · rw [optL_get hi, if_pos hi]; rfl
  · rw [if_neg hi, List.getElem?_eq_none (by rw [optL_len]; omega)]
theorem bls_rep {n : Nat} {b : Bool} : List.replicate n (V.bl b) = bls n fun _ => b := by
  refine List.ext_getElem? fun i => ?_
  rw [List.getElem?_replicate]
  by_cases hi : i < n
  · rw [bls_get hi, if_pos hi]
  · rw [if_neg hi, List.getElem?_eq_none (by rw [bls_len]; omega)]
noncomputable def useful (g : Nat → Bool) (m : Nat) (d : Due) : Prop := d.p = (m : Int) ∧ 0 < d.a ∧ g d.p.toNat = true ∧ g d.q.toNat = true
noncomputable instance {g : Nat → Bool} {m : Nat} {d : Due} : Decidable (useful g m d) := by unfold useful; infer_instance
noncomputable def onwF (ds : List Due) (g : Nat → Bool) : Nat → Nat → Option Nat
  | 0, _ => none
  | i + 1, m => match ds[i]? with
    | some d => if useful g m d then some i else onwF ds g i m
    | none => onwF ds g i m
theorem onwF_succ {ds : List Due} {g : Nat → Bool} {i : Nat} {d : Due} (h : ds[i]? = some d) (m : Nat) : onwF ds g (i + 1) m = if useful g m d then some i else onwF ds g i m := by rw [onwF, h]
theorem onwF_some {ds : List Due} {g : Nat → Bool} {m j : Nat} : ∀ {i : Nat}, onwF ds g i m = some j → ∃ d, ds[j]? = some d ∧ useful g m d
  | 0, h => nomatch h
  | i + 1, h => by
    rw [onwF] at h
    cases e : ds[i]? with
    | none => rw [e] at h; exact onwF_some h
    | some d =>
      rw [e] at h
      simp only at h
      split at h
      · rename_i u; cases h; exact ⟨d, e, u⟩
      · exact onwF_some h
theorem onwF_none {ds : List Due} {g : Nat → Bool} {m : Nat} : ∀ {i : Nat}, onwF ds g i m = none → ∀ k d, k < i → ds[k]? = some d → ¬ useful g m d
  | 0, _, _, _, hk, _ => absurd hk (Nat.not_lt_zero _)
  | i + 1, h, k, d, hk, hd => by
    rw [onwF] at h
    by_cases e : k = i
    · subst e
      rw [hd] at h
      simp only at h
      split at h
      · cases h
      · assumption
    · cases e' : ds[i]? with
      | none => rw [e'] at h; exact onwF_none h k d (by omega) hd
      | some d' =>
        rw [e'] at h
        simp only at h
        split at h
        · cases h
        · exact onwF_none h k d (by omega) hd
theorem x_repOpt {H : Hp} {Q : VK} {l : Addr} {k : Int} (h : H l = some (.lst [.non])) (h0 : 0 ≤ k) (h1 : k ≤ 100000) (q : ∀ p H', H p = none → Same H H' → H' p = some (.lst (optL k.toNat fun _ => none)) → Q (.ref p) H') : rMulU (.ref l) (.int k) H Q :=
  x_rep0 h h0 h1 fun p H' a b c => q p H' a b (by rw [c, optL_rep])
theorem x_repBl {H : Hp} {Q : VK} {l : Addr} {k : Int} {c : Bool} (h : H l = some (.lst [.bl c])) (h0 : 0 ≤ k) (h1 : k ≤ 100000) (q : ∀ p H', H p = none → Same H H' → H' p = some (.lst (bls k.toNat fun _ => c)) → Q (.ref p) H') : rMulU (.ref l) (.int k) H Q :=
  x_rep0 h h0 h1 fun p H' a b c => q p H' a b (by rw [c, bls_rep])
noncomputable def spAmong (K : PySem.W.Frag) : Sp := fun vs H Q _ => ∃ (a b : Addr) (ds : List Due) (n : Nat) (g : Nat → Bool), vs = [.ref a, .ref b] ∧ IsSh K H a ds ∧ SqL K H b (bls n g) ∧ n ≤ 100 ∧ ds.length ≤ 1000 ∧ (∀ d ∈ ds, DueOk n d) ∧ ∀ p H', H p = none → Same H H' → H' p = some (.lst (optL n (onwF ds g ds.length))) → Q (.ref p) H'
theorem spAmong_i {K : PySem.W.Frag} {a b : Addr} {ds : List Due} {n : Nat} {g : Nat → Bool} {H : Hp} {Q : VK} {E : XK} (h : IsSh K H a ds) (h' : SqL K H b (bls n g)) (hn : n ≤ 100) (hl : ds.length ≤ 1000) (hd : ∀ d ∈ ds, DueOk n d) (q : ∀ p H', H p = none → Same H H' → H' p = some (.lst (optL n (onwF ds g ds.length))) → Q (.ref p) H') : spAmong K [.ref a, .ref b] H Q E := ⟨a, b, ds, n, g, rfl, h, h', hn, hl, hd, q⟩
theorem x_isNone {A : Prop} (q : A) : V.non = V.non ∧ A := ⟨rfl, q⟩
theorem optV_non {o : Option Nat} : decide (optV o = V.non) = o.isNone := by cases o with | none => rfl | some i => simp [optV]
noncomputable def goF (ds : List Due) : Nat → Nat → Bool
  | 0, _ => true
  | t + 1, m => (onwF ds (goF ds t) ds.length m).isSome
noncomputable def wayF (ds : List Due) : Nat → Nat → Option Nat
  | 0, _ => none
  | t + 1, m => onwF ds (goF ds t) ds.length m
noncomputable def spWays (K : PySem.W.Frag) : Sp := fun vs H Q _ => ∃ (n : Int) (a : Addr) (ds : List Due), vs = [.int n, .ref a] ∧ IsSh K H a ds ∧ 1 ≤ n ∧ n ≤ 100 ∧ ds.length ≤ 1000 ∧ (∀ d ∈ ds, DueOk n d) ∧ ∀ p H', H p = none → Same H H' → H' p = some (.lst (optL n.toNat (wayF ds n.toNat))) → Q (.ref p) H'
theorem spWays_i {K : PySem.W.Frag} {n : Int} {a : Addr} {ds : List Due} {H : Hp} {Q : VK} {E : XK} (h : IsSh K H a ds) (h0 : 1 ≤ n) (h1 : n ≤ 100) (hl : ds.length ≤ 1000) (hd : ∀ d ∈ ds, DueOk n d) (q : ∀ p H', H p = none → Same H H' → H' p = some (.lst (optL n.toNat (wayF ds n.toNat))) → Q (.ref p) H') : spWays K [.int n, .ref a] H Q E := ⟨n, a, ds, rfl, h, h0, h1, hl, hd, q⟩
theorem nodup_le : ∀ (n : Nat) (L : List Nat), L.Nodup → (∀ x ∈ L, x < n) → L.length ≤ n
  | 0, L, _, h => by
    cases L with
    | nil => exact Nat.le_refl _
    | cons x xs => exact absurd (h x (by simp)) (Nat.not_lt_zero _)
  | n + 1, L, nd, h => by
    have h1 : (L.erase n).length ≤ n := nodup_le n (L.erase n) (nd.erase n) fun x hx => by
      have hm := nd.mem_erase_iff.mp hx
      have := h x hm.2
      have := hm.1
      omega
    have h2 := List.length_erase (a := n) (l := L)
    split at h2 <;> omega
noncomputable def waitF (ds : List Due) (ls : List Int) : List Int := (ds.filter fun d => decide (0 < d.a) && decide (d.p ∉ ls)).map Due.q
theorem waitF_snoc (ds : List Due) (d : Due) (ls : List Int) : waitF (ds ++ [d]) ls = waitF ds ls ++ if 0 < d.a ∧ d.p ∉ ls then [d.q] else [] := by
  unfold waitF
  rw [List.filter_append, List.map_append]
  congr 1
  by_cases h : 0 < d.a ∧ d.p ∉ ls
  · rw [if_pos h]; simp [h.1, h.2]
  · rw [if_neg h]
    have : (decide (0 < d.a) && decide (d.p ∉ ls)) = false := by
      by_cases h1 : 0 < d.a
      · have h2 : ¬ d.p ∉ ls := fun z => h ⟨h1, z⟩
        simp [h2]
      · simp [h1]
    rw [List.filter_cons, this]; rfl
theorem mem_waitF {ds : List Due} {ls : List Int} {x : Int} : x ∈ waitF ds ls ↔ ∃ d ∈ ds, 0 < d.a ∧ d.p ∉ ls ∧ d.q = x := by
  unfold waitF
  simp only [List.mem_map, List.mem_filter, Bool.and_eq_true, decide_eq_true_eq]
  exact ⟨fun ⟨d, ⟨h1, h2, h3⟩, h4⟩ => ⟨d, h1, h2, h3, h4⟩, fun ⟨d, h1, h2, h3, h4⟩ => ⟨d, ⟨h1, h2, h3⟩, h4⟩⟩
noncomputable def freeL (N : Nat) (ws : List Int) : List Int := ((List.range N).filter fun m : Nat => decide ((m : Int) ∉ ws)).map fun m : Nat => (m : Int)
theorem freeL_succ (N : Nat) (ws : List Int) : freeL (N + 1) ws = freeL N ws ++ if (N : Int) ∉ ws then [(N : Int)] else [] := by
  unfold freeL
  rw [List.range_succ, List.filter_append, List.map_append]
  congr 1
  by_cases h : (N : Int) ∉ ws
  · rw [if_pos h]; simp [h]
  · rw [if_neg h]; simp [h]
theorem mem_freeL {N : Nat} {ws : List Int} {x : Int} : x ∈ freeL N ws ↔ (0 ≤ x ∧ x < N) ∧ x ∉ ws := by
  unfold freeL
  simp only [List.mem_map, List.mem_filter, List.mem_range, decide_eq_true_eq]
  constructor
  · rintro ⟨m, ⟨h1, h2⟩, rfl⟩; exact ⟨⟨by omega, by omega⟩, h2⟩
  · rintro ⟨⟨h1, h2⟩, h3⟩; exact ⟨x.toNat, ⟨by omega, by rw [Int.toNat_of_nonneg h1]; exact h3⟩, Int.toNat_of_nonneg h1⟩
theorem nodup_freeL {N : Nat} {ws : List Int} : (freeL N ws).Nodup := by
  induction N with
  | zero => exact List.nodup_nil
  | succ N ih =>
    rw [freeL_succ]
    split
    · refine List.nodup_append.mpr ⟨ih, by simp, fun x hx y hy e => ?_⟩
      have := (mem_freeL.mp hx).1
      rw [List.mem_singleton.mp hy] at e
      omega
    · rw [List.append_nil]; exact ih
theorem freeL_len {N : Nat} {ws : List Int} : (freeL N ws).length ≤ N := by
  unfold freeL; rw [List.length_map]; exact Nat.le_trans (List.length_filter_le ..) (by simp)
set_option genInjectivity false in
set_option genSizeOf false in
structure Lined (n : Nat) (ds : List Due) (ls : List Int) : Prop where
  nd : ls.Nodup
  lt : ∀ x ∈ ls, 0 ≤ x ∧ x < n
  up : ∀ d ∈ ds, 0 < d.a → ∀ j : Nat, ls[j]? = some d.q → ∃ i : Nat, i < j ∧ ls[i]? = some d.p
theorem ints_nodup {ls : List Int} {n : Nat} (nd : ls.Nodup) (lt : ∀ x ∈ ls, 0 ≤ x ∧ x < n) : ls.length ≤ n := by
  have := nodup_le n (ls.map Int.toNat) ?_ fun x hx => ?_
  · rwa [List.length_map] at this
  · refine List.pairwise_map.mpr ?_
    refine List.Pairwise.imp_of_mem ?_ nd
    intro x y hx hy h e
    have := lt x hx; have := lt y hy
    omega
  · obtain ⟨y, hy, rfl⟩ := List.mem_map.mp hx
    have := lt y hy; omega
theorem Lined.ext {n : Nat} {ds : List Due} {ls : List Int} (L : Lined n ds ls) : Lined n ds (ls ++ freeL n (ls ++ waitF ds ls)) where
  nd := List.nodup_append.mpr ⟨L.nd, nodup_freeL, fun x hx y hy e => by subst e; exact (mem_freeL.mp hy).2 (List.mem_append_left _ hx)⟩
  lt := fun x hx => by
    rcases List.mem_append.mp hx with h | h
    · exact L.lt x h
    · exact (mem_freeL.mp h).1
  up := fun d hd ha j hj => by
    rw [List.getElem?_append] at hj
    split at hj
    · rename_i hlt
      obtain ⟨i, hi, e⟩ := L.up d hd ha j hj
      exact ⟨i, hi, by rw [List.getElem?_append_left (by omega)]; exact e⟩
    · rename_i hge
      have hm := mem_freeL.mp (List.mem_of_getElem? hj)
      have hp : d.p ∈ ls := Classical.byContradiction fun z => hm.2 (List.mem_append_right _ (mem_waitF.mpr ⟨d, hd, ha, z, rfl⟩))
      obtain ⟨i, hi, e⟩ := List.getElem_of_mem hp
      exact ⟨i, by omega, by rw [List.getElem?_append_left hi, List.getElem?_eq_getElem hi, e]⟩
theorem sub_len : ∀ (A B : List Int), A.Nodup → (∀ x ∈ A, x ∈ B) → A.length ≤ B.length
  | [], B, _, _ => Nat.zero_le _
  | a :: A, B, nd, h => by
    have hn := List.nodup_cons.mp nd
    have h1 := sub_len A (B.erase a) hn.2 fun x hx => (List.mem_erase_of_ne (a := x) (b := a) (fun e : x = a => hn.1 (e ▸ hx))).mpr (h x (by simp [hx]))
    have h2 := List.length_erase (a := a) (l := B)
    have ha : a ∈ B := h a (by simp)
    rw [if_pos (by simpa using ha)] at h2
    have : 0 < B.length := List.length_pos_of_mem ha
    rw [List.length_cons]; omega
theorem free_some {n : Nat} {ds : List Due} {ls : List Int} {f : Nat → Int} (hd : ∀ d ∈ ds, DueOk n d) (hf : ∀ d ∈ ds, 0 < d.a → f d.p.toNat < f d.q.toNat) : ∀ (k : Nat) (m : Nat), m < n → (m : Int) ∉ ls → (∀ L : List Nat, L.Nodup → (∀ x ∈ L, x < n ∧ f x < f m) → L.length ≤ k) → ∃ x, x ∈ freeL n (ls ++ waitF ds ls) := by
  intro k
  induction k with
  | zero =>
    intro m hm hn hk
    by_cases h : (m : Int) ∈ waitF ds ls
    · obtain ⟨d, dm, ha, hp, hq⟩ := mem_waitF.mp h
      obtain ⟨p0, p1, q0, q1, _⟩ := hd d dm
      have lt := hf d dm ha
      rw [show d.q.toNat = m by omega] at lt
      have := hk [d.p.toNat] (by simp) fun x hx => by rw [List.mem_singleton.mp hx]; exact ⟨by omega, lt⟩
      simp at this
    · exact ⟨m, mem_freeL.mpr ⟨⟨by omega, by omega⟩, fun z => (List.mem_append.mp z).elim hn h⟩⟩
  | succ k ih =>
    intro m hm hn hk
    by_cases h : (m : Int) ∈ waitF ds ls
    · obtain ⟨d, dm, ha, hp, hq⟩ := mem_waitF.mp h
      obtain ⟨p0, p1, q0, q1, _⟩ := hd d dm
      have lt := hf d dm ha
      rw [show d.q.toNat = m by omega] at lt
      refine ih d.p.toNat (by omega) (by rw [Int.toNat_of_nonneg p0]; exact hp) fun L nd hx => ?_
      have := hk (d.p.toNat :: L) (List.nodup_cons.mpr ⟨fun z => by have := (hx _ z).2; omega, nd⟩) fun x hx' => by
        rcases List.mem_cons.mp hx' with z | z
        · rw [z]; exact ⟨by omega, lt⟩
        · have := hx x z; exact ⟨this.1, by omega⟩
      rw [List.length_cons] at this; omega
    · exact ⟨m, mem_freeL.mpr ⟨⟨by omega, by omega⟩, fun z => (List.mem_append.mp z).elim hn h⟩⟩
theorem free_ne {n : Nat} {ds : List Due} {ls : List Int} {f : Nat → Int} (hd : ∀ d ∈ ds, DueOk n d) (hf : ∀ d ∈ ds, 0 < d.a → f d.p.toNat < f d.q.toNat) (hl : ls.length < n) : freeL n (ls ++ waitF ds ls) ≠ [] := by
  have : ∃ m : Nat, m < n ∧ (m : Int) ∉ ls := Classical.byContradiction fun z => by
    have all : ∀ m : Nat, m < n → (m : Int) ∈ ls := fun m hm => Classical.byContradiction fun y => z ⟨m, hm, y⟩
    have sub : ((List.range n).map fun m : Nat => (m : Int)).length ≤ ls.length := by
      have nd : ((List.range n).map fun m : Nat => (m : Int)).Nodup := by
        refine List.pairwise_map.mpr ?_
        refine List.Pairwise.imp ?_ List.nodup_range
        intro a b h e; exact h (by omega)
      refine sub_len _ _ nd fun x hx => ?_
      obtain ⟨m, hm, rfl⟩ := List.mem_map.mp hx
      exact all m (List.mem_range.mp hm)
    rw [List.length_map, List.length_range] at sub
    omega
  obtain ⟨m, hm, hn⟩ := this
  obtain ⟨x, hx⟩ := free_some hd hf n m hm hn fun L nd hx => nodup_le n L nd fun x hx' => (hx x hx').1
  exact fun z => by rw [z] at hx; cases hx
noncomputable def spFree (K : PySem.W.Frag) : Sp := fun vs H Q _ => ∃ (n : Int) (a b : Addr) (ds : List Due) (ls : List Int), vs = [.int n, .ref a, .ref b] ∧ IsSh K H a ds ∧ H b = some (.lst (ls.map V.int)) ∧ 0 ≤ n ∧ n ≤ 100 ∧ ds.length ≤ 1000 ∧ ls.length ≤ 1000 ∧ NewL H Q (freeL n.toNat (ls ++ waitF ds ls))
theorem spFree_i {K : PySem.W.Frag} {n : Int} {a b : Addr} {ds : List Due} {ls : List Int} {H : Hp} {Q : VK} {E : XK} (h : IsSh K H a ds) (h' : H b = some (.lst (ls.map V.int))) (h0 : 0 ≤ n) (h1 : n ≤ 100) (hl : ds.length ≤ 1000) (hl' : ls.length ≤ 1000) (q : ∀ p H', H p = none → Same H H' → H' p = some (.lst ((freeL n.toNat (ls ++ waitF ds ls)).map V.int)) → Q (.ref p) H') : spFree K [.int n, .ref a, .ref b] H Q E := ⟨n, a, b, ds, ls, rfl, h, h', h0, h1, hl, hl', q⟩
theorem x_eqNilF {K : PySem.W.Frag} {H : Hp} {Q : VK} {a b : Addr} {ns : List Int} (h1 : SqL K H a (ns.map V.int)) (h2 : SqL K H b []) (hne : ns ≠ []) (q : Q (.bl false) H) : rEqU K (.ref a) (.ref b) H Q := by
  refine x_eqD (.lst h1 (rep_ints ns)) (.lst h2 .nil) (by rw [depth_list, depth_ints]; omega) ?_
  cases ns with
  | nil => exact absurd rfl hne
  | cons n ns =>
    have : PyData.eqv (.list ((n :: ns).map PyData.int)) (.list []) = false := by simp [PyData.eqv, PyData.eqvAll]
    rw [this]; exact q
theorem all_in_line {n : Nat} {ls : List Int} (nd : ls.Nodup) (lt : ∀ x ∈ ls, 0 ≤ x ∧ x < n) (hl : ls.length = n) {x : Int} (h0 : 0 ≤ x) (h1 : x < n) : x ∈ ls := Classical.byContradiction fun z => by
  have := ints_nodup (n := n) (List.nodup_cons.mpr ⟨z, nd⟩) fun y hy => by
    rcases List.mem_cons.mp hy with e | e
    · rw [e]; exact ⟨h0, h1⟩
    · exact lt y e
  rw [List.length_cons] at this; omega
theorem up_eq : ∀ (ms : List Int) (lo : Int), ms.Nodup → ms.Pairwise (· ≤ ·) → (∀ x ∈ ms, lo ≤ x ∧ x < lo + ms.length) → ms = vec ms.length fun i => lo + i
  | [], _, _, _, _ => rfl
  | a :: ms, lo, nd, pw, h => by
    have nd' := List.nodup_cons.mp nd
    have pw' := List.pairwise_cons.mp pw
    have ha := h a (by simp)
    have hgt : ∀ x ∈ ms, a < x := fun x hx => by
      have h1 := pw'.1 x hx
      have h2 : a ≠ x := fun e => nd'.1 (e ▸ hx)
      omega
    have ea : a = lo := Classical.byContradiction fun z => by
      have := ints_nodup (ls := (a :: ms).map (· - (lo + 1))) (n := ms.length) (by
        refine List.pairwise_map.mpr (List.Pairwise.imp ?_ nd)
        intro x y hxy e; exact hxy (by omega)) fun y hy => by
        obtain ⟨x, hx, rfl⟩ := List.mem_map.mp hy
        have hb := h x hx
        rw [List.length_cons] at hb
        rcases List.mem_cons.mp hx with e | e
        · subst e; constructor <;> omega
        · have := hgt x e; constructor <;> omega
      rw [List.length_map, List.length_cons] at this; omega
    subst ea
    have ih := up_eq ms (a + 1) nd'.2 pw'.2 fun x hx => by
      have hb := h x (by simp [hx])
      rw [List.length_cons] at hb
      have := hgt x hx
      constructor <;> omega
    rw [List.length_cons, vec_cons]
    congr 1
    · simp
    · rw [ih]
      rw [vec_len]
      refine vec_congr fun i _ => ?_
      omega
theorem sorted_line {n : Nat} {ls ms : List Int} (nd : ls.Nodup) (lt : ∀ x ∈ ls, 0 ≤ x ∧ x < n) (hl : ls.length = n) (hp : List.Perm ms ls) (hs : ms.Pairwise (· ≤ ·)) : ms = vec n fun i => (i : Int) := by
  have hml : ms.length = n := by rw [hp.length_eq, hl]
  have := up_eq ms 0 (hp.nodup_iff.mpr nd) hs fun x hx => by have := lt x (hp.mem_iff.mp hx); omega
  rw [hml] at this
  rw [this]
  refine vec_congr fun i _ => ?_
  omega
theorem first_at {ls : List Int} {x : Int} {j : Nat} (nd : ls.Nodup) (h : ls[j]? = some x) : ∀ m, m < j → ls[m]? ≠ some x := fun m hm e => by
  obtain ⟨hj, ej⟩ := List.getElem?_eq_some_iff.mp h
  obtain ⟨hm', em⟩ := List.getElem?_eq_some_iff.mp e
  have := (List.getElem_inj nd).mp (em.trans ej.symm)
  omega
noncomputable def fwd (seed : Int) (m : Nat) : Int := ((m : Int) * 5 + seed) % 11
noncomputable def spForward (K : PySem.W.Frag) : Sp := fun vs H Q _ => ∃ (b : Addr) (d : Due) (seed n : Int), vs = [.ref b, .int seed] ∧ H b = some (.tup (dueV d)) ∧ n ≤ 9 ∧ DueOk n d ∧ 0 ≤ seed ∧ seed < 1000000000 ∧ ∀ p H' d', Same H H' → H' p = some (.tup (dueV d')) → DueOk n d' → fwd seed d'.p.toNat < fwd seed d'.q.toNat → Q (.ref p) H'
theorem spForward_i {K : PySem.W.Frag} {b : Addr} {d : Due} {seed n : Int} {H : Hp} {Q : VK} {E : XK} (h : H b = some (.tup (dueV d))) (hn : n ≤ 9) (hd : DueOk n d) (s0 : 0 ≤ seed) (s1 : seed < 1000000000) (q : ∀ p H' d', Same H H' → H' p = some (.tup (dueV d')) → DueOk n d' → fwd seed d'.p.toNat < fwd seed d'.q.toNat → Q (.ref p) H') : spForward K [.ref b, .int seed] H Q E := ⟨b, d, seed, n, rfl, h, hn, hd, s0, s1, q⟩
noncomputable def spLinedUp (K : PySem.W.Frag) : Sp := fun vs H Q _ => ∃ (a b : Addr) (n : Int) (ds : List Due) (xs : List V) (ls : List Int), vs = [.ref b, .int n, .ref a] ∧ H a = some (.lst xs) ∧ IsTs dueV H xs ds ∧ H b = some (.lst (ls.map V.int)) ∧ 1 ≤ n ∧ n ≤ 9 ∧ (∀ d ∈ ds, DueOk n d) ∧ Lined n.toNat ds ls ∧ ls.length = n.toNat ∧ ∀ H', Same H H' → Q (.bl true) H'
theorem spLinedUp_i {K : PySem.W.Frag} {a b : Addr} {n : Int} {ds : List Due} {xs : List V} {ls : List Int} {H : Hp} {Q : VK} {E : XK} (h : H a = some (.lst xs)) (t : IsTs dueV H xs ds) (h' : H b = some (.lst (ls.map V.int))) (n0 : 1 ≤ n) (n1 : n ≤ 9) (hd : ∀ d ∈ ds, DueOk n d) (L : Lined n.toNat ds ls) (hl : ls.length = n.toNat) (q : ∀ H', Same H H' → Q (.bl true) H') : spLinedUp K [.ref b, .int n, .ref a] H Q E := ⟨a, b, n, ds, xs, ls, rfl, h, t, h', n0, n1, hd, L, hl, q⟩
end Internal

set_option Elab.async false
set_option linter.all false
set_option maxRecDepth 100000
namespace Internal
open PySem
theorem onwF_congr {ds : List Due} {n : Nat} {g g' : Nat → Bool} (hd : ∀ d ∈ ds, DueOk n d) (h : ∀ m, m < n → g m = g' m) (m : Nat) : ∀ i, onwF ds g i m = onwF ds g' i m
  | 0 => rfl
  | i + 1 => by
    rw [onwF, onwF]
    cases e : ds[i]? with
    | none => exact onwF_congr hd h m i
    | some d =>
      obtain ⟨p0, p1, q0, q1, _⟩ := hd d (List.mem_of_getElem? e)
      have e1 : useful g m d ↔ useful g' m d := by unfold useful; rw [h d.p.toNat (by omega), h d.q.toNat (by omega)]
      simp only
      by_cases u : useful g m d
      · rw [if_pos u, if_pos (e1.mp u)]
      · rw [if_neg u, if_neg (fun z => u (e1.mpr z))]; exact onwF_congr hd h m i
theorem goF_down {ds : List Due} {t m : Nat} (h : goF ds (t + 1) m = true) : goF ds t m = true := by
  rw [goF] at h
  cases e : onwF ds (goF ds t) ds.length m with
  | none => rw [e] at h; cases h
  | some j =>
    obtain ⟨d, _, u1, _, u3, _⟩ := onwF_some e
    rwa [show d.p.toNat = m by omega] at u3
noncomputable def cntG (n : Nat) (g : Nat → Bool) : Nat := ((List.range n).filter g).length
theorem cntG_succ {n : Nat} {g : Nat → Bool} : cntG (n + 1) g = cntG n g + if g n = true then 1 else 0 := by
  unfold cntG
  rw [List.range_succ, List.filter_append, List.length_append]
  congr 1
  by_cases h : g n = true
  · rw [if_pos h]; simp [h]
  · rw [if_neg h]; simp [h]
theorem cntG_le {n : Nat} {p q : Nat → Bool} (h : ∀ m, m < n → q m = true → p m = true) : cntG n q ≤ cntG n p := by
  induction n with
  | zero => exact Nat.le_refl _
  | succ n ih =>
    have := ih fun m hm => h m (by omega)
    have hn := h n (by omega)
    rw [cntG_succ, cntG_succ]
    by_cases e : q n = true
    · rw [if_pos e, if_pos (hn e)]; omega
    · rw [if_neg e]; split <;> omega
theorem cntG_lt {n : Nat} {p q : Nat → Bool} (h : ∀ m, m < n → q m = true → p m = true) (hx : ∃ m, m < n ∧ p m = true ∧ q m = false) : cntG n q < cntG n p := by
  induction n with
  | zero => obtain ⟨m, hm, _⟩ := hx; omega
  | succ n ih =>
    obtain ⟨m, hm, h1, h2⟩ := hx
    rw [cntG_succ, cntG_succ]
    by_cases e : m = n
    · subst e
      have := cntG_le (n := m) fun k hk => h k (by omega)
      rw [if_pos h1, if_neg (by rw [h2]; decide)]; omega
    · have := ih (fun k hk => h k (by omega)) ⟨m, by omega, h1, h2⟩
      have hn := h n (by omega)
      by_cases e : q n = true
      · rw [if_pos e, if_pos (hn e)]; omega
      · rw [if_neg e]; split <;> omega
theorem cntG_all {n : Nat} : cntG n (fun _ => true) = n := by
  induction n with
  | zero => rfl
  | succ n ih => rw [cntG_succ, ih, if_pos rfl]
theorem goF_rest {ds : List Due} {n : Nat} (hd : ∀ d ∈ ds, DueOk n d) : ∀ t, (∀ m, m < n → goF ds t m = goF ds (t + 1) m) ∨ cntG n (goF ds (t + 1)) + (t + 1) ≤ n
  | 0 => by
    by_cases s : ∀ m, m < n → goF ds 0 m = goF ds 1 m
    · exact .inl s
    · refine .inr ?_
      have : cntG n (goF ds 1) < cntG n (goF ds 0) := cntG_lt (fun m _ => goF_down) (Classical.byContradiction fun z => s fun m hm => by
        cases e : goF ds 1 m with
        | true => exact goF_down e
        | false => exact absurd ⟨m, hm, rfl, e⟩ z)
      have e0 : cntG n (goF ds 0) = n := cntG_all
      show cntG n (goF ds 1) + 1 ≤ n
      omega
  | t + 1 => by
    rcases goF_rest hd t with s | c
    · refine .inl fun m hm => ?_
      show (onwF ds (goF ds t) ds.length m).isSome = (onwF ds (goF ds (t + 1)) ds.length m).isSome
      rw [onwF_congr hd s m ds.length]
    · by_cases s : ∀ m, m < n → goF ds (t + 1) m = goF ds (t + 2) m
      · exact .inl s
      · refine .inr ?_
        have : cntG n (goF ds (t + 2)) < cntG n (goF ds (t + 1)) := cntG_lt (fun m _ => goF_down) (Classical.byContradiction fun z => s fun m hm => by
          cases e : goF ds (t + 2) m with
          | true => exact goF_down e
          | false =>
            cases e' : goF ds (t + 1) m with
            | false => rfl
            | true => exact absurd ⟨m, hm, e', e⟩ z)
        show cntG n (goF ds (t + 2)) + (t + 2) ≤ n
        omega
theorem way_on {ds : List Due} {n m j : Nat} (hd : ∀ d ∈ ds, DueOk n d) (hm : m < n) (h : wayF ds n m = some j) : ∃ d, ds[j]? = some d ∧ d.p = (m : Int) ∧ 0 < d.a ∧ ∃ k, wayF ds n d.q.toNat = some k := by
  obtain ⟨t, rfl⟩ : ∃ t, n = t + 1 := ⟨n - 1, by omega⟩
  have hg : goF ds (t + 1) m = true := by rw [wayF] at h; rw [goF, h]; rfl
  obtain ⟨d, hdj, u1, u2, u3, u4⟩ := onwF_some (show onwF ds (goF ds t) ds.length m = some j from h)
  obtain ⟨p0, p1, q0, q1, _⟩ := hd d (List.mem_of_getElem? hdj)
  refine ⟨d, hdj, u1, u2, ?_⟩
  have st : ∀ m, m < t + 1 → goF ds t m = goF ds (t + 1) m := by
    rcases goF_rest hd t with s | c
    · exact s
    · have : 0 < cntG (t + 1) (goF ds (t + 1)) := by
        have e0 : cntG (t + 1) (fun _ => false) = 0 := by unfold cntG; simp
        have := cntG_lt (n := t + 1) (p := goF ds (t + 1)) (q := fun _ => false) (fun _ _ z => by cases z) ⟨m, hm, hg, rfl⟩
        omega
      omega
  have hq : goF ds (t + 1) d.q.toNat = true := by rw [← st _ (by omega)]; exact u4
  have hq' : (wayF ds (t + 1) d.q.toNat).isSome = true := hq
  exact Option.isSome_iff_exists.mp hq'
noncomputable def nextM (ds : List Due) (n m : Nat) : Nat := match wayF ds n m with
  | some j => match ds[j]? with
    | some d => d.q.toNat
    | none => 0
  | none => 0
noncomputable def dueOn (ds : List Due) (n m : Nat) : Int := match wayF ds n m with
  | some j => j
  | none => 0
theorem next_ok {ds : List Due} {n m : Nat} (hd : ∀ d ∈ ds, DueOk n d) (hm : m < n) (h : wayF ds n m ≠ none) : ∃ j d, wayF ds n m = some j ∧ ds[j]? = some d ∧ d.p = (m : Int) ∧ 0 < d.a ∧ d.q = (nextM ds n m : Int) ∧ nextM ds n m < n ∧ wayF ds n (nextM ds n m) ≠ none ∧ dueOn ds n m = (j : Int) := by
  cases e : wayF ds n m with
  | none => exact absurd e h
  | some j =>
    obtain ⟨d, hdj, hp, ha, k, hk⟩ := way_on hd hm e
    obtain ⟨p0, p1, q0, q1, _⟩ := hd d (List.mem_of_getElem? hdj)
    have en : nextM ds n m = d.q.toNat := by unfold nextM; rw [e]; simp only; rw [hdj]
    have ed : dueOn ds n m = (j : Int) := by unfold dueOn; rw [e]
    exact ⟨j, d, rfl, hdj, hp, ha, by rw [en]; omega, by rw [en]; omega, by rw [en, hk]; exact Option.some_ne_none k, ed⟩
noncomputable def goL (ds : List Due) (n i : Nat) : List Nat := (List.range i).filter fun m => (wayF ds n m).isSome
theorem goL_succ {ds : List Due} {n i : Nat} : goL ds n (i + 1) = goL ds n i ++ if (wayF ds n i).isSome = true then [i] else [] := by
  unfold goL
  rw [List.range_succ, List.filter_append]
  congr 1
  by_cases h : (wayF ds n i).isSome = true
  · rw [if_pos h]; simp [h]
  · rw [if_neg h]; simp [h]
theorem mem_goL {ds : List Due} {n i m : Nat} : m ∈ goL ds n i ↔ m < i ∧ (wayF ds n m).isSome = true := by unfold goL; simp
set_option genInjectivity false in
set_option genSizeOf false in
structure Walked (ds : List Due) (n : Nat) (ms : List Nat) (x : Nat) : Prop where
  nd : ms.Nodup
  ok : ∀ m ∈ ms, m < n ∧ wayF ds n m ≠ none
  at' : x < n ∧ wayF ds n x ≠ none
  nx : ∀ (i m : Nat), ms[i]? = some m → nextM ds n m = (ms ++ [x])[i + 1]?.getD 0
theorem Walked.step {ds : List Due} {n : Nat} {ms : List Nat} {x : Nat} (hd : ∀ d ∈ ds, DueOk n d) (W : Walked ds n ms x) (hx : x ∉ ms) : Walked ds n (ms ++ [x]) (nextM ds n x) := by
  obtain ⟨j, d, h1, h2, h3, h4, h5, h6, h7, h8⟩ := next_ok hd W.at'.1 W.at'.2
  refine ⟨List.nodup_append.mpr ⟨W.nd, by simp, fun a ha b hb e => hx (by rw [List.mem_singleton] at hb; subst hb; subst e; exact ha)⟩, fun m hm => ?_, ⟨h6, h7⟩, fun i m hm => ?_⟩
  · rcases List.mem_append.mp hm with h | h
    · exact W.ok m h
    · rw [List.mem_singleton.mp h]; exact W.at'
  · by_cases hi : i < ms.length
    · have e := W.nx i m (by rw [List.getElem?_append_left hi] at hm; exact hm)
      rw [e, List.getElem?_append_left (l₁ := ms ++ [x]) (l₂ := [nextM ds n x]) (by rw [List.length_append]; show _ < _ + 1; omega)]
    · have hil : i = ms.length := by
        have := (List.getElem?_eq_some_iff.mp hm).1
        rw [List.length_append] at this
        have : i < ms.length + 1 := this
        omega
      subst hil
      rw [List.getElem?_append_right (Nat.le_refl _), Nat.sub_self] at hm
      cases hm
      rw [List.getElem?_append_right (by rw [List.length_append]; exact Nat.le_refl _)]
      simp
noncomputable def natI (ms : List Nat) : List Int := ms.map fun m : Nat => (m : Int)
theorem natI_app (ms ks : List Nat) : natI (ms ++ ks) = natI ms ++ natI ks := by unfold natI; rw [List.map_append]
theorem natI_mem {ms : List Nat} {x : Nat} : (x : Int) ∈ natI ms ↔ x ∈ ms := by
  unfold natI
  rw [List.mem_map]
  exact ⟨fun ⟨y, hy, e⟩ => by rwa [show x = y by omega], fun h => ⟨x, h, rfl⟩⟩
theorem natI_len {ms : List Nat} : (natI ms).length = ms.length := by unfold natI; rw [List.length_map]
theorem natI_get {ms : List Nat} {i m : Nat} (h : ms[i]? = some m) : (natI ms)[i]? = some (m : Int) := by unfold natI; rw [List.getElem?_map, h]; rfl
noncomputable def RingOf (ds : List Due) (n : Nat) (rs : List Int) : Prop := (rs = [] ∧ ∀ m, m < n → wayF ds n m = none) ∨ ∃ ms : List Nat, ms ≠ [] ∧ ms.Nodup ∧ (∀ m ∈ ms, m < n ∧ wayF ds n m ≠ none) ∧ rs = ms.map (dueOn ds n) ∧ ∀ (i m : Nat), ms[i]? = some m → nextM ds n m = ms[(i + 1) % ms.length]?.getD 0
theorem Walked.ring {ds : List Due} {n : Nat} {ms : List Nat} {x j : Nat} (W : Walked ds n ms x) (hj : ms[j]? = some x) : RingOf ds n ((ms.drop j).map (dueOn ds n)) := by
  have hjl : j < ms.length := (List.getElem?_eq_some_iff.mp hj).1
  refine .inr ⟨ms.drop j, fun z => ?_, W.nd.sublist (List.drop_sublist ..), fun m hm => W.ok m (List.mem_of_mem_drop hm), rfl, fun i m hm => ?_⟩
  · have := congrArg List.length z
    rw [List.length_drop, List.length_nil] at this; omega
  · rw [List.getElem?_drop] at hm
    have hl := (List.getElem?_eq_some_iff.mp hm).1
    rw [W.nx (j + i) m hm, List.length_drop]
    by_cases e : j + i + 1 < ms.length
    · rw [List.getElem?_append_left e, Nat.mod_eq_of_lt (by omega), List.getElem?_drop]; rfl
    · have e1 : j + i + 1 = ms.length := by omega
      rw [e1, List.getElem?_append_right (Nat.le_refl _), Nat.sub_self, show i + 1 = ms.length - j by omega, Nat.mod_self, List.getElem?_drop, Nat.add_zero, hj]; rfl
noncomputable def spRing (K : PySem.W.Frag) : Sp := fun vs H Q _ => ∃ (n : Int) (a : Addr) (ds : List Due), vs = [.int n, .ref a] ∧ IsSh K H a ds ∧ 1 ≤ n ∧ n ≤ 100 ∧ ds.length ≤ 1000 ∧ (∀ d ∈ ds, DueOk n d) ∧ ∀ p H' rs, H p = none → Same H H' → H' p = some (.lst (List.map V.int rs)) → RingOf ds n.toNat rs → Q (.ref p) H'
theorem spRing_i {K : PySem.W.Frag} {n : Int} {a : Addr} {ds : List Due} {H : Hp} {Q : VK} {E : XK} (h : IsSh K H a ds) (h0 : 1 ≤ n) (h1 : n ≤ 100) (hl : ds.length ≤ 1000) (hd : ∀ d ∈ ds, DueOk n d) (q : ∀ p H' rs, H p = none → Same H H' → H' p = some (.lst (List.map V.int rs)) → RingOf ds n.toNat rs → Q (.ref p) H') : spRing K [.int n, .ref a] H Q E := ⟨n, a, ds, rfl, h, h0, h1, hl, hd, q⟩
theorem cut_from {ms : List Int} {j : Nat} (h : j ≤ ms.length) : cutV (ms.map V.int) (some (j : Int)) none = (ms.drop j).map V.int := by
  unfold cutV
  rw [HT.sIx_nat, HT.sIx_none, List.length_map, Nat.min_eq_left h, ← List.map_drop, List.take_of_length_le (by rw [List.length_map, List.length_drop]; exact Nat.le_refl _)]
end Internal

set_option Elab.async false
set_option linter.all false
set_option maxRecDepth 100000
namespace Internal
open PySem
noncomputable def Closed (ds : List Due) (S : Nat → Prop) : Prop := ∀ m, S m → ∃ d ∈ ds, d.p = (m : Int) ∧ 0 < d.a ∧ S d.q.toNat
theorem goF_step {ds : List Due} {t m : Nat} : goF ds (t + 1) m = true ↔ ∃ d ∈ ds, d.p = (m : Int) ∧ 0 < d.a ∧ goF ds t m = true ∧ goF ds t d.q.toNat = true := by
  rw [goF]
  constructor
  · intro h
    cases e : onwF ds (goF ds t) ds.length m with
    | none => rw [e] at h; cases h
    | some j =>
      obtain ⟨d, hd, u1, u2, u3, u4⟩ := onwF_some e
      rw [show d.p.toNat = m by omega] at u3
      exact ⟨d, List.mem_of_getElem? hd, u1, u2, u3, u4⟩
  · rintro ⟨d, hd, u1, u2, u3, u4⟩
    cases e : onwF ds (goF ds t) ds.length m with
    | some j => rfl
    | none =>
      obtain ⟨k, hk, ek⟩ := List.getElem_of_mem hd
      exact absurd ⟨u1, u2, by rw [show d.p.toNat = m by omega]; exact u3, u4⟩ (onwF_none e k d hk (by rw [List.getElem?_eq_getElem hk, ek]))
theorem goF_closed {ds : List Due} {S : Nat → Prop} (h : Closed ds S) : ∀ t m, S m → goF ds t m = true
  | 0, _, _ => rfl
  | t + 1, m, s => by
    obtain ⟨d, hd, u1, u2, u3⟩ := h m s
    exact goF_step.mpr ⟨d, hd, u1, u2, goF_closed h t m s, goF_closed h t _ u3⟩
theorem way_go {ds : List Due} {n m : Nat} (hn : 1 ≤ n) : wayF ds n m ≠ none ↔ goF ds n m = true := by
  obtain ⟨t, rfl⟩ : ∃ t, n = t + 1 := ⟨n - 1, by omega⟩
  show _ ↔ (wayF ds (t + 1) m).isSome = true
  cases wayF ds (t + 1) m <;> simp
set_option genInjectivity false in
set_option genSizeOf false in
structure Round (ds : List Due) (n : Nat) (ms : List Nat) : Prop where
  ne : ms ≠ []
  nd : ms.Nodup
  ok : ∀ m ∈ ms, m < n ∧ wayF ds n m ≠ none
  nx : ∀ (i m : Nat), ms[i]? = some m → nextM ds n m = ms[(i + 1) % ms.length]?.getD 0
theorem RingOf.cases {ds : List Due} {n : Nat} {rs : List Int} (h : RingOf ds n rs) : (rs = [] ∧ ∀ m, m < n → wayF ds n m = none) ∨ ∃ ms, Round ds n ms ∧ rs = ms.map (dueOn ds n) := by
  rcases h with h | ⟨ms, h1, h2, h3, h4, h5⟩
  · exact .inl h
  · exact .inr ⟨ms, ⟨h1, h2, h3, h5⟩, h4⟩
noncomputable def Left (es : List Due) (ls : List Int) (ds : List Due) : Prop := ls.length = es.length ∧ ds = withF es fun i => ls.getD i 0
theorem Left.get {es : List Due} {ls : List Int} {ds : List Due} (L : Left es ls ds) {i : Nat} {e : Due} (h : es[i]? = some e) : ∃ a, ls[i]? = some a ∧ ds[i]? = some ⟨e.p, e.q, e.r, a⟩ := by
  have hi : i < es.length := (List.getElem?_eq_some_iff.mp h).1
  refine ⟨ls.getD i 0, getD_get (by rw [L.1]; exact hi), ?_⟩
  rw [L.2]; exact withF_get h
theorem Left.got {es : List Due} {ls : List Int} {ds : List Due} (L : Left es ls ds) {i : Nat} {d : Due} (h : ds[i]? = some d) : ∃ e, es[i]? = some e ∧ ls[i]? = some d.a ∧ d.p = e.p ∧ d.q = e.q := by
  have hi : i < es.length := by
    have := (List.getElem?_eq_some_iff.mp h).1
    rwa [L.2, withF_len] at this
  obtain ⟨e, he⟩ := lt_some hi
  obtain ⟨a, h1, h2⟩ := L.get he
  rw [h2] at h; cases h
  exact ⟨e, he, h1, rfl, rfl⟩
theorem Left.self (ds : List Due) : Left ds (ds.map Due.a) ds := by
  refine ⟨List.length_map .., ?_⟩
  unfold withF
  refine List.ext_getElem? fun i => ?_
  rw [List.getElem?_mapIdx]
  cases e : ds[i]? with
  | none => rfl
  | some d =>
    have : (ds.map Due.a).getD i 0 = d.a := by rw [List.getD_eq_getElem?_getD, List.getElem?_map, e]; rfl
    show some d = some (⟨d.p, d.q, d.r, (ds.map Due.a).getD i 0⟩ : Due)
    rw [this]
noncomputable def spIsRing (K : PySem.W.Frag) : Sp := fun vs H Q _ => ∃ (n : Nat) (t a l : Addr) (ls : List Int) (xs : List V) (es ds : List Due) (ms : List Nat), vs = [.ref t, .ref a, .ref l] ∧ H t = some (.lst ((ms.map (dueOn ds n)).map V.int)) ∧ H a = some (.lst xs) ∧ IsTs dueV H xs es ∧ H l = some (.lst (ls.map V.int)) ∧ Left es ls ds ∧ es.length ≤ 1000 ∧ n ≤ 100 ∧ (∀ d ∈ ds, DueOk n d) ∧ Round ds n ms ∧ ∀ H', Same H H' → Q (.bl true) H'
theorem spIsRing_i {K : PySem.W.Frag} {n : Nat} {t a l : Addr} {ls : List Int} {xs : List V} {es ds : List Due} {ms : List Nat} {H : Hp} {Q : VK} {E : XK} (h1 : H t = some (.lst ((ms.map (dueOn ds n)).map V.int))) (h2 : H a = some (.lst xs)) (h3 : IsTs dueV H xs es) (h4 : H l = some (.lst (ls.map V.int))) (L : Left es ls ds) (hl : es.length ≤ 1000) (n1 : n ≤ 100) (hd : ∀ d ∈ ds, DueOk n d) (R : Round ds n ms) (q : ∀ H', Same H H' → Q (.bl true) H') : spIsRing K [.ref t, .ref a, .ref l] H Q E := ⟨n, t, a, l, ls, xs, es, ds, ms, rfl, h1, h2, h3, h4, L, hl, n1, hd, R, q⟩
end Internal

set_option Elab.async false
set_option linter.all false
set_option maxRecDepth 100000
namespace Internal
open PySem PySem.Spec PyProof.Rows
theorem x_eqNilY {K : PySem.W.Frag} {H : Hp} {Q : VK} {a b : Addr} (h1 : SqL K H a []) (h2 : SqL K H b []) (q : Q (.bl true) H) : rEqU K (.ref a) (.ref b) H Q := by
  refine x_eqD (.lst h1 .nil) (.lst h2 .nil) (by rw [depth_list]; simp [PyData.depthAll]) ?_
  have : PyData.eqv (.list []) (.list []) = true := by simp [PyData.eqv, PyData.eqvAll]
  rw [this]; exact q
noncomputable def Waits (ds : List Due) (R : Int → Prop) : Prop := ∀ m, R m → ∃ d ∈ ds, 0 < d.a ∧ d.q = m ∧ R d.p
theorem free_waits {ds : List Due} {R : Int → Prop} {n : Nat} {ls : List Int} (h : Waits ds R) (hl : ∀ x ∈ ls, ¬ R x) : ∀ x ∈ freeL n (ls ++ waitF ds ls), ¬ R x := by
  intro x hx hR
  obtain ⟨d, hd, h1, h2, h3⟩ := h x hR
  have := (mem_freeL.mp hx).2
  refine this (List.mem_append.mpr (.inr ?_))
  unfold waitF
  refine List.mem_map.mpr ⟨d, List.mem_filter.mpr ⟨hd, ?_⟩, h2⟩
  have hp : d.p ∉ ls := fun z => hl _ z h3
  simp [h1, hp]
theorem lined_short {ls : List Int} {n : Nat} {R : Int → Prop} {m : Int} (nd : ls.Nodup) (lt : ∀ x ∈ ls, 0 ≤ x ∧ x < n) (hl : ∀ x ∈ ls, ¬ R x) (hm : R m) (m0 : 0 ≤ m) (m1 : m < n) : ls.length < n := by
  have := ints_nodup (ls := m :: ls) (n := n) (List.nodup_cons.mpr ⟨fun z => hl m z hm, nd⟩) fun x hx => by
    rcases List.mem_cons.mp hx with h | h
    · rw [h]; exact ⟨m0, m1⟩
    · exact lt x h
  rw [List.length_cons] at this
  omega
theorem ext_nodup {ls : List Int} {n : Nat} {ds : List Due} (nd : ls.Nodup) : (ls ++ freeL n (ls ++ waitF ds ls)).Nodup := by
  refine List.nodup_append.mpr ⟨nd, ?_, fun a ha b hb e => ?_⟩
  · unfold freeL
    refine List.pairwise_map.mpr ?_
    refine List.Pairwise.imp ?_ (List.Pairwise.filter _ List.nodup_range)
    intro a b h e; exact h (by omega)
  · subst e
    exact (mem_freeL.mp hb).2 (List.mem_append.mpr (.inl ha))
noncomputable def spLinedX (K : PySem.W.Frag) (C : Addr) : Sp := fun vs H Q E => ∃ (n : Int) (a : Addr) (ds : List Due), vs = [.int n, .ref a] ∧ IsSh K H a ds ∧ 1 ≤ n ∧ n ≤ 100 ∧ ds.length ≤ 1000 ∧ (∀ d ∈ ds, DueOk n d) ∧
  ((∃ f : Nat → Int, (∀ d ∈ ds, 0 < d.a → f d.p.toNat < f d.q.toNat) ∧ ∀ p H' ls, H p = none → Same H H' → H' p = some (.lst (List.map V.int ls)) → Lined n.toNat ds ls → ls.length = n.toNat → Q (.ref p) H') ∨
   (∃ (R : Int → Prop) (m : Int), R m ∧ 0 ≤ m ∧ m < n ∧ Waits ds R ∧ ∀ H', Same H H' → E (.ref C) none H'))
noncomputable def spRefusedR (K : PySem.W.Frag) : Sp := fun vs H Q _ => ∃ (n : Int) (a : Addr) (ds : List Due) (R : Int → Prop) (m : Int), vs = [.int n, .ref a] ∧ IsSh K H a ds ∧ 1 ≤ n ∧ n ≤ 100 ∧ ds.length ≤ 1000 ∧ (∀ d ∈ ds, DueOk n d) ∧ R m ∧ 0 ≤ m ∧ m < n ∧ Waits ds R ∧ ∀ H', Same H H' → Q (.bl true) H'
theorem spRefusedR_i {K : PySem.W.Frag} {n : Int} {a : Addr} {ds : List Due} {R : Int → Prop} {m : Int} {H : Hp} {Q : VK} {E : XK} (h : IsSh K H a ds) (n0 : 1 ≤ n) (n1 : n ≤ 100) (hl : ds.length ≤ 1000) (hd : ∀ d ∈ ds, DueOk n d) (hm : R m) (m0 : 0 ≤ m) (m1 : m < n) (hw : Waits ds R) (k : ∀ H', Same H H' → Q (.bl true) H') : spRefusedR K [.int n, .ref a] H Q E := ⟨n, a, ds, R, m, rfl, h, n0, n1, hl, hd, hm, m0, m1, hw, k⟩
theorem emod_two {x n : Int} (h0 : 0 ≤ x) (h1 : x < 2 * n) : x % n = if x < n then x else x - n := by
  split
  · rename_i h; exact Int.emod_eq_of_lt h0 h
  · rename_i h
    rw [← Int.sub_emod_right]
    exact Int.emod_eq_of_lt (by omega) (by omega)
noncomputable def ringD (N s z c : Int) (k : Nat) : Due := ⟨((k : Int) + s) % N, (((k : Int) + 1) % z + s) % N, (k : Int) % 3, c⟩
noncomputable def ringL (N s z c : Int) (k : Nat) : List Due := (List.range k).map (ringD N s z c)
theorem ringL_succ (N s z c : Int) (k : Nat) : ringL N s z c (k + 1) = ringL N s z c k ++ [ringD N s z c k] := by unfold ringL; rw [List.range_succ, List.map_append]; rfl
theorem ringL_len {N s z c : Int} {k : Nat} : (ringL N s z c k).length = k := by unfold ringL; rw [List.length_map, List.length_range]
section
variable {N s z c : Int}
theorem turn_eq {k : Nat} (hk : (k : Int) < z) : ((k : Int) + 1) % z = if (k : Int) + 1 < z then (k : Int) + 1 else 0 := by
  rw [emod_two (by omega) (by omega)]
  split <;> omega
theorem ringD_ok (z0 : 2 ≤ z) (z1 : z ≤ N) (s0 : 0 ≤ s) (s1 : s < N) (c0 : 0 ≤ c) (c1 : c ≤ 100000000000000) {k : Nat} (hk : (k : Int) < z) : DueOk N (ringD N s z c k) := by
  have h1 := emod_two (x := (k : Int) + s) (n := N) (by omega) (by omega)
  have h2 := turn_eq hk
  have h3 := emod_two (x := ((k : Int) + 1) % z + s) (n := N) (by rw [h2]; split <;> omega) (by rw [h2]; split <;> omega)
  show 0 ≤ ((k : Int) + s) % N ∧ ((k : Int) + s) % N < N ∧ 0 ≤ (((k : Int) + 1) % z + s) % N ∧ (((k : Int) + 1) % z + s) % N < N ∧ ((k : Int) + s) % N ≠ (((k : Int) + 1) % z + s) % N ∧ 0 ≤ (k : Int) % 3 ∧ (k : Int) % 3 < 3 ∧ 0 ≤ c ∧ c ≤ 100000000000000
  rw [h3, h1, h2]
  refine ⟨by split <;> omega, by split <;> omega, ?_, ?_, ?_, by omega, by omega, c0, c1⟩
  · split <;> split <;> omega
  · split <;> split <;> omega
  · split <;> split <;> split <;> omega
noncomputable def RingM (N s z : Int) (m : Int) : Prop := ∃ k : Nat, (k : Int) < z ∧ m = ((k : Int) + s) % N
theorem ring_mem {k : Nat} {zz : Nat} (hk : k < zz) : ringD N s z c k ∈ ringL N s z c zz := List.mem_map.mpr ⟨k, List.mem_range.mpr hk, rfl⟩
theorem ring_waits {ds : List Due} (z0 : 2 ≤ z) (c0 : 0 < c) (hm : ∀ d ∈ ringL N s z c z.toNat, d ∈ ds) : Waits ds (RingM N s z) := by
  rintro m ⟨k, hk, rfl⟩
  by_cases h0 : k = 0
  · subst h0
    refine ⟨ringD N s z c (z.toNat - 1), hm _ (ring_mem (by omega)), c0, ?_, z.toNat - 1, by omega, rfl⟩
    show ((((z.toNat - 1 : Nat) : Int) + 1) % z + s) % N = _
    rw [turn_eq (by omega), if_neg (by omega)]
    rfl
  · refine ⟨ringD N s z c (k - 1), hm _ (ring_mem (by omega)), c0, ?_, k - 1, by omega, rfl⟩
    show ((((k - 1 : Nat) : Int) + 1) % z + s) % N = _
    rw [turn_eq (by omega), if_pos (by omega)]
    congr 1
    omega
theorem ring_closed {ds : List Due} (z0 : 2 ≤ z) (z1 : z ≤ N) (s0 : 0 ≤ s) (s1 : s < N) (c0 : 0 < c) (hm : ∀ d ∈ ringL N s z c z.toNat, d ∈ ds) : Closed ds (fun m => RingM N s z (m : Int)) := by
  rintro m ⟨k, hk, em⟩
  refine ⟨ringD N s z c k, hm _ (ring_mem (by omega)), em.symm, c0, ?_⟩
  have h2 := turn_eq hk
  have hq0 : 0 ≤ (((k : Int) + 1) % z + s) % N := Int.emod_nonneg _ (by omega)
  show RingM N s z ((((((k : Int) + 1) % z + s) % N).toNat : Nat) : Int)
  rw [Int.toNat_of_nonneg hq0, h2]
  by_cases h : (k : Int) + 1 < z
  · exact ⟨k + 1, by omega, by rw [if_pos h]; congr 1⟩
  · exact ⟨0, by omega, by rw [if_neg h]; rfl⟩
end
theorem ring_told {ds : List Due} {n : Nat} {rs : List Int} {S : Nat → Prop} {m : Nat} (hn : 1 ≤ n) (hR : RingOf ds n rs) (hc : Closed ds S) (hs : S m) (hm : m < n) : ∃ ms, Round ds n ms ∧ rs = ms.map (dueOn ds n) := by
  rcases hR.cases with ⟨_, h⟩ | h
  · exact absurd (h m hm) ((way_go hn).mpr (goF_closed hc n m hs))
  · exact h
end Internal

set_option Elab.async false
set_option linter.all false
set_option maxRecDepth 100000
set_option maxHeartbeats 4000000
namespace K
open PySem Internal
local macro_rules | `(tactic| walk_at "z") => `(tactic| first
  | assumption
  | exact sz200 (by omega) (by omega)
  | ((with_reducible apply sz_mul); (focus walk_at "z"); walk_at "z")
  | exact szL (by decide) (by omega) (by omega)
  | ((with_reducible apply Nat.le_trans (m := _)); (focus assumption); omega))
local macro_rules | `(tactic| walk_at "h") => `(tactic| first
  | assumption
  | (with_reducible exact Same.refl _)
  | ((with_reducible apply Same.at); (focus assumption); walk_at "h")
  | ((with_reducible apply LBut.tup); (focus assumption); walk_at "h")
  | ((with_reducible apply LBut.lst); (focus assumption); (focus walk_at "h"); walk_at "h")
  | ((with_reducible apply SqL.keep); (focus (show SqL _ _ _ _; assumption)); walk_at "h")
  | ((with_reducible apply SqL.of); walk_at "h")
  | ((with_reducible apply Same.after); (focus assumption); walk_at "h")
  | ((with_reducible apply LBut.same); (focus assumption); (focus walk_at "h"); walk_at "h")
  | ((with_reducible apply Same.none); (focus assumption); walk_at "h")
  | ((with_reducible apply Same.isTs); (focus assumption); walk_at "h")
  | ((with_reducible apply LBut.isTs); (focus assumption); walk_at "h")
  | ((with_reducible apply Same.cuts); (focus assumption); walk_at "h")
  | ((with_reducible apply Same.isSh); (focus assumption); walk_at "h")
  | ((with_reducible apply IsSh.of); (focus walk_at "h"); walk_at "h")
  | ((with_reducible apply LBut.ins); (focus assumption); walk_at "h")
  | ((with_reducible apply Bk.same); (focus walk_at "h"); (focus assumption))
  | ((with_reducible apply ne_new); (focus assumption); walk_at "h"))
local macro_rules | `(tactic| walk_at "x1") => `(tactic| first
  | ((with_reducible apply x_var); (focus (exact rfl)))
  | (with_reducible (first
      | apply x_bl
      | apply x_truB
      | apply x_eqI
      | apply x_neI
      | apply x_add
      | apply x_i0
      | apply x_call
      | apply x_max
      | apply x_andV
      | apply x_orV
      | apply x_notU
      | apply x_chain
      | apply x_iteT
      | apply x_iteF
      | apply x_iteNT
      | apply x_iteNF))
  | (with_reducible refine x_iteZ (by assumption) ?_)
  | (with_reducible refine x_iteNY (by assumption) ?_)
  | (with_reducible refine x_ite (fun _ => ?_) (fun _ => ?_))
  | (with_reducible refine x_iteN (fun _ => ?_) (fun _ => ?_))
  | (with_reducible refine x_iteB (fun _ => ?_) (fun _ => ?_))
  | (with_reducible (first
      | apply x_tup
      | apply x_lst))
  | ((with_reducible show rIx _ (V.ref _) (V.int _) _ _); first
      | refine x_ixTs (by assumption) (by rfl) ?_
      | refine x_ixTs (by walk_at "h") (by rfl) ?_
      | refine x_ixLs (by walk_at "h") (by assumption) ?_
      | refine x_ixL (by walk_at "h") (by assumption) ?_
      | refine x_ixLs (by walk_at "h") (by rfl) ?_)
  | ((with_reducible show rIsiU _ [V.int _, _] _ _); refine x_isU ?_)
  | ((with_reducible show rIsiU _ [V.bl _, _] _ _); refine x_isU ?_)
  | (with_reducible (first
      | apply x_isII
      | apply x_isIB))
  | ((with_reducible show rIsiU _ [V.ref _, V.ty "tuple"] _ _); refine x_isU ?_; first | refine IsQ.isT (by walk_at "h") ?_ | refine x_isTT (by walk_at "h") ?_ | refine x_isLT (by walk_at "h") ?_)
  | ((with_reducible show rIsiU _ [V.ref _, V.ty "list"] _ _); refine x_isU ?_; first | refine x_isLL (by walk_at "h") ?_ | refine x_isTL (by walk_at "h") ?_)
  | ((with_reducible show rIsiU _ [V.ref _, V.ref _] _ _); refine x_isE (by walk_at "h") (by assumption) rfl (by assumption) ?_)
  | ((with_reducible show rIsiU _ [V.ref _, V.ty "ValueError"] _ _); refine x_isE (by walk_at "h") (by assumption) rfl (by assumption) ?_)
  | (with_reducible refine x_catch (by assumption) (fun _ _ _ _ _ => ?_))
  | ((with_reducible show rTup _ [] _); refine x_tupN (by first | decide | simp) (fun _ _ _ _ _ => ?_))
  | ((with_reducible show rTup _ [_] _); refine x_tupN (by first | decide | simp) (fun _ _ _ _ _ => ?_))
  | ((with_reducible show rTup _ (_ :: _ :: _ :: _) _); refine x_tupN (by first | decide | simp) (fun _ _ _ _ _ => ?_))
  | (with_reducible (first
      | apply x_raise
      | apply x_tryE))
  | ((with_reducible show rLen _ [V.ref _] _ _); first | refine IsQ.len (by walk_at "h") ?_ | refine x_lenL (by walk_at "h") ?_ | refine x_lenT' (by walk_at "h") ?_)
  | (with_reducible refine spWhole_i ?_)
  | ((with_reducible show spCell _ _ _ _ _); refine spCell_i (by walk_at "h") (by first | decide | omega) ?_)
  | (with_reducible (first
      | apply x_for
      | apply x_comp
      | apply x_isNone
      | apply x_gNil
      | apply x_gCons))
  | ((with_reducible show gTup _ _ _ (V.ref _) _ _ _); refine x_gTup (by assumption) rfl ?_)
  | ((with_reducible show rMulU (V.ref _) (V.int _) _ _); first | refine x_repVec (by walk_at "h") (by omega) (by omega) (fun _ _ _ _ _ => ?_) | refine x_repOpt (by walk_at "h") (by omega) (by omega) (fun _ _ _ _ _ => ?_) | refine x_repBl (by walk_at "h") (by omega) (by omega) (fun _ _ _ _ _ => ?_))
  | ((with_reducible show rIn _ false (V.int _) (V.ref _) _ _); refine x_in (by walk_at "h") ?_)
  | ((with_reducible show rIn _ true (V.int _) (V.ref _) _ _); refine x_notIn (by walk_at "h") ?_)
  | ((with_reducible show rSorted _ [V.ref _] _ _); refine x_sortN (by walk_at "h") (by omega) (fun _ _ _ _ _ _ _ _ => ?_))
  | ((with_reducible show rRange [V.int _] _ _); refine x_rangeN (fun _ _ _ _ _ => ?_))
  | ((with_reducible show rListRng [V.ref _] _ _); refine x_listRng (by walk_at "h") (by omega) (by omega) (fun _ _ _ _ _ => ?_))
  | ((with_reducible show spWays _ _ _ _ _); refine spWays_i (by walk_at "h") (by omega) (by omega) (by omega) (by assumption) (fun _ _ _ _ _ => ?_))
  | ((with_reducible show spFree _ _ _ _ _); refine spFree_i (by walk_at "h") (by walk_at "h") (by omega) (by omega) (by omega) (by omega) (fun _ _ _ _ _ => ?_))
  | ((with_reducible show spForward _ _ _ _ _); refine spForward_i (by walk_at "h") (by assumption) (by assumption) (by omega) (by omega) (fun _ _ _ _ _ _ _ => ?_))
  | ((with_reducible show spLinedUp _ _ _ _ _); refine spLinedUp_i (by walk_at "h") (by walk_at "h") (by walk_at "h") (by omega) (by omega) (by assumption) (by assumption) (by assumption) (fun _ _ => ?_))
  | ((with_reducible show spRing _ _ _ _ _); refine spRing_i (by walk_at "h") (by omega) (by omega) (by omega) (by assumption) (fun _ _ _ _ _ _ _ => ?_))
  | ((with_reducible show spIsRing _ _ _ _ _); refine spIsRing_i (by walk_at "h") (by walk_at "h") (by walk_at "h") (by walk_at "h") (by assumption) (by omega) (by omega) (by assumption) (by assumption) (fun _ _ => ?_))
  | ((with_reducible show spAmong _ _ _ _ _); refine spAmong_i (by walk_at "h") (by walk_at "h") (by omega) (by omega) (by assumption) (fun _ _ _ _ _ => ?_))
  | ((with_reducible show rRng1 _ [V.int _] _); refine x_rngk1 (by omega) (by omega) ?_)
  | ((with_reducible show rItL _ _ (V.ref _) _); refine x_itk (by walk_at "h") ?_)
  | ((with_reducible show rEnum _ _ [V.ref _] _); refine x_enumk (by walk_at "h") ?_)
  | ((with_reducible show spDrawn _ _ _ _ _); refine spDrawn_i (by walk_at "h") (by omega) (by omega) (by omega) (by omega) (fun _ _ _ => ?_))
  | ((with_reducible show spAmount _ _ _ _); refine spAmount_i (by omega) (by omega) (by omega) (by omega) (fun _ _ _ => ?_))
  | ((with_reducible show spDue _ _ _ _); refine spDue_i (by omega) (by omega) (by omega) (by omega) (by omega) (by omega) (fun _ _ _ _ _ _ _ => ?_))
  | ((with_reducible show spSheet _ _ _ _ _); refine spSheet_i (by walk_at "h") (by omega) (by omega) (by omega) (by omega) (by omega) (fun _ _ _ _ _ _ _ _ _ _ _ => ?_))
  | ((with_reducible show spWholes _ _ _ _ _); first | refine spWholes_v (by walk_at "h") (by omega) ?_ | refine spWholes_i (by walk_at "h") ?_)
  | ((with_reducible show rEqU _ (V.ref _) (V.ref _) _ _); first | refine x_eqInts (by walk_at "h") (by walk_at "h") rfl ?_ | refine x_eqSh (by walk_at "h") (by walk_at "h") rfl ?_ | refine x_eqQs (by walk_at "h") (by walk_at "h") (by walk_at "h") (by walk_at "h") ?_)
  | ((with_reducible show rNeU _ (V.ref _) (V.ref _) _ _); first | refine x_neInts (by walk_at "h") (by walk_at "h") rfl ?_ | refine x_neRows (by walk_at "h") (by walk_at "h") (by walk_at "h") (by walk_at "h") (by omega) (fun _ _ _ _ => rfl) ?_ | refine x_neSh (by walk_at "h") (by walk_at "h") rfl ?_ | refine x_neQs (by walk_at "h") (by walk_at "h") (by walk_at "h") (by walk_at "h") ?_)
  | (with_reducible (first
      | apply x_rng1
      | apply x_itL
      | apply x_bm
      | apply x_part
      | apply x_partI))
  | ((with_reducible show tyV _ "list" (V.ref _) _ ∧ _); refine x_tyL (by walk_at "h") ?_)
  | ((with_reducible show rAppend (V.ref _) [_] _ _); refine x_appN (by walk_at "h") (by omega) (fun _ _ _ => ?_))
  | ((with_reducible show NewQ _ _ _); intro _ _ _ _)
  | ((with_reducible show rLst _ _ _); refine x_lstN (by first | decide | simp) (fun _ _ _ _ _ => ?_))
  | ((with_reducible show rListOf _ _ _ _); refine x_listOfN (by walk_at "h") (fun _ _ _ _ _ => ?_))
  | ((with_reducible show rSlL _ _ _ _ _ _); refine x_cutN (by walk_at "h") (fun _ _ _ _ _ => ?_))
  | ((with_reducible show rModU _ _ _ _); refine x_mod (by first | decide | omega) ?_)
  | ((with_reducible show rMulU _ _ _ _); refine x_mul (by first | assumption | (apply CMulS.of; (focus walk_at "z"); (focus walk_at "z"); first | decide | omega)) ?_)
  | ((with_reducible show rI CPow _ _ _ _ _); refine x_pow ⟨by decide, by decide, by decide⟩ rfl ?_; (try simp only [Int.reduceToNat, Int.reducePow]))
  | ((with_reducible show Ends.nx _ _ _); dsimp only [List.set, Ends.gone]))
local macro_rules | `(tactic| walk_at "x") => `(tactic| repeat' (walk_at "x1"))

noncomputable def top (i : Nat) : Stmt := PySem.Challenge.pw_quits_k13_ringed.main.body.getD i (.Pass ⟨0, 0, 0, 0⟩)
noncomputable abbrev s_a_ring : Stmt := top 20
noncomputable abbrev s_ways_onward : Stmt := top 21
noncomputable abbrev s_dues_among : Stmt := top 22
noncomputable abbrev s_lined : Stmt := top 23
noncomputable abbrev s_free_members : Stmt := top 24
noncomputable abbrev s__law_cell : Stmt := top 26
noncomputable abbrev s__law_whole : Stmt := top 27
noncomputable abbrev s__law_wholes : Stmt := top 28
noncomputable abbrev s__law_drawn : Stmt := top 29
noncomputable abbrev s__law_amount : Stmt := top 30
noncomputable abbrev s__law_due : Stmt := top 31
noncomputable abbrev s__law_sheet : Stmt := top 32
noncomputable abbrev s__law_forward : Stmt := top 33
noncomputable abbrev s__law_is_ring : Stmt := top 34
noncomputable abbrev s__law_lined_up : Stmt := top 35
noncomputable abbrev s__law_refused : Stmt := top 36
noncomputable abbrev s_law : Stmt := top 37
theorem sc_a_ring : FnScope ["many", "sheet", "onward", "going", "payers", "member"] ["many", "sheet"] (defScope s_a_ring) := ⟨rfl, rfl, rfl, by decide +kernel, rfl, by decide +kernel, by decide +kernel⟩
theorem sc_ways_onward : FnScope ["many", "sheet", "going", "onward", "turn"] ["many", "sheet"] (defScope s_ways_onward) := ⟨rfl, rfl, rfl, by decide +kernel, rfl, by decide +kernel, by decide +kernel⟩
theorem sc_dues_among : FnScope ["sheet", "going", "onward", "number", "due"] ["sheet", "going"] (defScope s_dues_among) := ⟨rfl, rfl, rfl, by decide +kernel, rfl, by decide +kernel, by decide +kernel⟩
theorem sc_lined : FnScope ["many", "sheet", "line", "free"] ["many", "sheet"] (defScope s_lined) := ⟨rfl, rfl, rfl, by decide +kernel, rfl, by decide +kernel, by decide +kernel⟩
theorem sc_free_members : FnScope ["many", "sheet", "line", "waiting", "due"] ["many", "sheet", "line"] (defScope s_free_members) := ⟨rfl, rfl, rfl, by decide +kernel, rfl, by decide +kernel, by decide +kernel⟩
theorem sc__law_cell : FnScope ["_law_script", "_law_k"] ["_law_script", "_law_k"] (defScope s__law_cell) := ⟨rfl, rfl, rfl, by decide +kernel, rfl, by decide +kernel, by decide +kernel⟩
theorem sc__law_whole : FnScope ["_law_thing"] ["_law_thing"] (defScope s__law_whole) := ⟨rfl, rfl, rfl, by decide +kernel, rfl, by decide +kernel, by decide +kernel⟩
theorem sc__law_wholes : FnScope ["_law_told", "_law_size", "_law_thing"] ["_law_told", "_law_size"] (defScope s__law_wholes) := ⟨rfl, rfl, rfl, by decide +kernel, rfl, by decide +kernel, by decide +kernel⟩
theorem sc__law_drawn : FnScope ["_law_script", "_law_k", "_law_seed"] ["_law_script", "_law_k", "_law_seed"] (defScope s__law_drawn) := ⟨rfl, rfl, rfl, by decide +kernel, rfl, by decide +kernel, by decide +kernel⟩
theorem sc__law_amount : FnScope ["_law_number", "_law_seed", "_law_way"] ["_law_number", "_law_seed"] (defScope s__law_amount) := ⟨rfl, rfl, rfl, by decide +kernel, rfl, by decide +kernel, by decide +kernel⟩
theorem sc__law_due : FnScope ["_law_number", "_law_many", "_law_seed", "_law_payer", "_law_payee", "_law_rank"] ["_law_number", "_law_many", "_law_seed"] (defScope s__law_due) := ⟨rfl, rfl, rfl, by decide +kernel, rfl, by decide +kernel, by decide +kernel⟩
theorem sc__law_sheet : FnScope ["_law_script", "_law_many", "_law_most", "_law_seed", "_law_count"] ["_law_script", "_law_many", "_law_most"] (defScope s__law_sheet) := ⟨rfl, rfl, rfl, by decide +kernel, rfl, by decide +kernel, by decide +kernel⟩
theorem sc__law_forward : FnScope ["_law_due_here", "_law_seed"] ["_law_due_here", "_law_seed"] (defScope s__law_forward) := ⟨rfl, rfl, rfl, by decide +kernel, rfl, by decide +kernel, by decide +kernel⟩
theorem sc__law_is_ring : FnScope ["_law_told", "_law_sheet_here", "_law_left", "_law_payers", "_law_number", "_law_k"] ["_law_told", "_law_sheet_here", "_law_left"] (defScope s__law_is_ring) := ⟨rfl, rfl, rfl, by decide +kernel, rfl, by decide +kernel, by decide +kernel⟩
theorem sc__law_lined_up : FnScope ["_law_told", "_law_many", "_law_sheet_here", "_law_due_here"] ["_law_told", "_law_many", "_law_sheet_here"] (defScope s__law_lined_up) := ⟨rfl, rfl, rfl, by decide +kernel, rfl, by decide +kernel, by decide +kernel⟩
theorem sc__law_refused : FnScope ["_law_many", "_law_sheet_here", "_law_told", "e"] ["_law_many", "_law_sheet_here"] (defScope s__law_refused) := ⟨rfl, rfl, rfl, by decide +kernel, rfl, by decide +kernel, by decide +kernel⟩
theorem sc_law : FnScope ["_law_script", "_law_many", "_law_seed", "_law_sheet_here", "_law_size", "_law_shift", "_law_coins", "_law_place", "_law_round_one", "_law_ringed", "_law_free", "_law_handed"] ["_law_script"] (defScope s_law) := ⟨rfl, rfl, rfl, by decide +kernel, rfl, by decide +kernel, by decide +kernel⟩
theorem lenZ {α : Type} {us : List α} (h : us.length = 0) : us = [] := List.eq_nil_of_length_eq_zero h
theorem lenS {α : Type} {us : List α} {n : Nat} (h : us.length = n + 1) : ∃ a vs, us = a :: vs ∧ vs.length = n := by
  cases us with
  | nil => cases h
  | cons a vs => exact ⟨a, vs, rfl, Nat.succ.inj h⟩
theorem len1 {α : Type} {us : List α} (h : us.length = 1) : ∃ a0, us = [a0] := by
  obtain ⟨a0, us0, rfl, h0⟩ := lenS h
  obtain rfl := lenZ h0
  exact ⟨a0, rfl⟩
theorem len2 {α : Type} {us : List α} (h : us.length = 2) : ∃ a0 a1, us = [a0, a1] := by
  obtain ⟨a0, us0, rfl, h0⟩ := lenS h
  obtain ⟨a1, us1, rfl, h1⟩ := lenS h0
  obtain rfl := lenZ h1
  exact ⟨a0, a1, rfl⟩
theorem len3 {α : Type} {us : List α} (h : us.length = 3) : ∃ a0 a1 a2, us = [a0, a1, a2] := by
  obtain ⟨a0, us0, rfl, h0⟩ := lenS h
  obtain ⟨a1, us1, rfl, h1⟩ := lenS h0
  obtain ⟨a2, us2, rfl, h2⟩ := lenS h1
  obtain rfl := lenZ h2
  exact ⟨a0, a1, a2, rfl⟩
set_option genInjectivity false in
set_option genSizeOf false in
set_option genInjectivity false in
set_option genSizeOf false in
structure Dfn (K : PySem.W.Frag) (mg : Str → Option Value) (x qual : Str) (st : Stmt) (ps : List Str) where
  a : Addr
  fd : FuncData
  F : Fun K x qual st a fd
  b : Binds K fd ps []
  m : mg x = some (.ref a)
set_option genInjectivity false in
set_option genSizeOf false in
set_option genInjectivity false in
set_option genSizeOf false in
structure Txt (K : PySem.W.Frag) (mg : Str → Option Value) where
  c_Bare : Addr
  m_Bare : mg "Bare" = some (.ref c_Bare)
  c_Closed : Addr
  m_Closed : mg "Closed" = some (.ref c_Closed)
  c_Gone : Addr
  m_Gone : mg "Gone" = some (.ref c_Gone)
  c_NoAnswer : Addr
  m_NoAnswer : mg "NoAnswer" = some (.ref c_NoAnswer)
  c_NoDeal : Addr
  m_NoDeal : mg "NoDeal" = some (.ref c_NoDeal)
  c_NoLayer : Addr
  m_NoLayer : mg "NoLayer" = some (.ref c_NoLayer)
  c_NoMember : Addr
  m_NoMember : mg "NoMember" = some (.ref c_NoMember)
  c_NoPart : Addr
  m_NoPart : mg "NoPart" = some (.ref c_NoPart)
  c_NoRule : Addr
  m_NoRule : mg "NoRule" = some (.ref c_NoRule)
  c_NoTerms : Addr
  m_NoTerms : mg "NoTerms" = some (.ref c_NoTerms)
  c_Out : Addr
  m_Out : mg "Out" = some (.ref c_Out)
  c_Poor : Addr
  m_Poor : mg "Poor" = some (.ref c_Poor)
  c_QuitsError : Addr
  m_QuitsError : mg "QuitsError" = some (.ref c_QuitsError)
  c_Ringed : Addr
  m_Ringed : mg "Ringed" = some (.ref c_Ringed)
  c_Settled : Addr
  m_Settled : mg "Settled" = some (.ref c_Settled)
  c_Standing : Addr
  m_Standing : mg "Standing" = some (.ref c_Standing)
  c_TooMuch : Addr
  m_TooMuch : mg "TooMuch" = some (.ref c_TooMuch)
  c_Unclosed : Addr
  m_Unclosed : mg "Unclosed" = some (.ref c_Unclosed)
  e_Ringed : errOk K c_Ringed = true
  i_Ringed_Bare : PySem.W.kitOne K (.ref c_Ringed) (.ref c_Bare) = some false
  i_Ringed_Closed : PySem.W.kitOne K (.ref c_Ringed) (.ref c_Closed) = some false
  i_Ringed_Gone : PySem.W.kitOne K (.ref c_Ringed) (.ref c_Gone) = some false
  i_Ringed_NoAnswer : PySem.W.kitOne K (.ref c_Ringed) (.ref c_NoAnswer) = some false
  i_Ringed_NoDeal : PySem.W.kitOne K (.ref c_Ringed) (.ref c_NoDeal) = some false
  i_Ringed_NoLayer : PySem.W.kitOne K (.ref c_Ringed) (.ref c_NoLayer) = some false
  i_Ringed_NoMember : PySem.W.kitOne K (.ref c_Ringed) (.ref c_NoMember) = some false
  i_Ringed_NoPart : PySem.W.kitOne K (.ref c_Ringed) (.ref c_NoPart) = some false
  i_Ringed_NoRule : PySem.W.kitOne K (.ref c_Ringed) (.ref c_NoRule) = some false
  i_Ringed_NoTerms : PySem.W.kitOne K (.ref c_Ringed) (.ref c_NoTerms) = some false
  i_Ringed_Out : PySem.W.kitOne K (.ref c_Ringed) (.ref c_Out) = some false
  i_Ringed_Poor : PySem.W.kitOne K (.ref c_Ringed) (.ref c_Poor) = some false
  i_Ringed_QuitsError : PySem.W.kitOne K (.ref c_Ringed) (.ref c_QuitsError) = some true
  i_Ringed_Ringed : PySem.W.kitOne K (.ref c_Ringed) (.ref c_Ringed) = some true
  i_Ringed_Settled : PySem.W.kitOne K (.ref c_Ringed) (.ref c_Settled) = some false
  i_Ringed_Standing : PySem.W.kitOne K (.ref c_Ringed) (.ref c_Standing) = some false
  i_Ringed_TooMuch : PySem.W.kitOne K (.ref c_Ringed) (.ref c_TooMuch) = some false
  i_Ringed_Unclosed : PySem.W.kitOne K (.ref c_Ringed) (.ref c_Unclosed) = some false
  i_Ringed_ValueError : PySem.W.kitOne K (.ref c_Ringed) (.type "ValueError") = some true
  q_Ringed_QuitsError : PySem.W.exmOne K (.ref c_Ringed) (.ref c_QuitsError) = some true
  d_a_ring : Dfn K mg "a_ring" "a_ring" s_a_ring ["many", "sheet"]
  d_ways_onward : Dfn K mg "ways_onward" "ways_onward" s_ways_onward ["many", "sheet"]
  d_dues_among : Dfn K mg "dues_among" "dues_among" s_dues_among ["sheet", "going"]
  d_lined : Dfn K mg "lined" "lined" s_lined ["many", "sheet"]
  d_free_members : Dfn K mg "free_members" "free_members" s_free_members ["many", "sheet", "line"]
  d__law_cell : Dfn K mg "_law_cell" "_law_cell" s__law_cell ["_law_script", "_law_k"]
  d__law_whole : Dfn K mg "_law_whole" "_law_whole" s__law_whole ["_law_thing"]
  d__law_wholes : Dfn K mg "_law_wholes" "_law_wholes" s__law_wholes ["_law_told", "_law_size"]
  d__law_drawn : Dfn K mg "_law_drawn" "_law_drawn" s__law_drawn ["_law_script", "_law_k", "_law_seed"]
  d__law_amount : Dfn K mg "_law_amount" "_law_amount" s__law_amount ["_law_number", "_law_seed"]
  d__law_due : Dfn K mg "_law_due" "_law_due" s__law_due ["_law_number", "_law_many", "_law_seed"]
  d__law_sheet : Dfn K mg "_law_sheet" "_law_sheet" s__law_sheet ["_law_script", "_law_many", "_law_most"]
  d__law_forward : Dfn K mg "_law_forward" "_law_forward" s__law_forward ["_law_due_here", "_law_seed"]
  d__law_is_ring : Dfn K mg "_law_is_ring" "_law_is_ring" s__law_is_ring ["_law_told", "_law_sheet_here", "_law_left"]
  d__law_lined_up : Dfn K mg "_law_lined_up" "_law_lined_up" s__law_lined_up ["_law_told", "_law_many", "_law_sheet_here"]
  d__law_refused : Dfn K mg "_law_refused" "_law_refused" s__law_refused ["_law_many", "_law_sheet_here"]
  d_law : Dfn K mg "law" "law" s_law ["_law_script"]
  bl_law : ∀ (s : Shared) (v : Value), BindsTo s d_law.fd ⟨[v], []⟩ [("_law_script", v)]
  z_ValueError : mg "ValueError" = none
  z_bool : mg "bool" = none
  z_enumerate : mg "enumerate" = none
  z_int : mg "int" = none
  z_isinstance : mg "isinstance" = none
  z_len : mg "len" = none
  z_list : mg "list" = none
  z_max : mg "max" = none
  z_range : mg "range" = none
  z_sorted : mg "sorted" = none
noncomputable def txt_mk {K : PySem.W.Frag} {h : Heap} {mg : Str → Option Value} (X : K.In h) (G : h.Ns mainGlobals mg)
    {c_Bare : Addr}
    {c_Closed : Addr}
    {c_Gone : Addr}
    {c_NoAnswer : Addr}
    {c_NoDeal : Addr}
    {c_NoLayer : Addr}
    {c_NoMember : Addr}
    {c_NoPart : Addr}
    {c_NoRule : Addr}
    {c_NoTerms : Addr}
    {c_Out : Addr}
    {c_Poor : Addr}
    {c_QuitsError : Addr}
    {c_Ringed : Addr}
    {c_Settled : Addr}
    {c_Standing : Addr}
    {c_TooMuch : Addr}
    {c_Unclosed : Addr}
    {f_a_ring : Addr} {oc_a_ring kV_a_ring dc_a_ring pm_a_ring cd_a_ring ct_a_ring : Value} {od_a_ring an_a_ring : Option Addr} {sl_a_ring : Array (Option Value)}
    {f_ways_onward : Addr} {oc_ways_onward kV_ways_onward dc_ways_onward pm_ways_onward cd_ways_onward ct_ways_onward : Value} {od_ways_onward an_ways_onward : Option Addr} {sl_ways_onward : Array (Option Value)}
    {f_dues_among : Addr} {oc_dues_among kV_dues_among dc_dues_among pm_dues_among cd_dues_among ct_dues_among : Value} {od_dues_among an_dues_among : Option Addr} {sl_dues_among : Array (Option Value)}
    {f_lined : Addr} {oc_lined kV_lined dc_lined pm_lined cd_lined ct_lined : Value} {od_lined an_lined : Option Addr} {sl_lined : Array (Option Value)}
    {f_free_members : Addr} {oc_free_members kV_free_members dc_free_members pm_free_members cd_free_members ct_free_members : Value} {od_free_members an_free_members : Option Addr} {sl_free_members : Array (Option Value)}
    {f__law_cell : Addr} {oc__law_cell kV__law_cell dc__law_cell pm__law_cell cd__law_cell ct__law_cell : Value} {od__law_cell an__law_cell : Option Addr} {sl__law_cell : Array (Option Value)}
    {f__law_whole : Addr} {oc__law_whole kV__law_whole dc__law_whole pm__law_whole cd__law_whole ct__law_whole : Value} {od__law_whole an__law_whole : Option Addr} {sl__law_whole : Array (Option Value)}
    {f__law_wholes : Addr} {oc__law_wholes kV__law_wholes dc__law_wholes pm__law_wholes cd__law_wholes ct__law_wholes : Value} {od__law_wholes an__law_wholes : Option Addr} {sl__law_wholes : Array (Option Value)}
    {f__law_drawn : Addr} {oc__law_drawn kV__law_drawn dc__law_drawn pm__law_drawn cd__law_drawn ct__law_drawn : Value} {od__law_drawn an__law_drawn : Option Addr} {sl__law_drawn : Array (Option Value)}
    {f__law_amount : Addr} {oc__law_amount kV__law_amount dc__law_amount pm__law_amount cd__law_amount ct__law_amount : Value} {od__law_amount an__law_amount : Option Addr} {sl__law_amount : Array (Option Value)}
    {f__law_due : Addr} {oc__law_due kV__law_due dc__law_due pm__law_due cd__law_due ct__law_due : Value} {od__law_due an__law_due : Option Addr} {sl__law_due : Array (Option Value)}
    {f__law_sheet : Addr} {oc__law_sheet kV__law_sheet dc__law_sheet pm__law_sheet cd__law_sheet ct__law_sheet : Value} {od__law_sheet an__law_sheet : Option Addr} {sl__law_sheet : Array (Option Value)}
    {f__law_forward : Addr} {oc__law_forward kV__law_forward dc__law_forward pm__law_forward cd__law_forward ct__law_forward : Value} {od__law_forward an__law_forward : Option Addr} {sl__law_forward : Array (Option Value)}
    {f__law_is_ring : Addr} {oc__law_is_ring kV__law_is_ring dc__law_is_ring pm__law_is_ring cd__law_is_ring ct__law_is_ring : Value} {od__law_is_ring an__law_is_ring : Option Addr} {sl__law_is_ring : Array (Option Value)}
    {f__law_lined_up : Addr} {oc__law_lined_up kV__law_lined_up dc__law_lined_up pm__law_lined_up cd__law_lined_up ct__law_lined_up : Value} {od__law_lined_up an__law_lined_up : Option Addr} {sl__law_lined_up : Array (Option Value)}
    {f__law_refused : Addr} {oc__law_refused kV__law_refused dc__law_refused pm__law_refused cd__law_refused ct__law_refused : Value} {od__law_refused an__law_refused : Option Addr} {sl__law_refused : Array (Option Value)}
    {f_law : Addr} {oc_law kV_law dc_law pm_law cd_law ct_law : Value} {od_law an_law : Option Addr} {sl_law : Array (Option Value)}
    (m_Bare : PySem.W.nsIn K mainGlobals "Bare" = some (some (.ref c_Bare)))
    (m_Closed : PySem.W.nsIn K mainGlobals "Closed" = some (some (.ref c_Closed)))
    (m_Gone : PySem.W.nsIn K mainGlobals "Gone" = some (some (.ref c_Gone)))
    (m_NoAnswer : PySem.W.nsIn K mainGlobals "NoAnswer" = some (some (.ref c_NoAnswer)))
    (m_NoDeal : PySem.W.nsIn K mainGlobals "NoDeal" = some (some (.ref c_NoDeal)))
    (m_NoLayer : PySem.W.nsIn K mainGlobals "NoLayer" = some (some (.ref c_NoLayer)))
    (m_NoMember : PySem.W.nsIn K mainGlobals "NoMember" = some (some (.ref c_NoMember)))
    (m_NoPart : PySem.W.nsIn K mainGlobals "NoPart" = some (some (.ref c_NoPart)))
    (m_NoRule : PySem.W.nsIn K mainGlobals "NoRule" = some (some (.ref c_NoRule)))
    (m_NoTerms : PySem.W.nsIn K mainGlobals "NoTerms" = some (some (.ref c_NoTerms)))
    (m_Out : PySem.W.nsIn K mainGlobals "Out" = some (some (.ref c_Out)))
    (m_Poor : PySem.W.nsIn K mainGlobals "Poor" = some (some (.ref c_Poor)))
    (m_QuitsError : PySem.W.nsIn K mainGlobals "QuitsError" = some (some (.ref c_QuitsError)))
    (m_Ringed : PySem.W.nsIn K mainGlobals "Ringed" = some (some (.ref c_Ringed)))
    (m_Settled : PySem.W.nsIn K mainGlobals "Settled" = some (some (.ref c_Settled)))
    (m_Standing : PySem.W.nsIn K mainGlobals "Standing" = some (some (.ref c_Standing)))
    (m_TooMuch : PySem.W.nsIn K mainGlobals "TooMuch" = some (some (.ref c_TooMuch)))
    (m_Unclosed : PySem.W.nsIn K mainGlobals "Unclosed" = some (some (.ref c_Unclosed)))
    (hd_Bare : PySem.W.hasDictIn K c_Bare = true) (ty_Bare : PySem.W.typeIn K (.ref c_Bare) = some (.type "type"))
    (hd_Closed : PySem.W.hasDictIn K c_Closed = true) (ty_Closed : PySem.W.typeIn K (.ref c_Closed) = some (.type "type"))
    (hd_Gone : PySem.W.hasDictIn K c_Gone = true) (ty_Gone : PySem.W.typeIn K (.ref c_Gone) = some (.type "type"))
    (hd_NoAnswer : PySem.W.hasDictIn K c_NoAnswer = true) (ty_NoAnswer : PySem.W.typeIn K (.ref c_NoAnswer) = some (.type "type"))
    (hd_NoDeal : PySem.W.hasDictIn K c_NoDeal = true) (ty_NoDeal : PySem.W.typeIn K (.ref c_NoDeal) = some (.type "type"))
    (hd_NoLayer : PySem.W.hasDictIn K c_NoLayer = true) (ty_NoLayer : PySem.W.typeIn K (.ref c_NoLayer) = some (.type "type"))
    (hd_NoMember : PySem.W.hasDictIn K c_NoMember = true) (ty_NoMember : PySem.W.typeIn K (.ref c_NoMember) = some (.type "type"))
    (hd_NoPart : PySem.W.hasDictIn K c_NoPart = true) (ty_NoPart : PySem.W.typeIn K (.ref c_NoPart) = some (.type "type"))
    (hd_NoRule : PySem.W.hasDictIn K c_NoRule = true) (ty_NoRule : PySem.W.typeIn K (.ref c_NoRule) = some (.type "type"))
    (hd_NoTerms : PySem.W.hasDictIn K c_NoTerms = true) (ty_NoTerms : PySem.W.typeIn K (.ref c_NoTerms) = some (.type "type"))
    (hd_Out : PySem.W.hasDictIn K c_Out = true) (ty_Out : PySem.W.typeIn K (.ref c_Out) = some (.type "type"))
    (hd_Poor : PySem.W.hasDictIn K c_Poor = true) (ty_Poor : PySem.W.typeIn K (.ref c_Poor) = some (.type "type"))
    (hd_QuitsError : PySem.W.hasDictIn K c_QuitsError = true) (ty_QuitsError : PySem.W.typeIn K (.ref c_QuitsError) = some (.type "type"))
    (hd_Ringed : PySem.W.hasDictIn K c_Ringed = true) (ty_Ringed : PySem.W.typeIn K (.ref c_Ringed) = some (.type "type"))
    (hd_Settled : PySem.W.hasDictIn K c_Settled = true) (ty_Settled : PySem.W.typeIn K (.ref c_Settled) = some (.type "type"))
    (hd_Standing : PySem.W.hasDictIn K c_Standing = true) (ty_Standing : PySem.W.typeIn K (.ref c_Standing) = some (.type "type"))
    (hd_TooMuch : PySem.W.hasDictIn K c_TooMuch = true) (ty_TooMuch : PySem.W.typeIn K (.ref c_TooMuch) = some (.type "type"))
    (hd_Unclosed : PySem.W.hasDictIn K c_Unclosed = true) (ty_Unclosed : PySem.W.typeIn K (.ref c_Unclosed) = some (.type "type"))
    (sn_ : PySem.W.specialIn K (.builtin "object.__class__") "__get__" = some (some (.builtin "getset_descriptor.__get__"))) (tk_ : PySem.W.takesIn K (.builtin "object.__class__") = some true)
    (b_QuitsError : PySem.W.subIn K (.ref c_QuitsError) (.type "BaseException") = some true)
    (x_Ringed : PySem.W.excIn K c_Ringed [.type "ValueError", .type "Exception", .type "BaseException", .type "object"] "ValueError.__new__" = true) (ga_Ringed : PySem.W.findIn K (.ref c_Ringed) "__getattribute__" = some (some (.builtin "BaseException.__getattribute__"))) (gn_Ringed : PySem.W.findIn K (.ref c_Ringed) "__getattr__" = some none) (be_Ringed : PySem.W.mroIn K c_Ringed (.type "BaseException") = some true) (fa_Ringed : PySem.W.findIn K (.ref c_Ringed) "__class__" = some (some (.builtin "object.__class__"))) (mo_Ringed : PySem.W.mroIn K c_Ringed (.type "object") = some true)
    (s_Ringed_Bare : PySem.W.subIn K (.ref c_Ringed) (.ref c_Bare) = some false)
    (n_Ringed_Bare : c_Ringed ≠ c_Bare)
    (s_Ringed_Closed : PySem.W.subIn K (.ref c_Ringed) (.ref c_Closed) = some false)
    (n_Ringed_Closed : c_Ringed ≠ c_Closed)
    (s_Ringed_Gone : PySem.W.subIn K (.ref c_Ringed) (.ref c_Gone) = some false)
    (n_Ringed_Gone : c_Ringed ≠ c_Gone)
    (s_Ringed_NoAnswer : PySem.W.subIn K (.ref c_Ringed) (.ref c_NoAnswer) = some false)
    (n_Ringed_NoAnswer : c_Ringed ≠ c_NoAnswer)
    (s_Ringed_NoDeal : PySem.W.subIn K (.ref c_Ringed) (.ref c_NoDeal) = some false)
    (n_Ringed_NoDeal : c_Ringed ≠ c_NoDeal)
    (s_Ringed_NoLayer : PySem.W.subIn K (.ref c_Ringed) (.ref c_NoLayer) = some false)
    (n_Ringed_NoLayer : c_Ringed ≠ c_NoLayer)
    (s_Ringed_NoMember : PySem.W.subIn K (.ref c_Ringed) (.ref c_NoMember) = some false)
    (n_Ringed_NoMember : c_Ringed ≠ c_NoMember)
    (s_Ringed_NoPart : PySem.W.subIn K (.ref c_Ringed) (.ref c_NoPart) = some false)
    (n_Ringed_NoPart : c_Ringed ≠ c_NoPart)
    (s_Ringed_NoRule : PySem.W.subIn K (.ref c_Ringed) (.ref c_NoRule) = some false)
    (n_Ringed_NoRule : c_Ringed ≠ c_NoRule)
    (s_Ringed_NoTerms : PySem.W.subIn K (.ref c_Ringed) (.ref c_NoTerms) = some false)
    (n_Ringed_NoTerms : c_Ringed ≠ c_NoTerms)
    (s_Ringed_Out : PySem.W.subIn K (.ref c_Ringed) (.ref c_Out) = some false)
    (n_Ringed_Out : c_Ringed ≠ c_Out)
    (s_Ringed_Poor : PySem.W.subIn K (.ref c_Ringed) (.ref c_Poor) = some false)
    (n_Ringed_Poor : c_Ringed ≠ c_Poor)
    (s_Ringed_QuitsError : PySem.W.subIn K (.ref c_Ringed) (.ref c_QuitsError) = some true)
    (n_Ringed_QuitsError : c_Ringed ≠ c_QuitsError)
    (s_Ringed_Ringed : PySem.W.subIn K (.ref c_Ringed) (.ref c_Ringed) = some true)
    (s_Ringed_Settled : PySem.W.subIn K (.ref c_Ringed) (.ref c_Settled) = some false)
    (n_Ringed_Settled : c_Ringed ≠ c_Settled)
    (s_Ringed_Standing : PySem.W.subIn K (.ref c_Ringed) (.ref c_Standing) = some false)
    (n_Ringed_Standing : c_Ringed ≠ c_Standing)
    (s_Ringed_TooMuch : PySem.W.subIn K (.ref c_Ringed) (.ref c_TooMuch) = some false)
    (n_Ringed_TooMuch : c_Ringed ≠ c_TooMuch)
    (s_Ringed_Unclosed : PySem.W.subIn K (.ref c_Ringed) (.ref c_Unclosed) = some false)
    (n_Ringed_Unclosed : c_Ringed ≠ c_Unclosed)
    (v_Ringed : PySem.W.subIn K (.ref c_Ringed) (.type "ValueError") = some true)
    (a_a_ring : PySem.W.nsIn K mainGlobals "a_ring" = some (some (.ref f_a_ring))) (l_a_ring : K.lookup f_a_ring = some ⟨oc_a_ring, od_a_ring, .func (PySem.W.fnOf "a_ring" "a_ring" (defArgs s_a_ring) (defBody s_a_ring) (defScope s_a_ring) .none kV_a_ring dc_a_ring pm_a_ring an_a_ring cd_a_ring ct_a_ring), sl_a_ring⟩) (c_a_ring : PySem.W.codeIn K cd_a_ring "a_ring" = true) (k_a_ring : PySem.W.keepIn K (.ref f_a_ring) = true)
    (a_ways_onward : PySem.W.nsIn K mainGlobals "ways_onward" = some (some (.ref f_ways_onward))) (l_ways_onward : K.lookup f_ways_onward = some ⟨oc_ways_onward, od_ways_onward, .func (PySem.W.fnOf "ways_onward" "ways_onward" (defArgs s_ways_onward) (defBody s_ways_onward) (defScope s_ways_onward) .none kV_ways_onward dc_ways_onward pm_ways_onward an_ways_onward cd_ways_onward ct_ways_onward), sl_ways_onward⟩) (c_ways_onward : PySem.W.codeIn K cd_ways_onward "ways_onward" = true) (k_ways_onward : PySem.W.keepIn K (.ref f_ways_onward) = true)
    (a_dues_among : PySem.W.nsIn K mainGlobals "dues_among" = some (some (.ref f_dues_among))) (l_dues_among : K.lookup f_dues_among = some ⟨oc_dues_among, od_dues_among, .func (PySem.W.fnOf "dues_among" "dues_among" (defArgs s_dues_among) (defBody s_dues_among) (defScope s_dues_among) .none kV_dues_among dc_dues_among pm_dues_among an_dues_among cd_dues_among ct_dues_among), sl_dues_among⟩) (c_dues_among : PySem.W.codeIn K cd_dues_among "dues_among" = true) (k_dues_among : PySem.W.keepIn K (.ref f_dues_among) = true)
    (a_lined : PySem.W.nsIn K mainGlobals "lined" = some (some (.ref f_lined))) (l_lined : K.lookup f_lined = some ⟨oc_lined, od_lined, .func (PySem.W.fnOf "lined" "lined" (defArgs s_lined) (defBody s_lined) (defScope s_lined) .none kV_lined dc_lined pm_lined an_lined cd_lined ct_lined), sl_lined⟩) (c_lined : PySem.W.codeIn K cd_lined "lined" = true) (k_lined : PySem.W.keepIn K (.ref f_lined) = true)
    (a_free_members : PySem.W.nsIn K mainGlobals "free_members" = some (some (.ref f_free_members))) (l_free_members : K.lookup f_free_members = some ⟨oc_free_members, od_free_members, .func (PySem.W.fnOf "free_members" "free_members" (defArgs s_free_members) (defBody s_free_members) (defScope s_free_members) .none kV_free_members dc_free_members pm_free_members an_free_members cd_free_members ct_free_members), sl_free_members⟩) (c_free_members : PySem.W.codeIn K cd_free_members "free_members" = true) (k_free_members : PySem.W.keepIn K (.ref f_free_members) = true)
    (a__law_cell : PySem.W.nsIn K mainGlobals "_law_cell" = some (some (.ref f__law_cell))) (l__law_cell : K.lookup f__law_cell = some ⟨oc__law_cell, od__law_cell, .func (PySem.W.fnOf "_law_cell" "_law_cell" (defArgs s__law_cell) (defBody s__law_cell) (defScope s__law_cell) .none kV__law_cell dc__law_cell pm__law_cell an__law_cell cd__law_cell ct__law_cell), sl__law_cell⟩) (c__law_cell : PySem.W.codeIn K cd__law_cell "_law_cell" = true) (k__law_cell : PySem.W.keepIn K (.ref f__law_cell) = true)
    (a__law_whole : PySem.W.nsIn K mainGlobals "_law_whole" = some (some (.ref f__law_whole))) (l__law_whole : K.lookup f__law_whole = some ⟨oc__law_whole, od__law_whole, .func (PySem.W.fnOf "_law_whole" "_law_whole" (defArgs s__law_whole) (defBody s__law_whole) (defScope s__law_whole) .none kV__law_whole dc__law_whole pm__law_whole an__law_whole cd__law_whole ct__law_whole), sl__law_whole⟩) (c__law_whole : PySem.W.codeIn K cd__law_whole "_law_whole" = true) (k__law_whole : PySem.W.keepIn K (.ref f__law_whole) = true)
    (a__law_wholes : PySem.W.nsIn K mainGlobals "_law_wholes" = some (some (.ref f__law_wholes))) (l__law_wholes : K.lookup f__law_wholes = some ⟨oc__law_wholes, od__law_wholes, .func (PySem.W.fnOf "_law_wholes" "_law_wholes" (defArgs s__law_wholes) (defBody s__law_wholes) (defScope s__law_wholes) .none kV__law_wholes dc__law_wholes pm__law_wholes an__law_wholes cd__law_wholes ct__law_wholes), sl__law_wholes⟩) (c__law_wholes : PySem.W.codeIn K cd__law_wholes "_law_wholes" = true) (k__law_wholes : PySem.W.keepIn K (.ref f__law_wholes) = true)
    (a__law_drawn : PySem.W.nsIn K mainGlobals "_law_drawn" = some (some (.ref f__law_drawn))) (l__law_drawn : K.lookup f__law_drawn = some ⟨oc__law_drawn, od__law_drawn, .func (PySem.W.fnOf "_law_drawn" "_law_drawn" (defArgs s__law_drawn) (defBody s__law_drawn) (defScope s__law_drawn) .none kV__law_drawn dc__law_drawn pm__law_drawn an__law_drawn cd__law_drawn ct__law_drawn), sl__law_drawn⟩) (c__law_drawn : PySem.W.codeIn K cd__law_drawn "_law_drawn" = true) (k__law_drawn : PySem.W.keepIn K (.ref f__law_drawn) = true)
    (a__law_amount : PySem.W.nsIn K mainGlobals "_law_amount" = some (some (.ref f__law_amount))) (l__law_amount : K.lookup f__law_amount = some ⟨oc__law_amount, od__law_amount, .func (PySem.W.fnOf "_law_amount" "_law_amount" (defArgs s__law_amount) (defBody s__law_amount) (defScope s__law_amount) .none kV__law_amount dc__law_amount pm__law_amount an__law_amount cd__law_amount ct__law_amount), sl__law_amount⟩) (c__law_amount : PySem.W.codeIn K cd__law_amount "_law_amount" = true) (k__law_amount : PySem.W.keepIn K (.ref f__law_amount) = true)
    (a__law_due : PySem.W.nsIn K mainGlobals "_law_due" = some (some (.ref f__law_due))) (l__law_due : K.lookup f__law_due = some ⟨oc__law_due, od__law_due, .func (PySem.W.fnOf "_law_due" "_law_due" (defArgs s__law_due) (defBody s__law_due) (defScope s__law_due) .none kV__law_due dc__law_due pm__law_due an__law_due cd__law_due ct__law_due), sl__law_due⟩) (c__law_due : PySem.W.codeIn K cd__law_due "_law_due" = true) (k__law_due : PySem.W.keepIn K (.ref f__law_due) = true)
    (a__law_sheet : PySem.W.nsIn K mainGlobals "_law_sheet" = some (some (.ref f__law_sheet))) (l__law_sheet : K.lookup f__law_sheet = some ⟨oc__law_sheet, od__law_sheet, .func (PySem.W.fnOf "_law_sheet" "_law_sheet" (defArgs s__law_sheet) (defBody s__law_sheet) (defScope s__law_sheet) .none kV__law_sheet dc__law_sheet pm__law_sheet an__law_sheet cd__law_sheet ct__law_sheet), sl__law_sheet⟩) (c__law_sheet : PySem.W.codeIn K cd__law_sheet "_law_sheet" = true) (k__law_sheet : PySem.W.keepIn K (.ref f__law_sheet) = true)
    (a__law_forward : PySem.W.nsIn K mainGlobals "_law_forward" = some (some (.ref f__law_forward))) (l__law_forward : K.lookup f__law_forward = some ⟨oc__law_forward, od__law_forward, .func (PySem.W.fnOf "_law_forward" "_law_forward" (defArgs s__law_forward) (defBody s__law_forward) (defScope s__law_forward) .none kV__law_forward dc__law_forward pm__law_forward an__law_forward cd__law_forward ct__law_forward), sl__law_forward⟩) (c__law_forward : PySem.W.codeIn K cd__law_forward "_law_forward" = true) (k__law_forward : PySem.W.keepIn K (.ref f__law_forward) = true)
    (a__law_is_ring : PySem.W.nsIn K mainGlobals "_law_is_ring" = some (some (.ref f__law_is_ring))) (l__law_is_ring : K.lookup f__law_is_ring = some ⟨oc__law_is_ring, od__law_is_ring, .func (PySem.W.fnOf "_law_is_ring" "_law_is_ring" (defArgs s__law_is_ring) (defBody s__law_is_ring) (defScope s__law_is_ring) .none kV__law_is_ring dc__law_is_ring pm__law_is_ring an__law_is_ring cd__law_is_ring ct__law_is_ring), sl__law_is_ring⟩) (c__law_is_ring : PySem.W.codeIn K cd__law_is_ring "_law_is_ring" = true) (k__law_is_ring : PySem.W.keepIn K (.ref f__law_is_ring) = true)
    (a__law_lined_up : PySem.W.nsIn K mainGlobals "_law_lined_up" = some (some (.ref f__law_lined_up))) (l__law_lined_up : K.lookup f__law_lined_up = some ⟨oc__law_lined_up, od__law_lined_up, .func (PySem.W.fnOf "_law_lined_up" "_law_lined_up" (defArgs s__law_lined_up) (defBody s__law_lined_up) (defScope s__law_lined_up) .none kV__law_lined_up dc__law_lined_up pm__law_lined_up an__law_lined_up cd__law_lined_up ct__law_lined_up), sl__law_lined_up⟩) (c__law_lined_up : PySem.W.codeIn K cd__law_lined_up "_law_lined_up" = true) (k__law_lined_up : PySem.W.keepIn K (.ref f__law_lined_up) = true)
    (a__law_refused : PySem.W.nsIn K mainGlobals "_law_refused" = some (some (.ref f__law_refused))) (l__law_refused : K.lookup f__law_refused = some ⟨oc__law_refused, od__law_refused, .func (PySem.W.fnOf "_law_refused" "_law_refused" (defArgs s__law_refused) (defBody s__law_refused) (defScope s__law_refused) .none kV__law_refused dc__law_refused pm__law_refused an__law_refused cd__law_refused ct__law_refused), sl__law_refused⟩) (c__law_refused : PySem.W.codeIn K cd__law_refused "_law_refused" = true) (k__law_refused : PySem.W.keepIn K (.ref f__law_refused) = true)
    (a_law : PySem.W.nsIn K mainGlobals "law" = some (some (.ref f_law))) (l_law : K.lookup f_law = some ⟨oc_law, od_law, .func (PySem.W.fnOf "law" "law" (defArgs s_law) (defBody s_law) (defScope s_law) .none kV_law dc_law pm_law an_law cd_law ct_law), sl_law⟩) (c_law : PySem.W.codeIn K cd_law "law" = true) (k_law : PySem.W.keepIn K (.ref f_law) = true)
    (w_ValueError : PySem.W.nsIn K mainGlobals "ValueError" = some none)
    (w_bool : PySem.W.nsIn K mainGlobals "bool" = some none)
    (w_enumerate : PySem.W.nsIn K mainGlobals "enumerate" = some none)
    (w_int : PySem.W.nsIn K mainGlobals "int" = some none)
    (w_isinstance : PySem.W.nsIn K mainGlobals "isinstance" = some none)
    (w_len : PySem.W.nsIn K mainGlobals "len" = some none)
    (w_list : PySem.W.nsIn K mainGlobals "list" = some none)
    (w_max : PySem.W.nsIn K mainGlobals "max" = some none)
    (w_range : PySem.W.nsIn K mainGlobals "range" = some none)
    (w_sorted : PySem.W.nsIn K mainGlobals "sorted" = some none) : Txt K mg := {
    c_Bare := c_Bare, m_Bare := PySem.W.mg_of X G m_Bare,
    c_Closed := c_Closed, m_Closed := PySem.W.mg_of X G m_Closed,
    c_Gone := c_Gone, m_Gone := PySem.W.mg_of X G m_Gone,
    c_NoAnswer := c_NoAnswer, m_NoAnswer := PySem.W.mg_of X G m_NoAnswer,
    c_NoDeal := c_NoDeal, m_NoDeal := PySem.W.mg_of X G m_NoDeal,
    c_NoLayer := c_NoLayer, m_NoLayer := PySem.W.mg_of X G m_NoLayer,
    c_NoMember := c_NoMember, m_NoMember := PySem.W.mg_of X G m_NoMember,
    c_NoPart := c_NoPart, m_NoPart := PySem.W.mg_of X G m_NoPart,
    c_NoRule := c_NoRule, m_NoRule := PySem.W.mg_of X G m_NoRule,
    c_NoTerms := c_NoTerms, m_NoTerms := PySem.W.mg_of X G m_NoTerms,
    c_Out := c_Out, m_Out := PySem.W.mg_of X G m_Out,
    c_Poor := c_Poor, m_Poor := PySem.W.mg_of X G m_Poor,
    c_QuitsError := c_QuitsError, m_QuitsError := PySem.W.mg_of X G m_QuitsError,
    c_Ringed := c_Ringed, m_Ringed := PySem.W.mg_of X G m_Ringed,
    c_Settled := c_Settled, m_Settled := PySem.W.mg_of X G m_Settled,
    c_Standing := c_Standing, m_Standing := PySem.W.mg_of X G m_Standing,
    c_TooMuch := c_TooMuch, m_TooMuch := PySem.W.mg_of X G m_TooMuch,
    c_Unclosed := c_Unclosed, m_Unclosed := PySem.W.mg_of X G m_Unclosed,
    e_Ringed := errOk_mk x_Ringed ga_Ringed gn_Ringed be_Ringed hd_Ringed fa_Ringed sn_ tk_ mo_Ringed,
    i_Ringed_Bare := kit_ne n_Ringed_Bare hd_Bare ty_Bare s_Ringed_Bare,
    i_Ringed_Closed := kit_ne n_Ringed_Closed hd_Closed ty_Closed s_Ringed_Closed,
    i_Ringed_Gone := kit_ne n_Ringed_Gone hd_Gone ty_Gone s_Ringed_Gone,
    i_Ringed_NoAnswer := kit_ne n_Ringed_NoAnswer hd_NoAnswer ty_NoAnswer s_Ringed_NoAnswer,
    i_Ringed_NoDeal := kit_ne n_Ringed_NoDeal hd_NoDeal ty_NoDeal s_Ringed_NoDeal,
    i_Ringed_NoLayer := kit_ne n_Ringed_NoLayer hd_NoLayer ty_NoLayer s_Ringed_NoLayer,
    i_Ringed_NoMember := kit_ne n_Ringed_NoMember hd_NoMember ty_NoMember s_Ringed_NoMember,
    i_Ringed_NoPart := kit_ne n_Ringed_NoPart hd_NoPart ty_NoPart s_Ringed_NoPart,
    i_Ringed_NoRule := kit_ne n_Ringed_NoRule hd_NoRule ty_NoRule s_Ringed_NoRule,
    i_Ringed_NoTerms := kit_ne n_Ringed_NoTerms hd_NoTerms ty_NoTerms s_Ringed_NoTerms,
    i_Ringed_Out := kit_ne n_Ringed_Out hd_Out ty_Out s_Ringed_Out,
    i_Ringed_Poor := kit_ne n_Ringed_Poor hd_Poor ty_Poor s_Ringed_Poor,
    i_Ringed_QuitsError := kit_ne n_Ringed_QuitsError hd_QuitsError ty_QuitsError s_Ringed_QuitsError,
    i_Ringed_Ringed := kit_self,
    i_Ringed_Settled := kit_ne n_Ringed_Settled hd_Settled ty_Settled s_Ringed_Settled,
    i_Ringed_Standing := kit_ne n_Ringed_Standing hd_Standing ty_Standing s_Ringed_Standing,
    i_Ringed_TooMuch := kit_ne n_Ringed_TooMuch hd_TooMuch ty_TooMuch s_Ringed_TooMuch,
    i_Ringed_Unclosed := kit_ne n_Ringed_Unclosed hd_Unclosed ty_Unclosed s_Ringed_Unclosed,
    i_Ringed_ValueError := kit_V v_Ringed,
    q_Ringed_QuitsError := exm_mk b_QuitsError hd_QuitsError ty_QuitsError s_Ringed_QuitsError,
    d_a_ring := { a := f_a_ring, fd := _, F := fun_mk (st := s_a_ring) l_a_ring c_a_ring k_a_ring, b := (fun_mk (st := s_a_ring) l_a_ring c_a_ring k_a_ring).binds (ps := ["many", "sheet"]) fun _ _ _ _ _ _ us hl => (by obtain ⟨_, _, rfl⟩ := len2 hl; rfl), m := PySem.W.mg_of X G a_a_ring },
    d_ways_onward := { a := f_ways_onward, fd := _, F := fun_mk (st := s_ways_onward) l_ways_onward c_ways_onward k_ways_onward, b := (fun_mk (st := s_ways_onward) l_ways_onward c_ways_onward k_ways_onward).binds (ps := ["many", "sheet"]) fun _ _ _ _ _ _ us hl => (by obtain ⟨_, _, rfl⟩ := len2 hl; rfl), m := PySem.W.mg_of X G a_ways_onward },
    d_dues_among := { a := f_dues_among, fd := _, F := fun_mk (st := s_dues_among) l_dues_among c_dues_among k_dues_among, b := (fun_mk (st := s_dues_among) l_dues_among c_dues_among k_dues_among).binds (ps := ["sheet", "going"]) fun _ _ _ _ _ _ us hl => (by obtain ⟨_, _, rfl⟩ := len2 hl; rfl), m := PySem.W.mg_of X G a_dues_among },
    d_lined := { a := f_lined, fd := _, F := fun_mk (st := s_lined) l_lined c_lined k_lined, b := (fun_mk (st := s_lined) l_lined c_lined k_lined).binds (ps := ["many", "sheet"]) fun _ _ _ _ _ _ us hl => (by obtain ⟨_, _, rfl⟩ := len2 hl; rfl), m := PySem.W.mg_of X G a_lined },
    d_free_members := { a := f_free_members, fd := _, F := fun_mk (st := s_free_members) l_free_members c_free_members k_free_members, b := (fun_mk (st := s_free_members) l_free_members c_free_members k_free_members).binds (ps := ["many", "sheet", "line"]) fun _ _ _ _ _ _ us hl => (by obtain ⟨_, _, _, rfl⟩ := len3 hl; rfl), m := PySem.W.mg_of X G a_free_members },
    d__law_cell := { a := f__law_cell, fd := _, F := fun_mk (st := s__law_cell) l__law_cell c__law_cell k__law_cell, b := (fun_mk (st := s__law_cell) l__law_cell c__law_cell k__law_cell).binds (ps := ["_law_script", "_law_k"]) fun _ _ _ _ _ _ us hl => (by obtain ⟨_, _, rfl⟩ := len2 hl; rfl), m := PySem.W.mg_of X G a__law_cell },
    d__law_whole := { a := f__law_whole, fd := _, F := fun_mk (st := s__law_whole) l__law_whole c__law_whole k__law_whole, b := (fun_mk (st := s__law_whole) l__law_whole c__law_whole k__law_whole).binds (ps := ["_law_thing"]) fun _ _ _ _ _ _ us hl => (by obtain ⟨_, rfl⟩ := len1 hl; rfl), m := PySem.W.mg_of X G a__law_whole },
    d__law_wholes := { a := f__law_wholes, fd := _, F := fun_mk (st := s__law_wholes) l__law_wholes c__law_wholes k__law_wholes, b := (fun_mk (st := s__law_wholes) l__law_wholes c__law_wholes k__law_wholes).binds (ps := ["_law_told", "_law_size"]) fun _ _ _ _ _ _ us hl => (by obtain ⟨_, _, rfl⟩ := len2 hl; rfl), m := PySem.W.mg_of X G a__law_wholes },
    d__law_drawn := { a := f__law_drawn, fd := _, F := fun_mk (st := s__law_drawn) l__law_drawn c__law_drawn k__law_drawn, b := (fun_mk (st := s__law_drawn) l__law_drawn c__law_drawn k__law_drawn).binds (ps := ["_law_script", "_law_k", "_law_seed"]) fun _ _ _ _ _ _ us hl => (by obtain ⟨_, _, _, rfl⟩ := len3 hl; rfl), m := PySem.W.mg_of X G a__law_drawn },
    d__law_amount := { a := f__law_amount, fd := _, F := fun_mk (st := s__law_amount) l__law_amount c__law_amount k__law_amount, b := (fun_mk (st := s__law_amount) l__law_amount c__law_amount k__law_amount).binds (ps := ["_law_number", "_law_seed"]) fun _ _ _ _ _ _ us hl => (by obtain ⟨_, _, rfl⟩ := len2 hl; rfl), m := PySem.W.mg_of X G a__law_amount },
    d__law_due := { a := f__law_due, fd := _, F := fun_mk (st := s__law_due) l__law_due c__law_due k__law_due, b := (fun_mk (st := s__law_due) l__law_due c__law_due k__law_due).binds (ps := ["_law_number", "_law_many", "_law_seed"]) fun _ _ _ _ _ _ us hl => (by obtain ⟨_, _, _, rfl⟩ := len3 hl; rfl), m := PySem.W.mg_of X G a__law_due },
    d__law_sheet := { a := f__law_sheet, fd := _, F := fun_mk (st := s__law_sheet) l__law_sheet c__law_sheet k__law_sheet, b := (fun_mk (st := s__law_sheet) l__law_sheet c__law_sheet k__law_sheet).binds (ps := ["_law_script", "_law_many", "_law_most"]) fun _ _ _ _ _ _ us hl => (by obtain ⟨_, _, _, rfl⟩ := len3 hl; rfl), m := PySem.W.mg_of X G a__law_sheet },
    d__law_forward := { a := f__law_forward, fd := _, F := fun_mk (st := s__law_forward) l__law_forward c__law_forward k__law_forward, b := (fun_mk (st := s__law_forward) l__law_forward c__law_forward k__law_forward).binds (ps := ["_law_due_here", "_law_seed"]) fun _ _ _ _ _ _ us hl => (by obtain ⟨_, _, rfl⟩ := len2 hl; rfl), m := PySem.W.mg_of X G a__law_forward },
    d__law_is_ring := { a := f__law_is_ring, fd := _, F := fun_mk (st := s__law_is_ring) l__law_is_ring c__law_is_ring k__law_is_ring, b := (fun_mk (st := s__law_is_ring) l__law_is_ring c__law_is_ring k__law_is_ring).binds (ps := ["_law_told", "_law_sheet_here", "_law_left"]) fun _ _ _ _ _ _ us hl => (by obtain ⟨_, _, _, rfl⟩ := len3 hl; rfl), m := PySem.W.mg_of X G a__law_is_ring },
    d__law_lined_up := { a := f__law_lined_up, fd := _, F := fun_mk (st := s__law_lined_up) l__law_lined_up c__law_lined_up k__law_lined_up, b := (fun_mk (st := s__law_lined_up) l__law_lined_up c__law_lined_up k__law_lined_up).binds (ps := ["_law_told", "_law_many", "_law_sheet_here"]) fun _ _ _ _ _ _ us hl => (by obtain ⟨_, _, _, rfl⟩ := len3 hl; rfl), m := PySem.W.mg_of X G a__law_lined_up },
    d__law_refused := { a := f__law_refused, fd := _, F := fun_mk (st := s__law_refused) l__law_refused c__law_refused k__law_refused, b := (fun_mk (st := s__law_refused) l__law_refused c__law_refused k__law_refused).binds (ps := ["_law_many", "_law_sheet_here"]) fun _ _ _ _ _ _ us hl => (by obtain ⟨_, _, rfl⟩ := len2 hl; rfl), m := PySem.W.mg_of X G a__law_refused },
    d_law := { a := f_law, fd := _, F := fun_mk (st := s_law) l_law c_law k_law, b := (fun_mk (st := s_law) l_law c_law k_law).binds (ps := ["_law_script"]) fun _ _ _ _ _ _ us hl => (by obtain ⟨_, rfl⟩ := len1 hl; rfl), m := PySem.W.mg_of X G a_law },
    bl_law := fun s v => .of_eq rfl,
    z_ValueError := PySem.W.mg_none_of X G w_ValueError,
    z_bool := PySem.W.mg_none_of X G w_bool,
    z_enumerate := PySem.W.mg_none_of X G w_enumerate,
    z_int := PySem.W.mg_none_of X G w_int,
    z_isinstance := PySem.W.mg_none_of X G w_isinstance,
    z_len := PySem.W.mg_none_of X G w_len,
    z_list := PySem.W.mg_none_of X G w_list,
    z_max := PySem.W.mg_none_of X G w_max,
    z_range := PySem.W.mg_none_of X G w_range,
    z_sorted := PySem.W.mg_none_of X G w_sorted }
section
variable {P : Program} {w : World} {K : PySem.W.Frag} {mg : Str → Option Value} {base : Heap}

theorem ok_dues_among (T : Txt K mg) : FnOk P w K mg base (CXF P w) 1 T.d_dues_among.a T.d_dues_among.fd ["sheet", "going"] (spAmong K) := by
  refine T.d_dues_among.F.okN sc_dues_among (fun vs H Q E h => ?_) (fun cdv A outer s H vs Q E hr h => ?_)
  · obtain ⟨a, b, ds, n, g, rfl, _⟩ := h; rfl
  obtain ⟨a, b, ds, n, g, rfl, ⟨xs, hS, hT⟩, hB, hn, hl, hd, k⟩ := h
  have hxl := hT.length
  have hbl : (bls n g).length = n := bls_len
  refine ⟨_, (pss_cons (ps_set (i := 2) sc_dues_among.nd rfl (Or.inl rfl) (pe_op op_mulU (pe_lst (pa_cons pe_non pa_nil)) (pe_callB (show CallR _ _ (rLen K) from call_lenU) rfl T.z_len BT.len (pa_cons (pv 1) pa_nil))))
 (pss_cons (ps_for PassesOwn.never rfl (show PI _ _ _ (iEnum K _) from pi_enum rfl T.z_enumerate (pa_cons (pv 0) pa_nil)) (show PG _ _ (gTup K 2 _) from pg_tup (n := 2) rfl (pgs_cons (pg_name (i := 3) sc_dues_among.nd rfl (Or.inl rfl)) (pgs_cons (pg_name (i := 4) sc_dues_among.nd rfl (Or.inl rfl)) pgs_nil)))
  (pss_one (ps_if (PW.pt (pw_and (pt_cmpR op_gt (pe_ix (show IxR _ (rIx K) from ix_seq) (pv 4) pe_int (fun _ _ => rfl)) pe_int (nomark _)) (pw_and (show PT _ _ (tTru K _) from pt_truthU (pe_ix (show IxR _ (rIx K) from ix_seq) (pv 1) (pe_ix (show IxR _ (rIx K) from ix_seq) (pv 4) pe_int (fun _ _ => rfl)) (fun _ _ => rfl)) (fun _ => rfl)) (pw_and1 (show PT _ _ (tTru K _) from pt_truthU (pe_ix (show IxR _ (rIx K) from ix_seq) (pv 1) (pe_ix (show IxR _ (rIx K) from ix_seq) (pv 4) pe_int (fun _ _ => rfl)) (fun _ _ => rfl)) (fun _ => rfl))))))
  (pss_one (ps_asg (pv 3) (pg_sub (pv 2) (pe_ix (show IxR _ (rIx K) from ix_seq) (pv 4) pe_int (fun _ _ => rfl)) set_list)))
  pss_nil)))
 (pss_one (ps_ret (pv 2))))), ?_⟩
  refine x_start (σ0 := [some (.ref a), some (.ref b), none, none, none]) rfl ?_
  walk_at "x"
  rename_i l0 H0 fl0 e0 hl0 l H1 fl e1 hl1
  rw [Int.toNat_natCast, hbl] at hl1
  refine x_forS (src_enum (K := K) (a := a) (xs := xs)) (fun i σ' H' => ∃ f3 f4, σ' = [some (.ref a), some (.ref b), some (.ref l), f3, f4] ∧ H' l = some (.lst (optL n (onwF ds g i))) ∧ Same H H') ?_ ?_ ?_ ?_
  · exact ⟨_, _, rfl, hl1, by walk_at "h"⟩
  · rintro i σ' H' ⟨_, _, _, _, e⟩; exact e.seq hS
  · rintro i y σ' H3 H4 hi ⟨f3, f4, rfl, hl3, e3⟩ e4 ⟨t, v, rfl, hv, ht⟩
    obtain ⟨c, d, rfl, hdi, hc⟩ := (hT.same (e3.trans e4)).get hv
    have hc' : H4 c = some (.tup [.int d.p, .int d.q, .int d.r, .int d.a]) := hc
    obtain ⟨p0, p1, q0, q1, pq, r0, r1, a0, a1⟩ := hd d (List.mem_of_getElem? hdi)
    have hat1 : atI (bls n g) d.p = some (.bl (g d.p.toNat)) := atI_lt p0 (bls_get (by omega))
    have hat2 : atI (bls n g) d.q = some (.bl (g d.q.toNat)) := atI_lt q0 (bls_get (by omega))
    have hB4 := (e3.trans e4).seq hB
    have es : ∀ m, onwF ds g (i + 1) m = if useful g m d then some i else onwF ds g i m := onwF_succ hdi
    walk_at "x"
    · rename_i h1 h2 h3
      refine x_setN (by walk_at "h") (show ixN (optL n (onwF ds g i)).length d.p = some d.p.toNat by rw [optL_len]; exact ixN_lt p0 (by omega)) fun H5 b5 h5 => ?_
      refine ⟨_, _, rfl, ?_, by walk_at "h"⟩
      rw [h5]
      show some (HO.lst ((optL n (onwF ds g i)).set d.p.toNat (optV (some i)))) = _
      rw [optL_set]
      congr 2
      refine optL_congr fun m hm => ?_
      rw [es m]
      by_cases e : m = d.p.toNat
      · rw [if_pos e, if_pos ⟨by omega, h1, h2, h3⟩]
      · rw [if_neg e, if_neg (fun z => e (by have := z.1; omega))]
    all_goals
      refine ⟨_, _, rfl, ?_, by walk_at "h"⟩
      rw [e4.at hl3]
      congr 2
      refine optL_congr fun m hm => ?_
      rw [es m, if_neg]
      rintro ⟨z1, z2, z3, z4⟩
      simp_all
  · rintro σ' H3 ⟨f3, f4, rfl, hl3, e3⟩
    rw [hxl] at hl3
    walk_at "x"
    exact k _ _ (by walk_at "h") e3 hl3
theorem ok_ways_onward (T : Txt K mg) : FnOk P w K mg base (CXF P w) 2 T.d_ways_onward.a T.d_ways_onward.fd ["many", "sheet"] (spWays K) := by
  refine T.d_ways_onward.F.okN sc_ways_onward (fun vs H Q E h => ?_) (fun cdv A outer s H vs Q E hr h => ?_)
  · obtain ⟨n, a, ds, rfl, _⟩ := h; rfl
  obtain ⟨n, a, ds, rfl, hS, n0, n1, hl, hd, k⟩ := h
  have hdN : ∀ d ∈ ds, DueOk (n.toNat : Int) d := by rw [show (n.toNat : Int) = n by omega]; exact hd
  refine ⟨_, (pss_cons (ps_set (i := 2) sc_ways_onward.nd rfl (Or.inl rfl) (pe_op op_mulU (pe_lst (pa_cons pe_bl pa_nil)) (pv 0)))
 (pss_cons (ps_set (i := 3) sc_ways_onward.nd rfl (Or.inl rfl) (pe_op op_mulU (pe_lst (pa_cons pe_non pa_nil)) (pv 0)))
 (pss_cons (ps_for PassesOwn.never rfl (pi_range1 rfl T.z_range (pa_cons (pv 0) pa_nil)) (pg_name (i := 4) sc_ways_onward.nd rfl (Or.inl rfl))
  (pss_cons (ps_set (i := 3) sc_ways_onward.nd rfl (Or.inl rfl) (pe_call (ok_dues_among T) (hr.mono (by decide)) rfl T.d_dues_among.m T.d_dues_among.F.kp T.d_dues_among.b .nil (passN nox_F) (pa_cons (pv 1) (pa_cons (pv 2) pa_nil))))
 (pss_one (ps_setC (i := 2) sc_ways_onward.nd rfl rfl rfl (show PI _ _ _ (iList K _) from pi_list (pv 3)) (compScope_of (Ni := ["number"]) (caps := [none]) (by rfl)) (fun S _ _ _ _ _ => (pg_nameC (gi := 0) S (Or.inl rfl) rfl)) (fun _ _ _ _ _ => pf_nil) (fun _ _ _ _ _ => (pe_cmpR op_notN (pv 0) pe_non (nomark _)))))))
 (pss_one (ps_ret (pv 3)))))), ?_⟩
  refine x_start (σ0 := [some (.int n), some (.ref a), none, none, none]) rfl ?_
  walk_at "x"
  rename_i l0 H0 fl0 e0 hl0 go H1 fgo e1 hgo l1 H2 fl1 e2 hl1 on H3 fon e3 hon
  refine x_forR (fun i σ' H' => ∃ (g o : Addr) (f4 : Option V), σ' = [some (.int n), some (.ref a), some (.ref g), some (.ref o), f4] ∧ H' g = some (.lst (bls n.toNat (goF ds i))) ∧ H' o = some (.lst (optL n.toNat (wayF ds i))) ∧ Same H H' ∧ H o = none) ?_ ?_ ?_
  · exact ⟨_, _, _, rfl, by walk_at "h", hon, by walk_at "h", by walk_at "h"⟩
  · rintro i σ' H4 hi ⟨g, o, f4, rfl, hg, ho, e4, fo⟩
    walk_at "x"
    rename_i p H5 fp e5 hp
    refine x_compS1 (src_list (K := K) (a := p) (xs := optL n.toNat (wayF ds (i + 1)))) (fun H' e => SqL.of (e.at hp)) rfl (fun j vs _ => vs = bls j (goF ds (i + 1))) (fun H' _ => rfl) ?_ ?_
    · rintro j x D vs o2 H6 H7 hj hD e6 hv hvl rfl e7 hx
      have hj' : j < n.toNat := by rw [optL_len] at hj; exact hj
      rw [optL_get hj'] at hx; cases hx
      walk_at "x"
      rename_i H8 b8 h8
      refine ⟨⟨_, rfl⟩, by walk_at "h", _, h8, by rw [List.length_append]; exact Nat.succ_le_succ hvl, ?_⟩
      show _ = bls (j + 1) _
      rw [bls_succ, optV_non]
      congr 2
      show V.bl (!(wayF ds (i + 1) j).isNone) = V.bl ((wayF ds (i + 1) j).isSome)
      cases wayF ds (i + 1) j <;> rfl
    · rintro D H6 vs hD e6 hv hvl rfl
      rw [optL_len] at hv
      exact ⟨_, _, _, rfl, hv, by walk_at "h", by walk_at "h", by walk_at "h"⟩
  · rintro σ' H4 ⟨g, o, f4, rfl, hg, ho, e4, fo⟩
    walk_at "x"
    exact k _ _ fo e4 ho
theorem ok_a_ring (T : Txt K mg) : FnOk P w K mg base (CXF P w) 3 T.d_a_ring.a T.d_a_ring.fd ["many", "sheet"] (spRing K) := by
  refine T.d_a_ring.F.okN sc_a_ring (fun vs H Q E h => ?_) (fun cdv A outer s H vs Q E hr h => ?_)
  · obtain ⟨n, a, ds, rfl, _⟩ := h; rfl
  obtain ⟨n, a, ds, rfl, hS, n0, n1, hl, hd, k⟩ := h
  have hdN : ∀ d ∈ ds, DueOk (n.toNat : Int) d := by rw [show (n.toNat : Int) = n by omega]; exact hd
  refine ⟨_, (pss_cons (ps_set (i := 2) sc_a_ring.nd rfl (Or.inr rfl) (pe_call (ok_ways_onward T) (hr.mono (by decide)) rfl T.d_ways_onward.m T.d_ways_onward.F.kp T.d_ways_onward.b .nil (passN nox_F) (pa_cons (pv 0) (pa_cons (pv 1) pa_nil))))
 (pss_cons (ps_setC (i := 3) sc_a_ring.nd rfl rfl rfl (pi_range1 rfl T.z_range (pa_cons (pv 0) pa_nil)) (compScope_of (Ni := ["member", "onward"]) (caps := [none, some 2]) (by rfl)) (fun S _ _ _ _ _ => (pg_nameC (gi := 0) S (Or.inl rfl) rfl)) (fun _ _ _ _ _ => (pf_one (pt_cmpR op_notN (pe_ix (show IxR _ (rIx K) from ix_seq) (pv 1) (pv 0) (fun _ _ => rfl)) pe_non (nomark _)))) (fun _ _ _ _ _ => (pv 0)))
 (pss_cons (ps_if (pt_cmpR (show OpR _ (compareOp .Eq) (rEqU K) from op_eqU hr.units) (pv 3) (pe_lst pa_nil) (nomark _))
  (pss_one (ps_ret (pe_lst pa_nil)))
  pss_nil)
 (pss_cons (ps_set (i := 4) sc_a_ring.nd rfl (Or.inl rfl) (pe_lst pa_nil))
 (pss_cons (ps_set (i := 5) sc_a_ring.nd rfl (Or.inl rfl) (pe_ix (show IxR _ (rIx K) from ix_seq) (pv 3) pe_int (fun _ _ => rfl)))
 (pss_cons (ps_while PassesOwn.never (pt_cmpR (show OpR _ (compareOp .NotIn) (rIn K true) from op_notIn_seq) (pv 5) (pv 4) (by with_unfolding_all rfl))
  (pss_cons (ps_expr (show PE _ _ (tBM K _ _ _ _) from pe_bm PySem.F.plainAttrs_list PySem.F.slot_list_append PySem.F.type_list_append mt_append (pv 4) (pa_cons (pv 5) pa_nil)))
 (pss_one (ps_set (i := 5) sc_a_ring.nd rfl (Or.inl rfl) (pe_ix (show IxR _ (rIx K) from ix_seq) (pe_ix (show IxR _ (rIx K) from ix_seq) (pv 1) (pe_ix (show IxR _ (rIx K) from ix_seq) (pv 2) (pv 5) (fun _ _ => rfl)) (fun _ _ => rfl)) pe_int (fun _ _ => rfl))))))
 (pss_one (ps_ret (pe_comp rfl (show PI _ _ _ (iList K _) from pi_list (pe_slice (show SlR _ (rSlL K) from sl_list) (pv 4) (po_some (show PE _ _ (tBM K _ _ _ _) from pe_bm PySem.F.plainAttrs_list PySem.F.slot_list_index PySem.F.type_list_index mt_index (pv 4) (pa_cons (pv 5) pa_nil))) po_none)) (compScope_of (Ni := ["payer", "onward"]) (caps := [none, some 2]) (by rfl)) (fun S _ _ _ _ _ => (pg_nameC (gi := 0) S (Or.inl rfl) rfl)) (fun _ _ _ _ _ => pf_nil) (fun _ _ _ _ _ => (pe_ix (show IxR _ (rIx K) from ix_seq) (pv 1) (pv 0) (fun _ _ => rfl)))))))))))), ?_⟩
  refine x_start (σ0 := [some (.int n), some (.ref a), none, none, none, none]) rfl ?_
  walk_at "x"
  rename_i on H1 fon e1 hon
  refine x_compS1 src_range (fun _ _ => trivial) rfl (fun j vs _ => vs = (natI (goL ds n.toNat j)).map V.int) (fun H' _ => rfl) ?_ ?_
  · rintro j x D vs o2 H6 H7 hj hD e6 hv hvl rfl e7 rfl
    have ej : (0 : Int) + (j : Int) = j := by omega
    have hat : atI (optL n.toNat (wayF ds n.toNat)) ((0 : Int) + (j : Int)) = some (optV (wayF ds n.toNat j)) := atI_lt (by omega) (by rw [show ((0 : Int) + (j : Int)).toNat = j by omega, optL_get hj])
    have es := goL_succ (ds := ds) (n := n.toNat) (i := j)
    walk_at "x"
    · rename_i h H8 b8 h8
      have hsome : (wayF ds n.toNat j).isSome = true := by
        cases e : wayF ds n.toNat j with
        | none => rw [e] at h; exact absurd rfl h
        | some _ => rfl
      rw [if_pos hsome] at es
      rw [ej] at h8
      refine ⟨⟨_, rfl⟩, by walk_at "h", _, h8, by rw [List.length_append]; exact Nat.succ_le_succ hvl, ?_⟩
      show _ = (natI (goL ds n.toNat (j + 1))).map V.int
      rw [es, natI_app, List.map_append]; rfl
    · rename_i h
      have hn : ¬ (wayF ds n.toNat j).isSome = true := by
        cases e : wayF ds n.toNat j with
        | none => simp
        | some i => rw [e] at h; cases h
      rw [if_neg hn, List.append_nil] at es
      exact ⟨⟨_, rfl⟩, by walk_at "h", _, by walk_at "h", by omega, by show _ = (natI (goL ds n.toNat (j + 1))).map V.int; rw [es]⟩
  rintro gl H2 vs fgl e2 hgl hvl rfl
  walk_at "x"
  rename_i l0 H3 fl0 e3 hl0
  by_cases hg : goL ds n.toNat n.toNat = []
  · rw [hg] at hgl
    refine x_eqInts (ns := []) (ms := []) (SqL.of (e3.at hgl)) (SqL.of hl0) rfl ?_
    walk_at "x"
    rename_i l1 H4 fl1 e4 hl1
    refine k _ _ [] (by walk_at "h") (by walk_at "h") hl1 (.inl ⟨rfl, fun m hm => ?_⟩)
    cases e : wayF ds n.toNat m with
    | none => rfl
    | some i =>
      have := mem_goL.mpr ⟨hm, show (wayF ds n.toNat m).isSome = true by rw [e]; rfl⟩
      rw [hg] at this; cases this
  obtain ⟨g0, gs, eg⟩ : ∃ g0 gs, goL ds n.toNat n.toNat = g0 :: gs := by
    cases e : goL ds n.toNat n.toNat with
    | nil => exact absurd e hg
    | cons x xs => exact ⟨x, xs, rfl⟩
  have hg0 : g0 < n.toNat ∧ wayF ds n.toNat g0 ≠ none := by
    have := mem_goL.mp (show g0 ∈ goL ds n.toNat n.toNat by rw [eg]; simp)
    exact ⟨this.1, fun z => by rw [z] at this; cases this.2⟩
  refine x_eqNilF (SqL.of (e3.at hgl)) (SqL.of hl0) (by rw [eg]; exact fun z => nomatch z) ?_
  have hat0 : atI ((natI (goL ds n.toNat n.toNat)).map V.int) 0 = some (.int g0) := atI_lt (by decide) (by rw [eg]; rfl)
  walk_at "x"
  rename_i pa H4 fpa e4 hpa
  obtain ⟨xs, hSx, hTx⟩ := hS
  refine ⟨fun m σ H' => ∃ (ms : List Nat) (x : Nat), σ = [some (.int n), some (.ref a), some (.ref on), some (.ref gl), some (.ref pa), some (.int (x : Int))] ∧ H' pa = some (.lst ((natI ms).map V.int)) ∧ Walked ds n.toNat ms x ∧ Same H3 H' ∧ m = n.toNat - ms.length, ⟨_, [], g0, rfl, hpa, ⟨List.nodup_nil, (fun _ h => nomatch h), hg0, fun i m h => nomatch h⟩, e4, rfl⟩, ?_⟩
  rintro m σ H5 ⟨ms, x, rfl, hp5, hW, e5, rfl⟩
  have hlen := nodup_le n.toNat ms hW.nd fun y hy => (hW.ok y hy).1
  obtain ⟨j, d, w1, w2, w3, w4, w5, w6, w7, w8⟩ := next_ok hdN hW.at'.1 hW.at'.2
  have hat1 : atI (optL n.toNat (wayF ds n.toNat)) (x : Int) = some (.int (j : Int)) := atI_nat (by rw [optL_get hW.at'.1, w1]; rfl)
  have eH5 : Same H H5 := e1.trans (e2.trans (e3.trans e5))
  obtain ⟨c, hc1, hc2⟩ := (hTx.same eH5).getI w2
  have hc' : H5 c = some (.tup [.int d.p, .int d.q, .int d.r, .int d.a]) := hc2
  have hat2 : atI xs (j : Int) = some (.ref c) := atI_nat hc1
  have hmap : ((natI ms).map V.int).length ≤ 100000 := by rw [List.length_map, natI_len]; omega
  have non : on ≠ pa := by walk_at "h"
  have hon5 : H5 on = some (.lst (optL n.toNat (wayF ds n.toNat))) := e5.at (e3.at (e2.at hon))
  have fpaH : H pa = none := Same.none fpa (e1.trans (e2.trans e3))
  walk_at "x"
  · rename_i h
    have hx : x ∉ ms := fun z => h (natI_mem.mpr z)
    have W2 := hW.step hdN hx
    refine ⟨fun σ' H' => ∃ (ms' : List Nat) (x' : Nat), σ' = [some (.int n), some (.ref a), some (.ref on), some (.ref gl), some (.ref pa), some (.int (x' : Int))] ∧ H' pa = some (.lst ((natI ms').map V.int)) ∧ Walked ds n.toNat ms' x' ∧ Same H3 H' ∧ ms.length < ms'.length, ?_, ?_⟩
    · rintro σ' H' ⟨ms', x', rfl, h1, h2, h3, h4⟩
      have := nodup_le n.toNat ms' h2.nd fun y hy => (h2.ok y hy).1
      exact ⟨_, by omega, ms', x', rfl, h1, h2, h3, rfl⟩
    · walk_at "x"
      rename_i H6 b6 h6
      rw [snoc_ints] at h6
      refine ⟨ms ++ [x], nextM ds n.toNat x, by rw [← w5], by rw [natI_app]; exact h6, W2, by walk_at "h", by rw [List.length_append]; exact Nat.lt_succ_self _⟩
  · rename_i h
    have hx : x ∈ ms := natI_mem.mp h
    obtain ⟨i, hi, ei⟩ := List.getElem_of_mem hx
    have hi' : ms[i]? = some x := by rw [List.getElem?_eq_getElem hi, ei]
    have ndI : (natI ms).Nodup := List.pairwise_map.mpr (List.Pairwise.imp (fun hab e => hab (by omega)) hW.nd)
    refine x_index (by walk_at "h") (natI_get hi') (first_at ndI (natI_get hi')) (by rw [natI_len]; omega) ?_
    walk_at "x"
    rename_i cl H6 fcl e6 hcl
    rw [cut_from (by rw [natI_len]; omega)] at hcl
    have hon6 : H6 on = some (.lst (optL n.toNat (wayF ds n.toNat))) := e6.at hon5
    refine x_compS1 (src_list (K := K) (a := cl) (xs := ((natI ms).drop i).map V.int)) (fun H' e => SqL.of (e.at hcl)) rfl (fun u vs _ => vs = (((ms.drop i).take u).map (dueOn ds n.toNat)).map V.int) (fun H' _ => rfl) ?_ ?_
    · rintro u y D vs o H7 H8 hu hD e7 hv hvl rfl e8 hy
      have hu' : u < (ms.drop i).length := by
        rw [List.length_map, List.length_drop, natI_len] at hu
        rw [List.length_drop]; exact hu
      have hdl : (ms.drop i).length ≤ 100000 := by rw [List.length_drop]; omega
      obtain ⟨mu, hmu⟩ := lt_some hu'
      have hmm := List.mem_of_mem_drop (List.mem_of_getElem? hmu)
      obtain ⟨j2, d2, v1, _, _, _, _, _, _, v8⟩ := next_ok hdN (hW.ok mu hmm).1 (hW.ok mu hmm).2
      have ey : y = .int (mu : Int) := by
        have : (((natI ms).drop i).map V.int)[u]? = some (.int (mu : Int)) := by
          rw [List.getElem?_map, List.getElem?_drop]
          rw [List.getElem?_drop] at hmu
          rw [natI_get hmu]; rfl
        rw [this] at hy; exact (Option.some.inj hy).symm
      subst ey
      have hat3 : atI (optL n.toNat (wayF ds n.toNat)) (mu : Int) = some (.int (dueOn ds n.toNat mu)) := atI_nat (by rw [optL_get (hW.ok mu hmm).1, v1, v8]; rfl)
      have hon8 : H8 on = some (.lst (optL n.toNat (wayF ds n.toNat))) := e8.at (e7.at hon6)
      walk_at "x"
      rename_i H9 b9 h9
      refine ⟨⟨_, rfl⟩, by walk_at "h", _, h9, by rw [List.length_append]; exact Nat.succ_le_succ hvl, ?_⟩
      show _ = (((ms.drop i).take (u + 1)).map (dueOn ds n.toNat)).map V.int
      rw [take_snoc hmu, List.map_append, List.map_append]; rfl
    · rintro D H7 vs hD e7 hv hvl rfl
      rw [show (((natI ms).drop i).map V.int).length = (ms.drop i).length by rw [List.length_map, List.length_drop, List.length_drop, natI_len], List.take_length] at hv
      exact k _ _ _ (Same.none hD (eH5.trans e6)) (eH5.trans (e6.trans e7)) hv (hW.ring hi')
theorem ok_free_members (T : Txt K mg) : FnOk P w K mg base (CXF P w) 1 T.d_free_members.a T.d_free_members.fd ["many", "sheet", "line"] (spFree K) := by
  refine T.d_free_members.F.okN sc_free_members (fun vs H Q E h => ?_) (fun cdv A outer s H vs Q E hr h => ?_)
  · obtain ⟨n, a, b, ds, ls, rfl, _⟩ := h; rfl
  obtain ⟨n, a, b, ds, ls, rfl, ⟨xs, hS, hT⟩, hB, n0, n1, hl, hl', k⟩ := h
  have hxl := hT.length
  refine ⟨_, (pss_cons (ps_set (i := 3) sc_free_members.nd rfl (Or.inr rfl) (pe_callTy (show CallR _ _ (rListOf K) from call_listU) rfl T.z_list BT.list (pa_cons (pv 2) pa_nil)))
 (pss_cons (ps_for PassesOwn.never rfl (show PI _ _ _ (iList K _) from pi_list (pv 1)) (pg_name (i := 4) sc_free_members.nd rfl (Or.inl rfl))
  (pss_one (ps_if (PW.pt (pw_and (pt_cmpR op_gt (pe_ix (show IxR _ (rIx K) from ix_seq) (pv 4) pe_int (fun _ _ => rfl)) pe_int (nomark _)) (pw_and1 (pt_cmpR (show OpR _ (compareOp .NotIn) (rIn K true) from op_notIn_seq) (pe_ix (show IxR _ (rIx K) from ix_seq) (pv 4) pe_int (fun _ _ => rfl)) (pv 2) (by with_unfolding_all rfl)))))
  (pss_one (ps_expr (show PE _ _ (tBM K _ _ _ _) from pe_bm PySem.F.plainAttrs_list PySem.F.slot_list_append PySem.F.type_list_append mt_append (pv 3) (pa_cons (pe_ix (show IxR _ (rIx K) from ix_seq) (pv 4) pe_int (fun _ _ => rfl)) pa_nil))))
  pss_nil)))
 (pss_one (ps_ret (pe_comp rfl (pi_range1 rfl T.z_range (pa_cons (pv 0) pa_nil)) (compScope_of (Ni := ["member", "waiting"]) (caps := [none, some 3]) (by rfl)) (fun S _ _ _ _ _ => (pg_nameC (gi := 0) S (Or.inl rfl) rfl)) (fun _ _ _ _ _ => (pf_one (pt_cmpR (show OpR _ (compareOp .NotIn) (rIn K true) from op_notIn_seq) (pv 0) (pv 1) (by with_unfolding_all rfl)))) (fun _ _ _ _ _ => (pv 0))))))), ?_⟩
  refine x_start (σ0 := [some (.int n), some (.ref a), some (.ref b), none, none]) rfl ?_
  walk_at "x"
  rename_i l H1 fl e1 hl1
  have nlb : b ≠ l := by walk_at "h"
  refine x_forL (xs := xs) (fun i σ' H' => ∃ f4, σ' = [some (.int n), some (.ref a), some (.ref b), some (.ref l), f4] ∧ H' l = some (.lst ((ls ++ waitF (ds.take i) ls).map V.int)) ∧ (ls ++ waitF (ds.take i) ls).length ≤ 1000 + i ∧ Same H H') ?_ ?_ ?_ ?_
  · exact ⟨_, rfl, by rw [show waitF (ds.take 0) ls = [] from rfl, List.append_nil]; exact hl1, by rw [show waitF (ds.take 0) ls = [] from rfl, List.append_nil]; exact hl', e1⟩
  · rintro i σ' H' _ ⟨_, _, _, _, e⟩; exact e.seq hS
  · rintro i x σ' H3 hx ⟨f4, rfl, hl3, hlen, e3⟩
    obtain ⟨c, d, rfl, hdi, hc⟩ := (hT.same e3).get hx
    have hc' : H3 c = some (.tup [.int d.p, .int d.q, .int d.r, .int d.a]) := hc
    have hi : i < ds.length := (List.getElem?_eq_some_iff.mp hdi).1
    have hmap : ((ls ++ waitF (ds.take i) ls).map V.int).length ≤ 100000 := by rw [List.length_map]; omega
    have es : waitF (ds.take (i + 1)) ls = waitF (ds.take i) ls ++ if 0 < d.a ∧ d.p ∉ ls then [d.q] else [] := by rw [take_snoc hdi, waitF_snoc]
    walk_at "x"
    · rename_i h1 h2 H4 b4 h4
      rw [if_pos ⟨h1, h2⟩] at es
      rw [es]
      refine ⟨_, rfl, ?_, by rw [← List.append_assoc, List.length_append]; show _ + 1 ≤ _; omega, by walk_at "h"⟩
      rw [h4, ← List.append_assoc, List.map_append (l₂ := [d.q])]; rfl
    all_goals
      rw [if_neg (fun z => by have := z.1; have := z.2; simp_all), List.append_nil] at es
      rw [es]
      exact ⟨_, rfl, hl3, by omega, e3⟩
  · rintro σ' H3 ⟨f4, rfl, hl3, hlen, e3⟩
    rw [hxl, List.take_length] at hl3
    walk_at "x"
    refine x_compS1 src_range (fun _ _ => trivial) rfl (fun i vs _ => vs = (freeL i (ls ++ waitF ds ls)).map V.int) (fun _ _ => rfl) ?_ ?_
    · rintro i x D vs o H4 H5 hi hD e4 hv hvl rfl e5 rfl
      have ei : (0 : Int) + (i : Int) = i := by omega
      have hw5 : H5 l = some (.lst ((ls ++ waitF ds ls).map V.int)) := by walk_at "h"
      walk_at "x"
      · rename_i h H6 b6 h6
        rw [ei] at h h6
        refine ⟨⟨_, rfl⟩, by walk_at "h", _, h6, by rw [List.length_append]; exact Nat.succ_le_succ hvl, ?_⟩
        show _ = (freeL (i + 1) _).map V.int
        rw [freeL_succ, if_pos h, List.map_append]; rfl
      · rename_i h
        rw [ei] at h
        refine ⟨⟨_, rfl⟩, by walk_at "h", _, by walk_at "h", by omega, ?_⟩
        show _ = (freeL (i + 1) _).map V.int
        rw [freeL_succ, if_neg (fun z => z h), List.append_nil]
    · rintro D H4 vs hD e4 hv hvl rfl
      exact k D H4 (by walk_at "h") (by walk_at "h") hv
theorem ok_lined (T : Txt K mg) : FnOk P w K mg base (CXF P w) 2 T.d_lined.a T.d_lined.fd ["many", "sheet"] (spLinedX K T.c_Ringed) := by
  refine T.d_lined.F.okX sc_lined (fun vs H Q E h => ?_) (fun cdv A outer s H vs Q E hr h => ?_)
  · obtain ⟨n, a, ds, rfl, _⟩ := h; rfl
  obtain ⟨n, a, ds, rfl, hS, n0, n1, hl, hd, h⟩ := h
  have hdN : ∀ d ∈ ds, DueOk (n.toNat : Int) d := by rw [show (n.toNat : Int) = n by omega]; exact hd
  refine ⟨_, (pss_cons (ps_set (i := 2) sc_lined.nd rfl (Or.inl rfl) (pe_lst pa_nil))
 (pss_cons (ps_while PassesOwn.leaving (pt_cmpR op_lt (pe_callB (show CallR _ _ (rLen K) from call_lenU) rfl T.z_len BT.len (pa_cons (pv 2) pa_nil)) (pv 0) (nomark _))
  (pss_cons (ps_set (i := 3) sc_lined.nd rfl (Or.inl rfl) (pe_call (ok_free_members T) (hr.mono (by decide)) rfl T.d_free_members.m T.d_free_members.F.kp T.d_free_members.b .nil (passN nox_F) (pa_cons (pv 0) (pa_cons (pv 1) (pa_cons (pv 2) pa_nil)))))
 (pss_cons (ps_if (pt_cmpR (show OpR _ (compareOp .Eq) (rEqU K) from op_eqU hr.units) (pv 3) (pe_lst pa_nil) (nomark _))
  (pss_one (ps_raise rfl rfl T.m_Ringed (errOk.own T.e_Ringed) (pa_cons pe_str pa_nil) made_F))
  pss_nil)
 (pss_one (ps_expr (show PE _ _ (tBM K _ _ _ _) from pe_bm PySem.F.plainAttrs_list PySem.F.slot_list_extend PySem.F.type_list_extend mt_extend (pv 2) (pa_cons (pv 3) pa_nil)))))))
 (pss_one (ps_ret (pv 2))))), ?_⟩
  refine x_start (σ0 := [some (.int n), some (.ref a), none, none]) rfl ?_
  rcases h with ⟨f, hf, k⟩ | ⟨R, m0, hm, hm0, hm1, hW, k⟩
  · walk_at "x"
    rename_i l H1 fl e1 hl1
    refine ⟨fun m σ H' => ∃ (ls : List Int) (f3 : Option V), σ = [some (.int n), some (.ref a), some (.ref l), f3] ∧ H' l = some (.lst (ls.map V.int)) ∧ Lined n.toNat ds ls ∧ Same H H' ∧ m = n.toNat - ls.length, ⟨_, [], _, rfl, hl1, ⟨List.nodup_nil, (fun _ h => nomatch h), fun _ _ _ j h => nomatch h⟩, e1, rfl⟩, ?_⟩
    rintro m σ H2 ⟨ls, f3, rfl, hl2, hL, e2, rfl⟩
    have hlen := ints_nodup hL.nd hL.lt
    have hml : (ls.map V.int).length = ls.length := List.length_map ..
    walk_at "x"
    · rename_i hlt
      have hls : ls.length < n.toNat := by omega
      have hfe := free_ne hdN hf hls
      have hfl := freeL_len (N := n.toNat) (ws := ls ++ waitF ds ls)
      refine ⟨fun σ' H' => ∃ (ls' : List Int) (f3 : Option V), σ' = [some (.int n), some (.ref a), some (.ref l), f3] ∧ H' l = some (.lst (ls'.map V.int)) ∧ Lined n.toNat ds ls' ∧ Same H H' ∧ ls.length < ls'.length, ?_, ?_⟩
      · rintro σ' H' ⟨ls', f3', rfl, h1, h2, h3, h4⟩
        have := ints_nodup h2.nd h2.lt
        exact ⟨_, by omega, ls', f3', rfl, h1, h2, h3, rfl⟩
      · walk_at "x"
        rename_i p H3 fp e3 hp l2 H4 fl2 e4 hl4
        refine x_eqNilF (SqL.of (e4.at hp)) (SqL.of hl4) hfe ?_
        walk_at "x"
        refine x_extN (by walk_at "h") (by walk_at "h") (by rw [List.length_map, List.length_map]; omega) fun H5 b5 h5 => ?_
        rw [← List.map_append] at h5
        refine ⟨_, _, rfl, h5, hL.ext, by walk_at "h", ?_⟩
        rw [List.length_append]
        have := List.length_pos_iff.mpr hfe
        omega
    · exact k _ _ ls fl e2 hl2 hL (by omega)
  · walk_at "x"
    rename_i l H1 fl e1 hl1
    refine ⟨fun m σ H' => ∃ (ls : List Int) (f3 : Option V), σ = [some (.int n), some (.ref a), some (.ref l), f3] ∧ H' l = some (.lst (ls.map V.int)) ∧ (ls.Nodup ∧ (∀ x ∈ ls, 0 ≤ x ∧ x < ((n.toNat : Nat) : Int)) ∧ ∀ x ∈ ls, ¬ R x) ∧ Same H H' ∧ m = n.toNat - ls.length, ⟨_, [], _, rfl, hl1, ⟨List.nodup_nil, (fun _ h => nomatch h), fun _ h => nomatch h⟩, e1, rfl⟩, ?_⟩
    rintro m σ H2 ⟨ls, f3, rfl, hl2, ⟨nd, lt, nr⟩, e2, rfl⟩
    have hlen := lined_short nd lt nr hm hm0 (by omega)
    have hml : (ls.map V.int).length = ls.length := List.length_map ..
    walk_at "x"
    · rename_i hlt
      have hls : ls.length < n.toNat := by omega
      have hfl := freeL_len (N := n.toNat) (ws := ls ++ waitF ds ls)
      have hfw := free_waits (n := n.toNat) hW nr
      refine ⟨fun σ' H' => ∃ (ls' : List Int) (f3 : Option V), σ' = [some (.int n), some (.ref a), some (.ref l), f3] ∧ H' l = some (.lst (ls'.map V.int)) ∧ (ls'.Nodup ∧ (∀ x ∈ ls', 0 ≤ x ∧ x < ((n.toNat : Nat) : Int)) ∧ ∀ x ∈ ls', ¬ R x) ∧ Same H H' ∧ ls.length < ls'.length, ?_, ?_⟩
      · rintro σ' H' ⟨ls', f3', rfl, h1, ⟨d1, d2, d3⟩, h3, h4⟩
        have := lined_short d1 d2 d3 hm hm0 (by omega)
        exact ⟨_, by omega, ls', f3', rfl, h1, ⟨d1, d2, d3⟩, h3, rfl⟩
      · walk_at "x"
        rename_i p H3 fp e3 hp l2 H4 fl2 e4 hl4
        by_cases hfe : freeL n.toNat (ls ++ waitF ds ls) = []
        · rw [hfe] at hp
          refine x_eqNilY (SqL.of (e4.at hp)) (SqL.of hl4) ?_
          walk_at "x"
          exact ⟨by decide, k _ (by walk_at "h")⟩
        · refine x_eqNilF (SqL.of (e4.at hp)) (SqL.of hl4) hfe ?_
          walk_at "x"
          refine x_extN (by walk_at "h") (by walk_at "h") (by rw [List.length_map, List.length_map]; omega) fun H5 b5 h5 => ?_
          rw [← List.map_append] at h5
          refine ⟨_, _, rfl, h5, ⟨ext_nodup nd, fun x hx => ?_, fun x hx => ?_⟩, by walk_at "h", ?_⟩
          · rcases List.mem_append.mp hx with h | h
            · exact lt x h
            · exact (mem_freeL.mp h).1
          · rcases List.mem_append.mp hx with h | h
            · exact nr x h
            · exact hfw x h
          · rw [List.length_append]
            have := List.length_pos_iff.mpr hfe
            omega
    · exfalso; omega

theorem ok__law_cell (T : Txt K mg) : FnOk P w K mg base (CXF P w) 1 T.d__law_cell.a T.d__law_cell.fd ["_law_script", "_law_k"] (spCell K) := by
  refine T.d__law_cell.F.okN sc__law_cell (fun vs H Q E h => ?_) (fun cdv A outer s H vs Q E hr h => ?_)
  · obtain ⟨a, ns, k, rfl, _⟩ := h; rfl
  obtain ⟨a, ns, k, rfl, hS, h0, q⟩ := h
  refine ⟨_, (pss_cons (ps_if (pt_cmpR op_lt (pv 1) (pe_callB (show CallR _ _ (rLen K) from call_lenU) rfl T.z_len BT.len (pa_cons (pv 0) pa_nil)) (nomark _))
  (pss_one (ps_ret (pe_ix (show IxR _ (rIx K) from ix_seq) (pv 0) (pv 1) (fun _ _ => rfl))))
  pss_nil)
 (pss_one (ps_ret pe_int))), ?_⟩
  refine x_start (σ0 := [some (.ref a), some (.int k)]) rfl ?_
  walk_at "x"
  · rename_i h
    exact x_ixL hS (cell_in h0 h) q
  · rename_i h
    rw [cell_out h] at q
    exact q
theorem ok__law_whole (T : Txt K mg) : FnOk P w K mg base (CXF P w) 1 T.d__law_whole.a T.d__law_whole.fd ["_law_thing"] spWhole := by
  refine T.d__law_whole.F.okN sc__law_whole (fun vs H Q E h => ?_) (fun cdv A outer s H vs Q E hr h => ?_)
  · obtain ⟨x, rfl, _⟩ := h; rfl
  obtain ⟨i, rfl, q⟩ := h
  refine ⟨_, (pss_one (ps_ret (pe_and (pe_callB (show CallR _ _ (rIsiU K) from call_isiU) rfl T.z_isinstance BT.isinstance (pa_cons (pv 0) (pa_cons (pe_bltn (v := .ty "int") rfl T.z_int BT.int rfl) pa_nil))) (pe_one (show PE _ _ (tNotU K _) from pe_notU (pe_callB (show CallR _ _ (rIsiU K) from call_isiU) rfl T.z_isinstance BT.isinstance (pa_cons (pv 0) (pa_cons (pe_bltn (v := .ty "bool") rfl T.z_bool BT.bool rfl) pa_nil)))))))), ?_⟩
  refine x_start (σ0 := [some (.int i)]) rfl ?_
  walk_at "x"
  exact q
theorem ok__law_wholes (T : Txt K mg) : FnOk P w K mg base (CXF P w) 2 T.d__law_wholes.a T.d__law_wholes.fd ["_law_told", "_law_size"] (spWholes K) := by
  refine T.d__law_wholes.F.okN sc__law_wholes (fun vs H Q E h => ?_) (fun cdv A outer s H vs Q E hr h => ?_)
  · obtain ⟨a, ns, n, rfl, _⟩ := h; rfl
  obtain ⟨a, ns, n, rfl, hS, q⟩ := h
  have hl : (ns.map V.int).length = ns.length := List.length_map ..
  refine ⟨_, (pss_cons (ps_if (PW.pt (pw_or (pt_not (show PT _ _ (tTru K _) from pt_truthU (pe_callB (show CallR _ _ (rIsiU K) from call_isiU) rfl T.z_isinstance BT.isinstance (pa_cons (pv 0) (pa_cons (pe_bltn (v := .ty "list") rfl T.z_list BT.list rfl) pa_nil))) (fun _ => rfl))) (pw_or1 (pt_cmpR (show OpR _ (compareOp .NotEq) (rNeU K) from op_neU hr.units) (pe_callB (show CallR _ _ (rLen K) from call_lenU) rfl T.z_len BT.len (pa_cons (pv 0) pa_nil)) (pv 1) (nomark _)))))
  (pss_one (ps_ret pe_bl))
  pss_nil)
 (pss_cons (ps_for PassesOwn.never rfl (show PI _ _ _ (iList K _) from pi_list (pv 0)) (pg_name (i := 2) sc__law_wholes.nd rfl (Or.inl rfl))
  (pss_one (ps_if (pt_not (show PT _ _ (tTru K _) from pt_truthU (pe_call (ok__law_whole T) (hr.mono (by decide)) rfl T.d__law_whole.m T.d__law_whole.F.kp T.d__law_whole.b .nil (passN nox_F) (pa_cons (pv 2) pa_nil)) (fun _ => rfl)))
  (pss_one (ps_ret pe_bl))
  pss_nil)))
 (pss_one (ps_ret pe_bl)))), ?_⟩
  refine x_start (σ0 := [some (.ref a), some (.int n), none]) rfl ?_
  walk_at "x"
  · rename_i h
    rw [decide_eq_false (by omega)] at q
    exact q
  · rename_i h
    rw [decide_eq_true (by omega)] at q
    refine x_forL (xs := ns.map V.int) (fun i σ' H' => ∃ f2, σ' = [some (.ref a), some (.int n), f2] ∧ H' = H) ⟨_, rfl, rfl⟩ ?_ ?_ ?_
    · rintro i σ' H' _ ⟨_, _, rfl⟩; exact SqL.of hS
    · rintro i x σ' H' hx ⟨f2, rfl, rfl⟩
      rw [List.getElem?_map] at hx
      cases hn : ns[i]? with
      | none => rw [hn] at hx; cases hx
      | some m =>
        rw [hn] at hx; cases hx
        walk_at "x"
        exact ⟨_, rfl, rfl⟩
    · rintro σ' H3 ⟨f2, rfl, rfl⟩
      walk_at "x"
      exact q
theorem ok__law_drawn (T : Txt K mg) : FnOk P w K mg base (CXF P w) 2 T.d__law_drawn.a T.d__law_drawn.fd ["_law_script", "_law_k", "_law_seed"] (spDrawn K) := by
  refine T.d__law_drawn.F.okN sc__law_drawn (fun vs H Q E h => ?_) (fun cdv A outer s H vs Q E hr h => ?_)
  · obtain ⟨a, ns, k, seed, rfl, _⟩ := h; rfl
  obtain ⟨a, ns, k, seed, rfl, hS, k0, k1, s0, s1, q⟩ := h
  refine ⟨_, (pss_one (ps_ret (pe_op (show OpR _ (binaryOp .Add) (rAddU K) from op_addU) pe_int (pe_op op_modU (pe_op (show OpR _ (binaryOp .Add) (rAddU K) from op_addU) (pe_call (ok__law_cell T) (hr.mono (by decide)) rfl T.d__law_cell.m T.d__law_cell.F.kp T.d__law_cell.b .nil (passN nox_F) (pa_cons (pv 0) (pa_cons (pv 1) pa_nil))) (pe_op op_mulU (pv 2) (pe_op (show OpR _ (binaryOp .Add) (rAddU K) from op_addU) (pe_op op_mulU (pv 1) (pv 1)) pe_int))) (pe_op op_pow pe_int pe_int))))), ?_⟩
  refine x_start (σ0 := [some (.ref a), some (.int k), some (.int seed)]) rfl ?_
  have z1 : sz k ≤ 200 := sz200 (by omega) (by omega)
  have z2 : sz (k * k + 1) ≤ 401 := sz_add (n := 400) (sz_mul z1 z1) (Nat.le_trans (sz_of (n := 1) (by decide)) (by decide))
  walk_at "x"
  exact q _ (by omega) (by omega)
theorem mod_nn {x m : Int} (h : 0 < m) : 0 ≤ x % m := Int.emod_nonneg _ (by omega)
theorem mod_le {x m b : Int} (h : 0 < m) (hb : m ≤ b + 1) : x % m ≤ b := by have := Int.emod_lt_of_pos x h; omega
theorem sub_nn {x m c : Int} (h : 0 < m) (hb : m ≤ c + 1) : 0 ≤ c - x % m := by have := Int.emod_lt_of_pos x h; omega
theorem sub_le' {x m c : Int} (h : 0 < m) : c - x % m ≤ c := by have := Int.emod_nonneg x (b := m) (by omega); omega
theorem ok__law_amount (T : Txt K mg) : FnOk P w K mg base (CXF P w) 1 T.d__law_amount.a T.d__law_amount.fd ["_law_number", "_law_seed"] spAmount := by
  refine T.d__law_amount.F.okN sc__law_amount (fun vs H Q E h => ?_) (fun cdv A outer s H vs Q E hr h => ?_)
  · obtain ⟨i, seed, rfl, _⟩ := h; rfl
  obtain ⟨i, seed, rfl, i0, i1, s0, s1, q⟩ := h
  have zi : sz i ≤ 200 := sz200 (by omega) (by omega)
  refine ⟨_, (pss_cons (ps_set (i := 2) sc__law_amount.nd rfl (Or.inl rfl) (pe_op op_modU (pe_op op_modU (pe_op op_mulU (pv 0) pe_int) pe_int) pe_int))
 (pss_cons (ps_if (pt_cmpR (show OpR _ (compareOp .Eq) (rEqU K) from op_eqU hr.units) (pv 2) pe_int (nomark _))
  (pss_one (ps_ret (pe_op op_modU (pe_op op_modU (pe_op op_mulU (pv 0) pe_int) pe_int) pe_int)))
  pss_nil)
 (pss_cons (ps_if (pt_cmpR (show OpR _ (compareOp .Eq) (rEqU K) from op_eqU hr.units) (pv 2) pe_int (nomark _))
  (pss_one (ps_ret (pe_op op_modU (pv 1) pe_int)))
  pss_nil)
 (pss_cons (ps_if (pt_cmpR (show OpR _ (compareOp .Eq) (rEqU K) from op_eqU hr.units) (pv 2) pe_int (nomark _))
  (pss_one (ps_ret (pe_op op_modU (pe_op op_modU (pe_op op_mulU (pv 0) pe_int) pe_int) pe_int)))
  pss_nil)
 (pss_cons (ps_if (pt_cmpR (show OpR _ (compareOp .Eq) (rEqU K) from op_eqU hr.units) (pv 2) pe_int (nomark _))
  (pss_one (ps_ret (pe_op op_sub (pe_op op_pow pe_int pe_int) (pe_op op_modU (pe_op op_modU (pe_op op_mulU (pv 0) pe_int) pe_int) pe_int))))
  pss_nil)
 (pss_one (ps_ret (pe_op op_modU (pe_op op_mulU (pv 0) pe_int) (pe_op (show OpR _ (binaryOp .Add) (rAddU K) from op_addU) (pe_op op_pow pe_int pe_int) pe_int))))))))), ?_⟩
  refine x_start (σ0 := [some (.int i), some (.int seed), none]) rfl ?_
  iterate 12 (walk_at "x1")
  generalize i * 1226874159 % 2147483579 % 5 = w
  walk_at "x"
  · exact q _ (mod_nn (by decide)) (mod_le (by decide) (by decide))
  · exact q _ (mod_nn (by decide)) (mod_le (by decide) (by decide))
  · exact q _ (mod_nn (by decide)) (mod_le (by decide) (by decide))
  · exact q _ (sub_nn (by decide) (by decide)) (sub_le' (by decide))
  · exact q _ (mod_nn (by decide)) (mod_le (by decide) (by decide))
theorem ok__law_due (T : Txt K mg) : FnOk P w K mg base (CXF P w) 2 T.d__law_due.a T.d__law_due.fd ["_law_number", "_law_many", "_law_seed"] spDue := by
  refine T.d__law_due.F.okN sc__law_due (fun vs H Q E h => ?_) (fun cdv A outer s H vs Q E hr h => ?_)
  · obtain ⟨i, n, seed, rfl, _⟩ := h; rfl
  obtain ⟨i, n, seed, rfl, i0, i1, n0, n1, s0, s1, q⟩ := h
  have zi : sz i ≤ 200 := sz200 (by omega) (by omega)
  refine ⟨_, (pss_cons (ps_set (i := 3) sc__law_due.nd rfl (Or.inl rfl) (pe_op op_modU (pe_op op_modU (pe_op op_mulU (pv 0) pe_int) pe_int) (pv 1)))
 (pss_cons (ps_set (i := 4) sc__law_due.nd rfl (Or.inl rfl) (pe_op op_modU (pe_op (show OpR _ (binaryOp .Add) (rAddU K) from op_addU) (pe_op (show OpR _ (binaryOp .Add) (rAddU K) from op_addU) (pv 3) pe_int) (pe_op op_modU (pe_op op_modU (pe_op op_mulU (pv 0) pe_int) pe_int) (pe_op op_sub (pv 1) pe_int))) (pv 1)))
 (pss_cons (ps_set (i := 5) sc__law_due.nd rfl (Or.inl rfl) (pe_op op_modU (pe_op op_modU (pe_op op_mulU (pv 0) pe_int) pe_int) pe_int))
 (pss_one (ps_ret (pe_tup (pa_cons (pv 3) (pa_cons (pv 4) (pa_cons (pv 5) (pa_cons (pe_call (ok__law_amount T) (hr.mono (by decide)) rfl T.d__law_amount.m T.d__law_amount.F.kp T.d__law_amount.b .nil (passN nox_F) (pa_cons (pv 0) (pa_cons (pv 2) pa_nil))) pa_nil)))))))))), ?_⟩
  refine x_start (σ0 := [some (.int i), some (.int n), some (.int seed), none, none, none]) rfl ?_
  obtain ⟨p', ep⟩ : ∃ p', i * 1103515245 % 2147483647 % n = p' := ⟨_, rfl⟩
  obtain ⟨t', et⟩ : ∃ t', i * 742938285 % 2147483629 % (n - 1) = t' := ⟨_, rfl⟩
  obtain ⟨r', er⟩ : ∃ r', i * 950706376 % 2147483587 % 3 = r' := ⟨_, rfl⟩
  have p0 : 0 ≤ p' := ep ▸ Int.emod_nonneg _ (by omega)
  have p1 : p' < n := ep ▸ Int.emod_lt_of_pos _ (by omega)
  have t0 : 0 ≤ t' := et ▸ Int.emod_nonneg _ (by omega)
  have t1 : t' < n - 1 := et ▸ Int.emod_lt_of_pos _ (by omega)
  have r0 : 0 ≤ r' := er ▸ Int.emod_nonneg _ (by decide)
  have r1 : r' < 3 := er ▸ Int.emod_lt_of_pos _ (by decide)
  walk_at "x"
  rename_i x x0 x1 p H1 fp e1 h1
  rw [ep, et, er] at h1
  clear ep et er
  have q0 : 0 ≤ (p' + 1 + t') % n := Int.emod_nonneg _ (by omega)
  have q1 : (p' + 1 + t') % n < n := Int.emod_lt_of_pos _ (by omega)
  have pq : p' ≠ (p' + 1 + t') % n := by
    by_cases h : p' + 1 + t' < n
    · rw [Int.emod_eq_of_lt (by omega) h]; omega
    · rw [← Int.sub_emod_right, Int.emod_eq_of_lt (by omega) (by omega)]; omega
  exact q p H1 ⟨p', (p' + 1 + t') % n, r', x⟩ fp e1 h1 ⟨⟨p0, p1, q0, q1, pq, r0, r1, x0, by show x ≤ _; omega⟩, x1⟩
theorem ok__law_sheet (T : Txt K mg) : FnOk P w K mg base (CXF P w) 3 T.d__law_sheet.a T.d__law_sheet.fd ["_law_script", "_law_many", "_law_most"] (spSheet K) := by
  refine T.d__law_sheet.F.okN sc__law_sheet (fun vs H Q E h => ?_) (fun cdv A outer s H vs Q E hr h => ?_)
  · obtain ⟨a, ns, n, most, rfl, _⟩ := h; rfl
  obtain ⟨a, ns, n, most, rfl, hS, h63, n0, n1, m0, m1, q⟩ := h
  refine ⟨_, (pss_cons (ps_if (pt_cmpR (show OpR _ (compareOp .Eq) (rEqU K) from op_eqU hr.units) (pv 1) pe_int (nomark _))
  (pss_one (ps_ret (pe_lst pa_nil)))
  pss_nil)
 (pss_cons (ps_set (i := 3) sc__law_sheet.nd rfl (Or.inr rfl) (pe_op op_modU (pe_call (ok__law_cell T) (hr.mono (by decide)) rfl T.d__law_cell.m T.d__law_cell.F.kp T.d__law_cell.b .nil (passN nox_F) (pa_cons (pv 0) (pa_cons pe_int pa_nil))) (pe_op op_pow pe_int pe_int)))
 (pss_cons (ps_set (i := 4) sc__law_sheet.nd rfl (Or.inl rfl) (pe_callB (call_maxU rfl) rfl T.z_max BT.max (pa_cons (pe_callB (show CallR _ _ (rLen K) from call_lenU) rfl T.z_len BT.len (pa_cons (pe_slice (show SlR _ (rSlL K) from sl_list) (pv 0) (po_some pe_int) (po_some (pe_op (show OpR _ (binaryOp .Add) (rAddU K) from op_addU) pe_int (pv 2)))) pa_nil)) (pa_cons (pe_op op_modU (pe_call (ok__law_cell T) (hr.mono (by decide)) rfl T.d__law_cell.m T.d__law_cell.F.kp T.d__law_cell.b .nil (passN nox_F) (pa_cons (pv 0) (pa_cons pe_int pa_nil))) (pe_op (show OpR _ (binaryOp .Add) (rAddU K) from op_addU) (pv 2) pe_int)) pa_nil))))
 (pss_one (ps_ret (pe_comp rfl (pi_range1 rfl T.z_range (pa_cons (pv 4) pa_nil)) (compScope_of (Ni := ["_law_k", "_law_script", "_law_seed", "_law_many"]) (caps := [none, some 0, some 3, some 1]) (by rfl)) (fun S _ _ _ _ _ => (pg_nameC (gi := 0) S (Or.inl rfl) rfl)) (fun _ _ _ _ _ => pf_nil) (fun _ _ _ _ _ => (pe_call (ok__law_due T) (hr.mono (by decide)) rfl T.d__law_due.m T.d__law_due.F.kp T.d__law_due.b .nil (passN nox_F) (pa_cons (pe_call (ok__law_drawn T) (hr.mono (by decide)) rfl T.d__law_drawn.m T.d__law_drawn.F.kp T.d__law_drawn.b .nil (passN nox_F) (pa_cons (pv 1) (pa_cons (pe_op (show OpR _ (binaryOp .Add) (rAddU K) from op_addU) pe_int (pv 0)) (pa_cons (pv 2) pa_nil)))) (pa_cons (pv 3) (pa_cons (pv 2) pa_nil))))))))))), ?_⟩
  refine x_start (σ0 := [some (.ref a), some (.int n), some (.int most), none, none]) rfl ?_
  have hlen : ((cutV (ns.map V.int) (some 3) (some (3 + most))).length : Int) ≤ 63 := by
    have := cutV_length (ns.map V.int) (some 3) (some (3 + most))
    rw [List.length_map] at this; omega
  have hc : ∃ c, (if cell ns 2 % (most + 1) > ((cutV (ns.map V.int) (some 3) (some (3 + most))).length : Int) then cell ns 2 % (most + 1) else ((cutV (ns.map V.int) (some 3) (some (3 + most))).length : Int)) = c ∧ 0 ≤ c ∧ c ≤ 64 := by
    have h1 := Int.emod_nonneg (cell ns 2) (b := most + 1) (by omega)
    have h2 := Int.emod_lt_of_pos (cell ns 2) (b := most + 1) (by omega)
    exact ⟨_, rfl, by split <;> omega, by split <;> omega⟩
  obtain ⟨c, ec, c0, c1⟩ := hc
  walk_at "x"
  · rename_i p H1 fp e1 h1
    exact q p H1 [] [] fp e1 h1 trivial (fun _ h => nomatch h) (Nat.zero_le _) fun _ => rfl
  · rw [ec]
    walk_at "x"
    rename_i hn1 l H1 fl e1 hl
    refine x_compS1 src_range (fun _ _ => trivial) rfl (fun i vs H' => ∃ ds, IsTs dueV H' vs ds ∧ ds.length = i ∧ ∀ d ∈ ds, DueOk n d ∧ d.a ≤ 1000000000000) (fun H' _ => ⟨[], trivial, rfl, fun _ h => nomatch h⟩) ?_ ?_
    · rintro i x D vs o H2 H3 hi hD e2 hv hvl ⟨ds, ht, hdl, hd⟩ e3 rfl
      walk_at "x"
      rename_i x x0 x1 p H4 d fp e4 hp hdd H5 b5 h5
      refine ⟨⟨_, rfl⟩, by walk_at "h", _, h5, by rw [List.length_append]; exact Nat.succ_le_succ hvl, ds ++ [d], IsTs.app (by walk_at "h") (by walk_at "h"), by rw [List.length_append, hdl]; rfl, fun y hy => ?_⟩
      rcases List.mem_append.mp hy with h | h
      · exact hd y h
      · rw [List.mem_singleton.mp h]; exact hdd
    · rintro D H2 vs hD e2 hv hvl ⟨ds, ht, hdl, hd⟩
      exact q D H2 vs ds (by walk_at "h") (by walk_at "h") hv ht hd (by omega) (by omega)
theorem ok__law_forward (T : Txt K mg) : FnOk P w K mg base (CXF P w) 1 T.d__law_forward.a T.d__law_forward.fd ["_law_due_here", "_law_seed"] (spForward K) := by
  refine T.d__law_forward.F.okN sc__law_forward (fun vs H Q E h => ?_) (fun cdv A outer s H vs Q E hr h => ?_)
  · obtain ⟨b, d, seed, n, rfl, _⟩ := h; rfl
  obtain ⟨b, d, seed, n, rfl, hb, hn, hd, s0, s1, q⟩ := h
  have hb' : H b = some (.tup [.int d.p, .int d.q, .int d.r, .int d.a]) := hb
  obtain ⟨p0, p1, q0, q1, pq, r0, r1, a0, a1⟩ := id hd
  have zp : sz d.p ≤ 200 := sz200 (by omega) (by omega)
  have zq : sz d.q ≤ 200 := sz200 (by omega) (by omega)
  refine ⟨_, (pss_cons (ps_if (pt_cmpR op_gt (pe_op op_modU (pe_op (show OpR _ (binaryOp .Add) (rAddU K) from op_addU) (pe_op op_mulU (pe_ix (show IxR _ (rIx K) from ix_seq) (pv 0) pe_int (fun _ _ => rfl)) pe_int) (pv 1)) pe_int) (pe_op op_modU (pe_op (show OpR _ (binaryOp .Add) (rAddU K) from op_addU) (pe_op op_mulU (pe_ix (show IxR _ (rIx K) from ix_seq) (pv 0) pe_int (fun _ _ => rfl)) pe_int) (pv 1)) pe_int) (nomark _))
  (pss_one (ps_ret (pe_tup (pa_cons (pe_ix (show IxR _ (rIx K) from ix_seq) (pv 0) pe_int (fun _ _ => rfl)) (pa_cons (pe_ix (show IxR _ (rIx K) from ix_seq) (pv 0) pe_int (fun _ _ => rfl)) (pa_cons (pe_ix (show IxR _ (rIx K) from ix_seq) (pv 0) pe_int (fun _ _ => rfl)) (pa_cons (pe_ix (show IxR _ (rIx K) from ix_seq) (pv 0) pe_int (fun _ _ => rfl)) pa_nil)))))))
  pss_nil)
 (pss_one (ps_ret (pv 0)))), ?_⟩
  refine x_start (σ0 := [some (.ref b), some (.int seed)]) rfl ?_
  walk_at "x"
  · rename_i h t H1 ft e1 ht
    refine q t H1 ⟨d.q, d.p, d.r, d.a⟩ e1 ht ⟨q0, q1, p0, p1, fun z => pq z.symm, r0, r1, a0, a1⟩ ?_
    show ((d.q.toNat : Int) * 5 + seed) % 11 < ((d.p.toNat : Int) * 5 + seed) % 11
    rw [Int.toNat_of_nonneg p0, Int.toNat_of_nonneg q0]; omega
  · rename_i h
    refine q b H d (Same.refl _) hb hd ?_
    show ((d.p.toNat : Int) * 5 + seed) % 11 < ((d.q.toNat : Int) * 5 + seed) % 11
    rw [Int.toNat_of_nonneg p0, Int.toNat_of_nonneg q0]; omega

theorem ok__law_is_ring (T : Txt K mg) : FnOk P w K mg base (CXF P w) 2 T.d__law_is_ring.a T.d__law_is_ring.fd ["_law_told", "_law_sheet_here", "_law_left"] (spIsRing K) := by
  refine T.d__law_is_ring.F.okN sc__law_is_ring (fun vs H Q E h => ?_) (fun cdv A outer s H vs Q E hr h => ?_)
  · obtain ⟨n, t, a, l, ls, xs, es, ds, ms, rfl, _⟩ := h; rfl
  obtain ⟨n, t, a, l, ls, xs, es, ds, ms, rfl, ht, ha, hT, hl, L, h1, n1, hd, R, q⟩ := h
  have hxl := hT.length
  have hml := nodup_le n ms R.nd fun y hy => (R.ok y hy).1
  have hm0 : 0 < ms.length := List.length_pos_iff.mpr R.ne
  have htl : ((ms.map (dueOn ds n)).map V.int).length = ms.length := by rw [List.length_map, List.length_map]
  have step : ∀ (i m : Nat), ms[i]? = some m → ∃ (j : Nat) (e : Internal.Due) (c : Addr), dueOn ds n m = (j : Int) ∧ j < es.length ∧ xs[j]? = some (.ref c) ∧ H c = some (.tup [.int e.p, .int e.q, .int e.r, .int e.a]) ∧ (∃ b, ls[j]? = some b ∧ 0 < b) ∧ e.p = (m : Int) ∧ e.q = (nextM ds n m : Int) := by
    intro i m hm
    have hm' := List.mem_of_getElem? hm
    obtain ⟨j, d, w1, w2, w3, w4, w5, w6, w7, w8⟩ := next_ok hd (R.ok m hm').1 (R.ok m hm').2
    obtain ⟨e, g1, g2, g3, g4⟩ := L.got w2
    obtain ⟨c, hc1, hc2⟩ := hT.getI g1
    exact ⟨j, e, c, w8, (List.getElem?_eq_some_iff.mp g1).1, hc1, hc2, ⟨d.a, g2, w4⟩, by rw [← g3, w3], by rw [← g4, w5]⟩
  refine ⟨_, (pss_cons (ps_if (PW.pt (pw_or (pt_not (show PT _ _ (tTru K _) from pt_truthU (pe_callB (show CallR _ _ (rIsiU K) from call_isiU) rfl T.z_isinstance BT.isinstance (pa_cons (pv 0) (pa_cons (pe_bltn (v := .ty "list") rfl T.z_list BT.list rfl) pa_nil))) (fun _ => rfl))) (pw_or1 (pt_cmpR (show OpR _ (compareOp .Eq) (rEqU K) from op_eqU hr.units) (pe_callB (show CallR _ _ (rLen K) from call_lenU) rfl T.z_len BT.len (pa_cons (pv 0) pa_nil)) pe_int (nomark _)))))
  (pss_one (ps_ret pe_bl))
  pss_nil)
 (pss_cons (ps_set (i := 3) sc__law_is_ring.nd rfl (Or.inl rfl) (pe_lst pa_nil))
 (pss_cons (ps_for PassesOwn.never rfl (show PI _ _ _ (iList K _) from pi_list (pv 0)) (pg_name (i := 4) sc__law_is_ring.nd rfl (Or.inl rfl))
  (pss_cons (ps_if (PW.pt (pw_or (pt_not (show PT _ _ (tTru K _) from pt_truthU (pe_call (ok__law_whole T) (hr.mono (by decide)) rfl T.d__law_whole.m T.d__law_whole.F.kp T.d__law_whole.b .nil (passN nox_F) (pa_cons (pv 4) pa_nil)) (fun _ => rfl))) (pw_or (pt_not (pt_chain op_le op_lt pe_int (pv 4) (pe_callB (show CallR _ _ (rLen K) from call_lenU) rfl T.z_len BT.len (pa_cons (pv 1) pa_nil)))) (pw_or1 (pt_cmpR op_le (pe_ix (show IxR _ (rIx K) from ix_seq) (pv 2) (pv 4) (fun _ _ => rfl)) pe_int (nomark _))))))
  (pss_one (ps_ret pe_bl))
  pss_nil)
 (pss_cons (ps_if (pt_cmpR (show OpR _ (compareOp .In) (rIn K false) from op_in_seq) (pe_ix (show IxR _ (rIx K) from ix_seq) (pe_ix (show IxR _ (rIx K) from ix_seq) (pv 1) (pv 4) (fun _ _ => rfl)) pe_int (fun _ _ => rfl)) (pv 3) (by with_unfolding_all rfl))
  (pss_one (ps_ret pe_bl))
  pss_nil)
 (pss_one (ps_expr (show PE _ _ (tBM K _ _ _ _) from pe_bm PySem.F.plainAttrs_list PySem.F.slot_list_append PySem.F.type_list_append mt_append (pv 3) (pa_cons (pe_ix (show IxR _ (rIx K) from ix_seq) (pe_ix (show IxR _ (rIx K) from ix_seq) (pv 1) (pv 4) (fun _ _ => rfl)) pe_int (fun _ _ => rfl)) pa_nil)))))))
 (pss_cons (ps_for PassesOwn.never rfl (pi_range1 rfl T.z_range (pa_cons (pe_callB (show CallR _ _ (rLen K) from call_lenU) rfl T.z_len BT.len (pa_cons (pv 0) pa_nil)) pa_nil)) (pg_name (i := 5) sc__law_is_ring.nd rfl (Or.inl rfl))
  (pss_one (ps_if (pt_cmpR (show OpR _ (compareOp .NotEq) (rNeU K) from op_neU hr.units) (pe_ix (show IxR _ (rIx K) from ix_seq) (pe_ix (show IxR _ (rIx K) from ix_seq) (pv 1) (pe_ix (show IxR _ (rIx K) from ix_seq) (pv 0) (pv 5) (fun _ _ => rfl)) (fun _ _ => rfl)) pe_int (fun _ _ => rfl)) (pe_ix (show IxR _ (rIx K) from ix_seq) (pe_ix (show IxR _ (rIx K) from ix_seq) (pv 1) (pe_ix (show IxR _ (rIx K) from ix_seq) (pv 0) (pe_op op_modU (pe_op (show OpR _ (binaryOp .Add) (rAddU K) from op_addU) (pv 5) pe_int) (pe_callB (show CallR _ _ (rLen K) from call_lenU) rfl T.z_len BT.len (pa_cons (pv 0) pa_nil))) (fun _ _ => rfl)) (fun _ _ => rfl)) pe_int (fun _ _ => rfl)) (nomark _))
  (pss_one (ps_ret pe_bl))
  pss_nil)))
 (pss_one (ps_ret pe_bl)))))), ?_⟩
  refine x_start (σ0 := [some (.ref t), some (.ref a), some (.ref l), none, none, none]) rfl ?_
  walk_at "x"
  · exfalso; omega
  rename_i pa H1 fpa e1 hpa
  have npt : t ≠ pa := by walk_at "h"
  have npa : a ≠ pa := by walk_at "h"
  have npl : l ≠ pa := by walk_at "h"
  refine x_forL (xs := (ms.map (dueOn ds n)).map V.int) (fun i σ' H' => ∃ (f4 f5 : Option V), σ' = [some (.ref t), some (.ref a), some (.ref l), some (.ref pa), f4, f5] ∧ H' pa = some (.lst ((natI (ms.take i)).map V.int)) ∧ Same H H') ⟨_, _, rfl, hpa, e1⟩ ?_ ?_ ?_
  · rintro i σ' H' _ ⟨_, _, rfl, _, e⟩; exact SqL.of (e.at ht)
  · rintro i x σ' H3 hx ⟨f4, f5, rfl, hp3, e3⟩
    have hi : i < ms.length := by
      have := (List.getElem?_eq_some_iff.mp hx).1
      rwa [htl] at this
    obtain ⟨m, hm⟩ := lt_some hi
    obtain ⟨j, e, c, g1, g2, g3, g4, ⟨b, g5, g5'⟩, g6, g7⟩ := step i m hm
    have ex : x = .int (j : Int) := by
      rw [List.getElem?_map, List.getElem?_map, hm] at hx
      rw [← g1]; exact (Option.some.inj hx).symm
    subst ex
    have hat : atI xs (j : Int) = some (.ref c) := atI_nat g3
    have hat2 : atI (ls.map V.int) (j : Int) = some (.int b) := atI_nat (by rw [List.getElem?_map, g5]; rfl)
    have hc3 := e3.at g4
    have hn : e.p ∉ natI (ms.take i) := by
      rw [g6]
      intro z
      have z := natI_mem.mp z
      obtain ⟨u, hu, eu⟩ := List.getElem_of_mem z
      have hu' := hu
      rw [List.length_take] at hu'
      rw [List.getElem_take] at eu
      have : u = i := nodup_get R.nd (by rw [List.getElem?_eq_getElem (by omega), eu]) hm
      omega
    have hmap : ((natI (ms.take i)).map V.int).length ≤ 100000 := by rw [List.length_map, natI_len, List.length_take]; omega
    walk_at "x"
    all_goals first | (exfalso; omega) | contradiction | skip
    rename_i H4 b4 h4
    rw [snoc_ints] at h4
    exact ⟨_, _, rfl, by rw [take_snoc hm, natI_app, show natI [m] = [e.p] by rw [g6]; rfl]; exact h4, by walk_at "h"⟩
  · rintro σ' H3 ⟨f4, f5, rfl, hp3, e3⟩
    walk_at "x"
    refine x_forR (fun i σ' H' => ∃ (f4 f5 : Option V), σ' = [some (.ref t), some (.ref a), some (.ref l), some (.ref pa), f4, f5] ∧ H' = H3) ⟨_, _, rfl, rfl⟩ ?_ ?_
    · rintro i σ' H' hi ⟨f4, f5, rfl, rfl⟩
      rw [htl, Int.toNat_natCast] at hi
      obtain ⟨m, hm⟩ := lt_some hi
      obtain ⟨j, e, c, g1, g2, g3, g4, ⟨b, g5, g5'⟩, g6, g7⟩ := step i m hm
      have hi2 : (i + 1) % ms.length < ms.length := Nat.mod_lt _ hm0
      obtain ⟨m2, hm2⟩ := lt_some hi2
      obtain ⟨j2, e2, c2, k1, k2, k3, k4, ⟨b2, k5, k5'⟩, k6, k7⟩ := step _ m2 hm2
      have hnx := R.nx i m hm
      rw [hm2] at hnx
      have hat : atI xs (j : Int) = some (.ref c) := atI_nat g3
      have hat2 : atI xs (j2 : Int) = some (.ref c2) := atI_nat k3
      have hc3 := e3.at g4
      have hc4 := e3.at k4
      have hd1 : atI ((ms.map (dueOn ds n)).map V.int) ((0 : Int) + (i : Int)) = some (.int (j : Int)) := by
        rw [Int.zero_add]; refine atI_nat ?_; rw [List.getElem?_map, List.getElem?_map, hm]; show some (V.int (dueOn ds n m)) = _; rw [g1]
      have hd2 : atI ((ms.map (dueOn ds n)).map V.int) (((0 : Int) + (i : Int) + 1) % ((((ms.map (dueOn ds n)).map V.int).length : Nat) : Int)) = some (.int (j2 : Int)) := by
        rw [htl, show ((0 : Int) + (i : Int) + 1) % (ms.length : Int) = (((i + 1) % ms.length : Nat) : Int) by rw [Int.zero_add]; rfl]
        refine atI_nat ?_; rw [List.getElem?_map, List.getElem?_map, hm2]; show some (V.int (dueOn ds n m2)) = _; rw [k1]
      have hml0 : (0 : Int) < ((((ms.map (dueOn ds n)).map V.int).length : Nat) : Int) := by rw [htl]; omega
      have hnx' : e.q = e2.p := by rw [g7, k6, hnx]; rfl
      walk_at "x"
      all_goals first | (exfalso; omega) | contradiction | skip
      exact ⟨_, _, rfl, rfl⟩
    · rintro σ' H' ⟨f4, f5, rfl, rfl⟩
      walk_at "x"
      exact q _ e3
theorem ok__law_lined_up (T : Txt K mg) : FnOk P w K mg base (CXF P w) 3 T.d__law_lined_up.a T.d__law_lined_up.fd ["_law_told", "_law_many", "_law_sheet_here"] (spLinedUp K) := by
  refine T.d__law_lined_up.F.okN sc__law_lined_up (fun vs H Q E h => ?_) (fun cdv A outer s H vs Q E hr h => ?_)
  · obtain ⟨a, b, n, ds, xs, ls, rfl, _⟩ := h; rfl
  obtain ⟨a, b, n, ds, xs, ls, rfl, hA, hT, hB, n0, n1, hd, hL, hl, q⟩ := h
  have hlN : (ls.length : Int) = n := by omega
  refine ⟨_, (pss_cons (ps_if (PW.pt (pw_or (pt_not (show PT _ _ (tTru K _) from pt_truthU (pe_call (ok__law_wholes T) (hr.mono (by decide)) rfl T.d__law_wholes.m T.d__law_wholes.F.kp T.d__law_wholes.b .nil (passN nox_F) (pa_cons (pv 0) (pa_cons (pv 1) pa_nil))) (fun _ => rfl))) (pw_or1 (pt_cmpR (show OpR _ (compareOp .NotEq) (rNeU K) from op_neU hr.units) (pe_callB (show CallR _ _ (rSorted K) from call_sortedU) rfl T.z_sorted BT.sorted (pa_cons (pv 0) pa_nil)) (pe_callTy (show CallR _ _ rListRng from call_list_rng rfl) rfl T.z_list BT.list (pa_cons (pe_callTy (show CallR _ _ rRange from call_rangeV) rfl T.z_range BT.range (pa_cons (pv 1) pa_nil)) pa_nil)) (nomark _)))))
  (pss_one (ps_ret pe_bl))
  pss_nil)
 (pss_cons (ps_for PassesOwn.never rfl (show PI _ _ _ (iList K _) from pi_list (pv 2)) (pg_name (i := 3) sc__law_lined_up.nd rfl (Or.inl rfl))
  (pss_one (ps_if (PW.pt (pw_and (pt_cmpR op_gt (pe_ix (show IxR _ (rIx K) from ix_seq) (pv 3) pe_int (fun _ _ => rfl)) pe_int (nomark _)) (pw_and1 (pt_cmpR op_gt (show PE _ _ (tBM K _ _ _ _) from pe_bm PySem.F.plainAttrs_list PySem.F.slot_list_index PySem.F.type_list_index mt_index (pv 0) (pa_cons (pe_ix (show IxR _ (rIx K) from ix_seq) (pv 3) pe_int (fun _ _ => rfl)) pa_nil)) (show PE _ _ (tBM K _ _ _ _) from pe_bm PySem.F.plainAttrs_list PySem.F.slot_list_index PySem.F.type_list_index mt_index (pv 0) (pa_cons (pe_ix (show IxR _ (rIx K) from ix_seq) (pv 3) pe_int (fun _ _ => rfl)) pa_nil)) (nomark _)))))
  (pss_one (ps_ret pe_bl))
  pss_nil)))
 (pss_one (ps_ret pe_bl)))), ?_⟩
  refine x_start (σ0 := [some (.ref b), some (.int n), some (.ref a), none]) rfl ?_
  walk_at "x"
  rename_i so ms H1 fso e1 hp hs hso rg H2 frg e2 hrg lr H3 flr e3 hlr
  refine x_neInts (SqL.of (by walk_at "h")) (SqL.of hlr) (sorted_line hL.nd hL.lt hl hp hs) ?_
  walk_at "x"
  refine x_forL (xs := xs) (fun i σ' H' => ∃ f3, σ' = [some (.ref b), some (.int n), some (.ref a), f3] ∧ H' = H3) ⟨_, rfl, rfl⟩ ?_ ?_ ?_
  · rintro i σ' H' _ ⟨_, _, rfl⟩; exact SqL.of (by walk_at "h")
  · rintro i x σ' H' hx ⟨f3, rfl, rfl⟩
    obtain ⟨c, d, rfl, hdi, hc⟩ := (hT.same (e1.trans (e2.trans e3))).get hx
    have hc' : H' c = some (.tup [.int d.p, .int d.q, .int d.r, .int d.a]) := hc
    have dm := List.mem_of_getElem? hdi
    obtain ⟨p0, p1, q0, q1, pq, _⟩ := hd d dm
    have hq := all_in_line hL.nd hL.lt hl q0 (by omega)
    obtain ⟨j, hj, ej⟩ := List.getElem_of_mem hq
    have hj' : ls[j]? = some d.q := by rw [List.getElem?_eq_getElem hj, ej]
    walk_at "x"
    · rename_i ha
      obtain ⟨i', hi', ei'⟩ := hL.up d dm ha j hj'
      refine x_index (by walk_at "h") ei' (first_at hL.nd ei') (by omega) ?_
      walk_at "x"
      refine x_index (by walk_at "h") hj' (first_at hL.nd hj') (by omega) ?_
      walk_at "x"
      · omega
      · exact ⟨_, rfl, rfl⟩
    · exact ⟨_, rfl, rfl⟩
  · rintro σ' H' ⟨f3, rfl, rfl⟩
    walk_at "x"
    exact q _ (by walk_at "h")
theorem ok__law_refused (T : Txt K mg) : FnOk P w K mg base (CXF P w) 3 T.d__law_refused.a T.d__law_refused.fd ["_law_many", "_law_sheet_here"] (spRefusedR K) := by
  refine T.d__law_refused.F.okN sc__law_refused (fun vs H Q E h => ?_) (fun cdv A outer s H vs Q E hr h => ?_)
  · obtain ⟨n, a, ds, R, m, rfl, _⟩ := h; rfl
  obtain ⟨n, a, ds, R, m, rfl, hS, n0, n1, hl, hd, hm, m0, m1, hW, k⟩ := h
  have e_Ringed := T.e_Ringed
  have i_Ringed_Bare := T.i_Ringed_Bare
  have i_Ringed_Closed := T.i_Ringed_Closed
  have i_Ringed_Gone := T.i_Ringed_Gone
  have i_Ringed_NoAnswer := T.i_Ringed_NoAnswer
  have i_Ringed_NoDeal := T.i_Ringed_NoDeal
  have i_Ringed_NoLayer := T.i_Ringed_NoLayer
  have i_Ringed_NoMember := T.i_Ringed_NoMember
  have i_Ringed_NoPart := T.i_Ringed_NoPart
  have i_Ringed_NoRule := T.i_Ringed_NoRule
  have i_Ringed_NoTerms := T.i_Ringed_NoTerms
  have i_Ringed_Out := T.i_Ringed_Out
  have i_Ringed_Poor := T.i_Ringed_Poor
  have i_Ringed_QuitsError := T.i_Ringed_QuitsError
  have i_Ringed_Ringed := T.i_Ringed_Ringed
  have i_Ringed_Settled := T.i_Ringed_Settled
  have i_Ringed_Standing := T.i_Ringed_Standing
  have i_Ringed_TooMuch := T.i_Ringed_TooMuch
  have i_Ringed_Unclosed := T.i_Ringed_Unclosed
  have i_Ringed_ValueError := T.i_Ringed_ValueError
  have q_Ringed_QuitsError := T.q_Ringed_QuitsError
  refine ⟨_, (pss_cons (ps_set (i := 2) sc__law_refused.nd rfl (Or.inl rfl) (pe_tup pa_nil))
 (pss_cons (show PS _ _ (tTryE K _ _ _ _ _) from ps_tryE (i := 3) ⟨rfl, rfl⟩ (ok_lined T) (hr.mono (by decide)) rfl T.d_lined.m T.d_lined.F.kp T.d_lined.b (pa_cons (pv 0) (pa_cons (pv 1) pa_nil)) rfl T.m_QuitsError sc__law_refused.nd rfl rfl (fun _ => (pss_one (ps_set (i := 2) sc__law_refused.nd rfl (Or.inl rfl) (pe_tup (pa_cons (pe_callB (show CallR _ _ (rIsiU K) from call_isiU) rfl T.z_isinstance BT.isinstance (pa_cons (pv 3) (pa_cons (pe_glob (v := .ref T.c_Ringed) rfl T.m_Ringed rfl) pa_nil))) (pa_cons (pe_callB (show CallR _ _ (rIsiU K) from call_isiU) rfl T.z_isinstance BT.isinstance (pa_cons (pv 3) (pa_cons (pe_bltn (v := .ty "ValueError") rfl T.z_ValueError BT.ValueError rfl) pa_nil))) (pa_cons (pe_or (pe_callB (show CallR _ _ (rIsiU K) from call_isiU) rfl T.z_isinstance BT.isinstance (pa_cons (pv 3) (pa_cons (pe_glob (v := .ref T.c_NoPart) rfl T.m_NoPart rfl) pa_nil))) (pe_or (pe_callB (show CallR _ _ (rIsiU K) from call_isiU) rfl T.z_isinstance BT.isinstance (pa_cons (pv 3) (pa_cons (pe_glob (v := .ref T.c_NoAnswer) rfl T.m_NoAnswer rfl) pa_nil))) (pe_or (pe_callB (show CallR _ _ (rIsiU K) from call_isiU) rfl T.z_isinstance BT.isinstance (pa_cons (pv 3) (pa_cons (pe_glob (v := .ref T.c_NoRule) rfl T.m_NoRule rfl) pa_nil))) (pe_or (pe_callB (show CallR _ _ (rIsiU K) from call_isiU) rfl T.z_isinstance BT.isinstance (pa_cons (pv 3) (pa_cons (pe_glob (v := .ref T.c_TooMuch) rfl T.m_TooMuch rfl) pa_nil))) (pe_or (pe_callB (show CallR _ _ (rIsiU K) from call_isiU) rfl T.z_isinstance BT.isinstance (pa_cons (pv 3) (pa_cons (pe_glob (v := .ref T.c_NoLayer) rfl T.m_NoLayer rfl) pa_nil))) (pe_or (pe_callB (show CallR _ _ (rIsiU K) from call_isiU) rfl T.z_isinstance BT.isinstance (pa_cons (pv 3) (pa_cons (pe_glob (v := .ref T.c_NoMember) rfl T.m_NoMember rfl) pa_nil))) (pe_or (pe_callB (show CallR _ _ (rIsiU K) from call_isiU) rfl T.z_isinstance BT.isinstance (pa_cons (pv 3) (pa_cons (pe_glob (v := .ref T.c_NoTerms) rfl T.m_NoTerms rfl) pa_nil))) (pe_or (pe_callB (show CallR _ _ (rIsiU K) from call_isiU) rfl T.z_isinstance BT.isinstance (pa_cons (pv 3) (pa_cons (pe_glob (v := .ref T.c_NoDeal) rfl T.m_NoDeal rfl) pa_nil))) (pe_or (pe_callB (show CallR _ _ (rIsiU K) from call_isiU) rfl T.z_isinstance BT.isinstance (pa_cons (pv 3) (pa_cons (pe_glob (v := .ref T.c_Closed) rfl T.m_Closed rfl) pa_nil))) (pe_or (pe_callB (show CallR _ _ (rIsiU K) from call_isiU) rfl T.z_isinstance BT.isinstance (pa_cons (pv 3) (pa_cons (pe_glob (v := .ref T.c_Gone) rfl T.m_Gone rfl) pa_nil))) (pe_or (pe_callB (show CallR _ _ (rIsiU K) from call_isiU) rfl T.z_isinstance BT.isinstance (pa_cons (pv 3) (pa_cons (pe_glob (v := .ref T.c_Settled) rfl T.m_Settled rfl) pa_nil))) (pe_or (pe_callB (show CallR _ _ (rIsiU K) from call_isiU) rfl T.z_isinstance BT.isinstance (pa_cons (pv 3) (pa_cons (pe_glob (v := .ref T.c_Standing) rfl T.m_Standing rfl) pa_nil))) (pe_or (pe_callB (show CallR _ _ (rIsiU K) from call_isiU) rfl T.z_isinstance BT.isinstance (pa_cons (pv 3) (pa_cons (pe_glob (v := .ref T.c_Out) rfl T.m_Out rfl) pa_nil))) (pe_or (pe_callB (show CallR _ _ (rIsiU K) from call_isiU) rfl T.z_isinstance BT.isinstance (pa_cons (pv 3) (pa_cons (pe_glob (v := .ref T.c_Bare) rfl T.m_Bare rfl) pa_nil))) (pe_or (pe_callB (show CallR _ _ (rIsiU K) from call_isiU) rfl T.z_isinstance BT.isinstance (pa_cons (pv 3) (pa_cons (pe_glob (v := .ref T.c_Poor) rfl T.m_Poor rfl) pa_nil))) (pe_one (pe_callB (show CallR _ _ (rIsiU K) from call_isiU) rfl T.z_isinstance BT.isinstance (pa_cons (pv 3) (pa_cons (pe_glob (v := .ref T.c_Unclosed) rfl T.m_Unclosed rfl) pa_nil))))))))))))))))))) pa_nil))))))))
 (pss_one (ps_ret (pe_cmpR (show OpR _ (compareOp .Eq) (rEqU K) from op_eqU hr.units) (pv 2) (pe_tup (pa_cons pe_bl (pa_cons pe_bl (pa_cons pe_bl pa_nil)))) (nomark _)))))), ?_⟩
  refine x_start (σ0 := [some (.int n), some (.ref a), none, none]) rfl ?_
  walk_at "x"
  rename_i p H1 fp e1 hp
  refine ⟨n, a, ds, rfl, by walk_at "h", n0, n1, hl, hd, .inr ⟨R, m, hm, m0, m1, hW, fun H2 e2 => ?_⟩⟩
  refine x_catch (by assumption) fun er H3 f3 e3 h3 => ?_
  walk_at "x"
  refine x_eqTTF (by walk_at "h") (by walk_at "h") ?_
  exact k _ (by walk_at "h")

noncomputable def spLaw (K : PySem.W.Frag) : Sp := fun vs H Q _ => ∃ (a : Addr) (ns : List Int), vs = [.ref a] ∧ SqL K H a (ns.map V.int) ∧ ns.length ≤ 63 ∧ ∀ H', Q (.bl true) H'
theorem ok_law (T : Txt K mg) : FnOk P w K mg base (CXF P w) 4 T.d_law.a T.d_law.fd ["_law_script"] (spLaw K) := by
  refine T.d_law.F.okN sc_law (fun vs H Q E h => ?_) (fun cdv A outer s H vs Q E hr h => ?_)
  · obtain ⟨a, ns, rfl, _⟩ := h; rfl
  obtain ⟨a, ns, rfl, hS, h63, k⟩ := h
  refine ⟨_, (pss_cons (ps_set (i := 1) sc_law.nd rfl (Or.inr rfl) (pe_op (show OpR _ (binaryOp .Add) (rAddU K) from op_addU) pe_int (pe_op op_modU (pe_call (ok__law_cell T) (hr.mono (by decide)) rfl T.d__law_cell.m T.d__law_cell.F.kp T.d__law_cell.b .nil (passN nox_F) (pa_cons (pv 0) (pa_cons pe_int pa_nil))) pe_int)))
 (pss_cons (ps_set (i := 2) sc_law.nd rfl (Or.inr rfl) (pe_op op_modU (pe_call (ok__law_cell T) (hr.mono (by decide)) rfl T.d__law_cell.m T.d__law_cell.F.kp T.d__law_cell.b .nil (passN nox_F) (pa_cons (pv 0) (pa_cons pe_int pa_nil))) (pe_op op_pow pe_int pe_int)))
 (pss_cons (ps_setC (i := 3) sc_law.nd rfl rfl rfl (show PI _ _ _ (iList K _) from pi_list (pe_call (ok__law_sheet T) (hr.mono (by decide)) rfl T.d__law_sheet.m T.d__law_sheet.F.kp T.d__law_sheet.b .nil (passN nox_F) (pa_cons (pv 0) (pa_cons (pv 1) (pa_cons pe_int pa_nil))))) (compScope_of (Ni := ["_law_due_here", "_law_seed"]) (caps := [none, some 2]) (by rfl)) (fun S _ _ _ _ _ => (pg_nameC (gi := 0) S (Or.inl rfl) rfl)) (fun _ _ _ _ _ => pf_nil) (fun _ _ _ _ _ => (pe_call (ok__law_forward T) (hr.mono (by decide)) rfl T.d__law_forward.m T.d__law_forward.F.kp T.d__law_forward.b .nil (passN nox_F) (pa_cons (pv 0) (pa_cons (pv 1) pa_nil)))))
 (pss_cons (ps_set (i := 4) sc_law.nd rfl (Or.inr rfl) (pe_op (show OpR _ (binaryOp .Add) (rAddU K) from op_addU) pe_int (pe_op op_modU (pe_call (ok__law_cell T) (hr.mono (by decide)) rfl T.d__law_cell.m T.d__law_cell.F.kp T.d__law_cell.b .nil (passN nox_F) (pa_cons (pv 0) (pa_cons pe_int pa_nil))) (pe_op op_sub (pv 1) pe_int))))
 (pss_cons (ps_set (i := 5) sc_law.nd rfl (Or.inr rfl) (pe_op op_modU (pv 2) (pv 1)))
 (pss_cons (ps_set (i := 6) sc_law.nd rfl (Or.inr rfl) (pe_op (show OpR _ (binaryOp .Add) (rAddU K) from op_addU) pe_int (pe_op op_modU (pe_call (ok__law_cell T) (hr.mono (by decide)) rfl T.d__law_cell.m T.d__law_cell.F.kp T.d__law_cell.b .nil (passN nox_F) (pa_cons (pv 0) (pa_cons pe_int pa_nil))) (pe_op op_pow pe_int pe_int))))
 (pss_cons (ps_set (i := 7) sc_law.nd rfl (Or.inl rfl) (pe_op op_modU (pe_call (ok__law_cell T) (hr.mono (by decide)) rfl T.d__law_cell.m T.d__law_cell.F.kp T.d__law_cell.b .nil (passN nox_F) (pa_cons (pv 0) (pa_cons pe_int pa_nil))) (pe_op (show OpR _ (binaryOp .Add) (rAddU K) from op_addU) (pe_callB (show CallR _ _ (rLen K) from call_lenU) rfl T.z_len BT.len (pa_cons (pv 3) pa_nil)) pe_int)))
 (pss_cons (ps_setC (i := 8) sc_law.nd rfl rfl rfl (pi_range1 rfl T.z_range (pa_cons (pv 4) pa_nil)) (compScope_of (Ni := ["_law_k", "_law_shift", "_law_many", "_law_size", "_law_coins"]) (caps := [none, some 5, some 1, some 4, some 6]) (by rfl)) (fun S _ _ _ _ _ => (pg_nameC (gi := 0) S (Or.inl rfl) rfl)) (fun _ _ _ _ _ => pf_nil) (fun _ _ _ _ _ => (pe_tup (pa_cons (pe_op op_modU (pe_op (show OpR _ (binaryOp .Add) (rAddU K) from op_addU) (pv 0) (pv 1)) (pv 2)) (pa_cons (pe_op op_modU (pe_op (show OpR _ (binaryOp .Add) (rAddU K) from op_addU) (pe_op op_modU (pe_op (show OpR _ (binaryOp .Add) (rAddU K) from op_addU) (pv 0) pe_int) (pv 3)) (pv 1)) (pv 2)) (pa_cons (pe_op op_modU (pv 0) pe_int) (pa_cons (pv 4) pa_nil)))))))
 (pss_cons (ps_set (i := 9) sc_law.nd rfl (Or.inl rfl) (pe_op (show OpR _ (binaryOp .Add) (rAddU K) from op_addU) (pe_op (show OpR _ (binaryOp .Add) (rAddU K) from op_addU) (pe_slice (show SlR _ (rSlL K) from sl_list) (pv 3) po_none (po_some (pv 7))) (pv 8)) (pe_slice (show SlR _ (rSlL K) from sl_list) (pv 3) (po_some (pv 7)) po_none)))
 (pss_cons (ps_set (i := 10) sc_law.nd rfl (Or.inl rfl) (pe_op (show OpR _ (binaryOp .Add) (rAddU K) from op_addU) (pe_op (show OpR _ (binaryOp .Add) (rAddU K) from op_addU) (pe_slice (show SlR _ (rSlL K) from sl_list) (pv 3) po_none (po_some (pv 7))) (pe_comp rfl (show PI _ _ _ (iList K _) from pi_list (pv 8)) (compScope_of (Ni := ["_law_due_here"]) (caps := [none]) (by rfl)) (fun S _ _ _ _ _ => (pg_nameC (gi := 0) S (Or.inl rfl) rfl)) (fun _ _ _ _ _ => pf_nil) (fun _ _ _ _ _ => (pe_tup (pa_cons (pe_ix (show IxR _ (rIx K) from ix_seq) (pv 0) pe_int (fun _ _ => rfl)) (pa_cons (pe_ix (show IxR _ (rIx K) from ix_seq) (pv 0) pe_int (fun _ _ => rfl)) (pa_cons (pe_ix (show IxR _ (rIx K) from ix_seq) (pv 0) pe_int (fun _ _ => rfl)) (pa_cons pe_int pa_nil)))))))) (pe_slice (show SlR _ (rSlL K) from sl_list) (pv 3) (po_some (pv 7)) po_none)))
 (pss_cons (ps_set (i := 11) sc_law.nd rfl (Or.inl rfl) (pe_callTy (show CallR _ _ (rListOf K) from call_listU) rfl T.z_list BT.list (pa_cons (pv 9) pa_nil)))
 (pss_cons (ps_if (PW.pt (pw_or (pt_not (show PT _ _ (tTru K _) from pt_truthU (pe_call (ok__law_refused T) (hr.mono (by decide)) rfl T.d__law_refused.m T.d__law_refused.F.kp T.d__law_refused.b .nil (passN nox_F) (pa_cons (pv 1) (pa_cons (pv 11) pa_nil))) (fun _ => rfl))) (pw_or1 (pt_cmpR (show OpR _ (compareOp .NotEq) (rNeU K) from op_neU hr.units) (pv 11) (pv 9) (nomark _)))))
  (pss_one (ps_ret pe_bl))
  pss_nil)
 (pss_cons (ps_if (pt_not (show PT _ _ (tTru K _) from pt_truthU (pe_call (ok__law_is_ring T) (hr.mono (by decide)) rfl T.d__law_is_ring.m T.d__law_is_ring.F.kp T.d__law_is_ring.b .nil (passN nox_F) (pa_cons (pe_call (ok_a_ring T) (hr.mono (by decide)) rfl T.d_a_ring.m T.d_a_ring.F.kp T.d_a_ring.b .nil (passN nox_F) (pa_cons (pv 1) (pa_cons (pv 11) pa_nil))) (pa_cons (pv 9) (pa_cons (pe_comp rfl (show PI _ _ _ (iList K _) from pi_list (pv 9)) (compScope_of (Ni := ["_law_due_here"]) (caps := [none]) (by rfl)) (fun S _ _ _ _ _ => (pg_nameC (gi := 0) S (Or.inl rfl) rfl)) (fun _ _ _ _ _ => pf_nil) (fun _ _ _ _ _ => (pe_ix (show IxR _ (rIx K) from ix_seq) (pv 0) pe_int (fun _ _ => rfl)))) pa_nil)))) (fun _ => rfl)))
  (pss_one (ps_ret pe_bl))
  pss_nil)
 (pss_cons (ps_if (pt_not (show PT _ _ (tTru K _) from pt_truthU (pe_call (ok__law_lined_up T) (hr.mono (by decide)) rfl T.d__law_lined_up.m T.d__law_lined_up.F.kp T.d__law_lined_up.b .nil (passN nox_F) (pa_cons (pe_call (ok_lined T) (hr.mono (by decide)) rfl T.d_lined.m T.d_lined.F.kp T.d_lined.b .nil (passN nox_F) (pa_cons (pv 1) (pa_cons (pe_callTy (show CallR _ _ (rListOf K) from call_listU) rfl T.z_list BT.list (pa_cons (pv 10) pa_nil)) pa_nil))) (pa_cons (pv 1) (pa_cons (pv 10) pa_nil)))) (fun _ => rfl)))
  (pss_one (ps_ret pe_bl))
  pss_nil)
 (pss_one (ps_ret (pe_call (ok__law_refused T) (hr.mono (by decide)) rfl T.d__law_refused.m T.d__law_refused.F.kp T.d__law_refused.b .nil (passN nox_F) (pa_cons (pv 1) (pa_cons (pe_callTy (show CallR _ _ (rListOf K) from call_listU) rfl T.z_list BT.list (pa_cons (pv 9) pa_nil)) pa_nil))))))))))))))))))), ?_⟩
  refine x_start (σ0 := [some (.ref a), none, none, none, none, none, none, none, none, none, none, none]) rfl ?_
  obtain ⟨N, eN, N0, N1⟩ : ∃ N, 2 + cell ns 0 % 8 = N ∧ 2 ≤ N ∧ N ≤ 9 := ⟨_, rfl, by omega, by omega⟩
  obtain ⟨sd, esd, s0, s1⟩ : ∃ sd, cell ns 1 % 1000000000 = sd ∧ 0 ≤ sd ∧ sd < 1000000000 := ⟨_, rfl, by omega, by omega⟩
  walk_at "x"
  rw [eN, esd]
  rename_i sh H1 xs ds fsh e1 hsh ht1 hds hlen hone
  rw [eN] at hds
  have hxl := ht1.length
  refine x_compS1 (src_list (K := K) (a := sh) (xs := xs)) (fun H' e => SqL.of (e.at hsh)) rfl (fun i vs H' => ∃ es, IsTs dueV H' vs es ∧ es.length = i ∧ (∀ d ∈ es, DueOk N d) ∧ ∀ d ∈ es, 0 < d.a → fwd sd d.p.toNat < fwd sd d.q.toNat) (fun H' _ => ⟨[], trivial, rfl, (fun _ h => nomatch h), fun _ h => nomatch h⟩) ?_ ?_
  · rintro i x D vs o H3 H4 hi hD e3 hv hvl ⟨es, hes, hel, hed, hef⟩ e4 hx
    obtain ⟨b, d, rfl, hdi, hb⟩ := (ht1.same (e3.trans e4)).get hx
    have hdo := (hds d (List.mem_of_getElem? hdi)).1
    walk_at "x"
    rename_i t H5 d' e5 h5 hd' hf' H6 b6 h6
    refine ⟨⟨_, rfl⟩, by walk_at "h", _, h6, by rw [List.length_append]; exact Nat.succ_le_succ hvl, es ++ [d'], IsTs.app (by walk_at "h") (by walk_at "h"), by rw [List.length_append, hel]; rfl, fun y hy => ?_, fun y hy ha => ?_⟩
    · rcases List.mem_append.mp hy with h | h
      · exact hed y h
      · rw [List.mem_singleton.mp h]; exact hd'
    · rcases List.mem_append.mp hy with h | h
      · exact hef y h ha
      · rw [List.mem_singleton.mp h]; exact hf'
  rintro s2 H2 zs fs2 e2 hs2 hzl ⟨es, hes, hel, hed, hef⟩
  have hz2 := hes.length
  walk_at "x"
  obtain ⟨z, ez, z0, z1⟩ : ∃ z, 2 + cell ns 3 % (N - 1) = z ∧ 2 ≤ z ∧ z ≤ N := ⟨_, rfl, by have := Int.emod_nonneg (cell ns 3) (show N - 1 ≠ 0 by omega); omega, by have := Int.emod_lt_of_pos (cell ns 3) (show 0 < N - 1 by omega); omega⟩
  obtain ⟨sf, esf, f0, f1⟩ : ∃ sf, sd % N = sf ∧ 0 ≤ sf ∧ sf < N := ⟨_, rfl, Int.emod_nonneg _ (by omega), Int.emod_lt_of_pos _ (by omega)⟩
  obtain ⟨co, eco, c0, c1⟩ : ∃ co, 1 + cell ns 4 % 1000000000000 = co ∧ 1 ≤ co ∧ co ≤ 1000000000000 := ⟨_, rfl, by omega, by omega⟩
  obtain ⟨pl, epl, l0, l1⟩ : ∃ pl, cell ns 5 % ((zs.length : Int) + 1) = pl ∧ 0 ≤ pl ∧ pl ≤ (zs.length : Int) := ⟨_, rfl, Int.emod_nonneg _ (by omega), by have := Int.emod_lt_of_pos (cell ns 5) (show 0 < (zs.length : Int) + 1 by omega); omega⟩
  rw [ez, esf, eco, epl]
  walk_at "x"
  refine x_compS1 src_range (fun _ _ => trivial) rfl (fun i vs H' => IsTs dueV H' vs (ringL N sf z co i)) (fun H' _ => trivial) ?_ ?_
  · rintro i x D vs o H3 H4 hi hD e3 hv hvl hI e4 rfl
    have hiz : (i : Int) < z := by omega
    walk_at "x"
    rename_i t H5 ft e5 h5 H6 b6 h6
    have h5' : H5 t = some (.tup (dueV (ringD N sf z co i))) := by
      have ei : (0 : Int) + (i : Int) = i := by omega
      rw [ei] at h5
      exact h5
    refine ⟨⟨_, rfl⟩, by walk_at "h", _, h6, by rw [List.length_append]; exact Nat.succ_le_succ hvl, ?_⟩
    show IsTs dueV H6 _ (ringL N sf z co (i + 1))
    rw [ringL_succ]
    exact IsTs.app (f := dueV) (b6.tup h5') (by walk_at "h")
  rintro ro H3 ys fro e3 hro hyl hyI
  have hyI' : IsTs dueV H3 ys (ringL N sf z co z.toNat) := by simpa using hyI
  clear hyI
  have hyl2 := hyI'.length
  rw [ringL_len] at hyl2
  walk_at "x"
  rename_i q1 H4 fq1 e4 hq1
  have hA := (hes.same (e3.trans e4)).cut none (some pl)
  have hAl := hA.length
  have hAm := cutL_length es none (some pl)
  refine x_catN (by walk_at "h") (by walk_at "h") (by omega) fun q2 H5 fq2 e5 hq2 => ?_
  have hQ2 : IsTs dueV H5 (cutV zs none (some pl) ++ ys) (cutL es none (some pl) ++ ringL N sf z co z.toNat) := IsTs.cat (by walk_at "h") (by walk_at "h")
  walk_at "x"
  rename_i q3 H6 fq3 e6 hq3
  have hB := (hes.same (e3.trans (e4.trans (e5.trans e6)))).cut (some pl) none
  have hBl := hB.length
  have hBm := cutL_length es (some pl) none
  refine x_catN (by walk_at "h") (by walk_at "h") (by rw [List.length_append]; omega) fun rg H7 frg e7 hrg => ?_
  have hG : IsTs dueV H7 (cutV zs none (some pl) ++ ys ++ cutV zs (some pl) none) (cutL es none (some pl) ++ ringL N sf z co z.toNat ++ cutL es (some pl) none) := IsTs.cat (by walk_at "h") (by walk_at "h")
  obtain ⟨A, eA⟩ : ∃ A, A = cutL es none (some pl) := ⟨_, rfl⟩
  obtain ⟨B, eB⟩ : ∃ B, B = cutL es (some pl) none := ⟨_, rfl⟩
  have hAo : ∀ d ∈ A, DueOk N d := fun d h => hed d (mem_cutL (by rw [eA] at h; exact h))
  have hBo : ∀ d ∈ B, DueOk N d := fun d h => hed d (mem_cutL (by rw [eB] at h; exact h))
  have hAf : ∀ d ∈ A, 0 < d.a → fwd sd d.p.toNat < fwd sd d.q.toNat := fun d h => hef d (mem_cutL (by rw [eA] at h; exact h))
  have hBf : ∀ d ∈ B, 0 < d.a → fwd sd d.p.toNat < fwd sd d.q.toNat := fun d h => hef d (mem_cutL (by rw [eB] at h; exact h))
  rw [← eA] at hG hQ2 hA hAl hAm
  rw [← eB] at hG hB hBl hBm
  have hRo : ∀ d ∈ ringL N sf z co z.toNat, DueOk N d := fun d h => by
    obtain ⟨i, hi, e⟩ := List.mem_map.mp h
    rw [← e]
    exact ringD_ok z0 z1 f0 f1 (by omega) (by omega) (by have := List.mem_range.mp hi; omega)
  obtain ⟨rl, erl⟩ : ∃ rl, rl = ringL N sf z co z.toNat := ⟨_, rfl⟩
  rw [← erl] at hG hQ2 hyI' hRo
  have hGo : ∀ d ∈ A ++ rl ++ B, DueOk N d := fun d h => by
    rcases List.mem_append.mp h with h | h
    · rcases List.mem_append.mp h with h | h
      · exact hAo d h
      · exact hRo d h
    · exact hBo d h
  have hin : ∀ d ∈ ringL N sf z co z.toNat, d ∈ A ++ rl ++ B := fun d h => List.mem_append.mpr (.inl (List.mem_append.mpr (.inr (by rw [erl]; exact h))))
  have hW := ring_waits (ds := A ++ rl ++ B) z0 (show 0 < co by omega) hin
  have hC := ring_closed (ds := A ++ rl ++ B) z0 z1 f0 f1 (show 0 < co by omega) hin
  have hrll : rl.length = z.toNat := by rw [erl, ringL_len]
  have hGl : (A ++ rl ++ B).length ≤ 300 := by rw [List.length_append, List.length_append]; omega
  have hsf0 : RingM N sf z sf := ⟨0, by omega, by rw [show ((0 : Nat) : Int) + sf = sf by omega, Int.emod_eq_of_lt f0 f1]⟩
  walk_at "x"
  rename_i r1 H8 fr1 e8 hr1
  have hyl8 : H8 ro = some (.lst ys) := by walk_at "h"
  have hyI8 : IsTs dueV H8 ys rl := by walk_at "h"
  refine x_compS1 (src_list (K := K) (a := ro) (xs := ys)) (fun H' e => SqL.of (e.at hyl8)) rfl (fun i vs H' => ∃ gs, IsTs dueV H' vs gs ∧ gs.length = i ∧ (∀ d ∈ gs, DueOk N d) ∧ ∀ d ∈ gs, d.a = 0) (fun H' _ => ⟨[], trivial, rfl, (fun _ h => nomatch h), fun _ h => nomatch h⟩) ?_ ?_
  · rintro i x D vs o H9 H10 hi hD e9 hv hvl ⟨gs, hgs, hgl, hgd, hga⟩ e10 hx
    obtain ⟨b, d, rfl, hdi, hb⟩ := (hyI8.same (e9.trans e10)).get hx
    have hb' : H10 b = some (.tup [.int d.p, .int d.q, .int d.r, .int d.a]) := hb
    obtain ⟨p0, p1, q0, q1, pq, r0, r1', a0, a1⟩ := hRo d (List.mem_of_getElem? hdi)
    walk_at "x"
    rename_i t H11 ft e11 h11 H12 b12 h12
    have h11' : H11 t = some (.tup (dueV ⟨d.p, d.q, d.r, 0⟩)) := h11
    refine ⟨⟨_, rfl⟩, by walk_at "h", _, h12, by rw [List.length_append]; exact Nat.succ_le_succ hvl, gs ++ [⟨d.p, d.q, d.r, 0⟩], IsTs.app (f := dueV) (b12.tup h11') (by walk_at "h"), by rw [List.length_append, hgl]; rfl, fun y hy => ?_, fun y hy => ?_⟩
    · rcases List.mem_append.mp hy with h | h
      · exact hgd y h
      · rw [List.mem_singleton.mp h]; exact ⟨p0, p1, q0, q1, pq, r0, r1', Int.le_refl 0, by show (0 : Int) ≤ _; decide⟩
    · rcases List.mem_append.mp hy with h | h
      · exact hga y h
      · rw [List.mem_singleton.mp h]
  rintro zr H9 ws fzr e9 hzr hwl ⟨gs, hgs, hgl, hgd, hga⟩
  have hgv := hgs.length
  have hA9 : IsTs dueV H9 (cutV zs none (some pl)) A := by walk_at "h"
  refine x_catN (by walk_at "h") (by walk_at "h") (by omega) fun q4 H10 fq4 e10 hq4 => ?_
  have hQ4 : IsTs dueV H10 (cutV zs none (some pl) ++ ws) (A ++ gs) := IsTs.cat (by walk_at "h") (by walk_at "h")
  walk_at "x"
  rename_i q5 H11 fq5 e11 hq5
  have hB11 : IsTs dueV H11 (cutV zs (some pl) none) B := by walk_at "h"
  refine x_catN (by walk_at "h") (by walk_at "h") (by rw [List.length_append]; omega) fun fr H12 ffr e12 hfr => ?_
  have hFr : IsTs dueV H12 (cutV zs none (some pl) ++ ws ++ cutV zs (some pl) none) (A ++ gs ++ B) := IsTs.cat (by walk_at "h") (by walk_at "h")
  have hFo : ∀ d ∈ A ++ gs ++ B, DueOk N d := fun d h => by
    rcases List.mem_append.mp h with h | h
    · rcases List.mem_append.mp h with h | h
      · exact hAo d h
      · exact hgd d h
    · exact hBo d h
  have hFf : ∀ d ∈ A ++ gs ++ B, 0 < d.a → fwd sd d.p.toNat < fwd sd d.q.toNat := fun d h ha => by
    rcases List.mem_append.mp h with h | h
    · rcases List.mem_append.mp h with h | h
      · exact hAf d h ha
      · have := hga d h; omega
    · exact hBf d h ha
  have hFl : (A ++ gs ++ B).length ≤ 300 := by rw [List.length_append, List.length_append]; omega
  have hG12 : IsTs dueV H12 (cutV zs none (some pl) ++ ys ++ cutV zs (some pl) none) (A ++ rl ++ B) := by walk_at "h"
  have hrg12 : H12 rg = some (.lst (cutV zs none (some pl) ++ ys ++ cutV zs (some pl) none)) := by walk_at "h"
  generalize cutV zs none (some pl) ++ ys ++ cutV zs (some pl) none = gv at *
  generalize cutV zs none (some pl) ++ ws ++ cutV zs (some pl) none = fv at *
  obtain ⟨Gs, eGs⟩ : ∃ Gs, Gs = A ++ rl ++ B := ⟨_, rfl⟩
  obtain ⟨Fs, eFs⟩ : ∃ Fs, Fs = A ++ gs ++ B := ⟨_, rfl⟩
  rw [← eGs] at hG12 hGo hW hC hGl
  rw [← eFs] at hFr hFo hFf hFl
  walk_at "x"
  rename_i hn H13 fhn e13 hhn
  refine spRefusedR_i (by walk_at "h") (by omega) (by omega) (by omega) hGo hsf0 f0 f1 hW fun H14 e14 => ?_
  walk_at "x"
  rename_i to H15 rs fto e15 hto hR
  have hg15 : H15 rg = some (.lst gv) := by walk_at "h"
  have hG15 : IsTs dueV H15 gv Gs := by walk_at "h"
  have hgvl := hG15.length
  refine x_compS1 (src_list (K := K) (a := rg) (xs := gv)) (fun H' e => SqL.of (e.at hg15)) rfl (fun i vs _ => vs = ((Gs.take i).map Internal.Due.a).map V.int) (fun H' _ => rfl) ?_ ?_
  · rintro i x D vs o2 H16 H17 hi hD e16 hv hvl rfl e17 hx
    obtain ⟨b, d, rfl, hdi, hb⟩ := (hG15.same (e16.trans e17)).get hx
    have hb' : H17 b = some (.tup [.int d.p, .int d.q, .int d.r, .int d.a]) := hb
    walk_at "x"
    rename_i H18 b18 h18
    refine ⟨⟨_, rfl⟩, by walk_at "h", _, h18, by rw [List.length_append]; exact Nat.succ_le_succ hvl, ?_⟩
    show _ = ((Gs.take (i + 1)).map Internal.Due.a).map V.int
    rw [take_snoc hdi, List.map_append, List.map_append]; rfl
  rintro am H16 vs fam e16 ham haml rfl
  rw [hgvl, List.take_length] at ham
  have hNN : ((N.toNat : Nat) : Int) = N := by omega
  have hGN : ∀ d ∈ Gs, DueOk (N.toNat : Int) d := by rw [hNN]; exact hGo
  have hL := Left.self Gs
  obtain ⟨ms, hRd, ers⟩ := ring_told (m := sf.toNat) (by omega) hR hC (show RingM N sf z ((sf.toNat : Nat) : Int) by rw [Int.toNat_of_nonneg f0]; exact hsf0) (by omega)
  subst ers
  walk_at "x"
  rename_i H17 e17 li H18 fli e18 hli
  refine ⟨N, li, Fs, rfl, by walk_at "h", by omega, by omega, by omega, hFo, .inl ⟨fwd sd, hFf, fun p H19 ls fp e19 hp hLn hlsn => ?_⟩⟩
  walk_at "x"
  rename_i H20 e20 ll H21 fll e21 hll
  refine spRefusedR_i (by walk_at "h") (by omega) (by omega) (by omega) hGo hsf0 f0 f1 hW fun H22 e22 => ?_
  exact k _

end
theorem fin {P : Program} {w : World} {K : PySem.W.Frag} {mg : Str → Option Value} {fa : Addr} (T : Txt K mg) (hfa : mg "law" = some (.ref fa)) :
    ∃ fd : FuncData, (∀ (s : Shared) (v : Value), BindsTo s fd ⟨[v], []⟩ [("_law_script", v)]) ∧ ∀ base : Heap, K.In base → base.Ns mainGlobals mg → FnOk P w K mg base (CXF P w) 4 fa fd ["_law_script"] (spLaw K) := by
  have e := hfa.symm.trans T.d_law.m
  cases e
  exact ⟨_, T.bl_law, fun base _ _ => ok_law T⟩
theorem walk {l : PySem.W.OpenLaw} {q : Program} {loose : List Str} {XP : (Str → Option Value) → Heap → Prop} {YP : World → Heap → Prop} {d : DefRec} {K : Params → PySem.W.Frag} (hn : l.most = some 63) (hdf : d.params.defaults = [])
    (hY : ∀ (w : World) (h : Heap), YP w h → (K w.params).In h)
    (F : ∀ (w : World) (mg : Str → Option Value) (fa : Addr) (h : Heap), (K w.params).In h → h.Ns mainGlobals mg → mg d.name = some (.ref fa) →
      ∃ fd : FuncData, (∀ (s : Shared) (u : Value), BindsTo s fd ⟨[u], []⟩ [("_law_script", u)]) ∧ ∀ base : Heap, (K w.params).In base → base.Ns mainGlobals mg → FnOk l.prog w (K w.params) mg base (CXF l.prog w) 4 fa fd ["_law_script"] (spLaw (K w.params))) :
    PySem.W.WalkO q loose XP YP l.row.toRowW d [] (fun f vs => PySem.call f vs) :=
  Internal.walk_of (n := 63) (k := 4) (x := "_law_script") (CX := fun w => CXF l.prog w) (sp := fun w => spLaw (K w.params)) hn (by decide) hdf ⟨rfl, by decide, by decide⟩ hY F (fun _ _ a ns hl _ hS => ⟨a, ns, rfl, hS, hl, fun _ => rfl⟩) fun _ H s e s' z => nox_F _ H s e s' z
end K
open PySem PySem.W PyProof.Rows
set_option maxRecDepth 100000 in
set_option maxHeartbeats 0 in
theorem PySem.Challenge.cw_quits_k13_ringed_holds : PySem.Challenge.rw_quits_k13_ringed.Holds := by
  w_on; o_law; k_head; (case hw => w_witness2)
  k_fill
  refine K.walk (l := PySem.Challenge.rw_quits_k13_ringed) rfl rfl (fun w h Y => PySem.W.kIn_of Y) ?F
  case F =>
    intro w mg fa h KX G hmg
    refine K.fin ?T hmg
    case T =>
      refine' K.txt_mk KX G ?m_Bare ?m_Closed ?m_Gone ?m_NoAnswer ?m_NoDeal ?m_NoLayer ?m_NoMember ?m_NoPart ?m_NoRule ?m_NoTerms ?m_Out ?m_Poor ?m_QuitsError ?m_Ringed ?m_Settled ?m_Standing ?m_TooMuch ?m_Unclosed ?hd_Bare ?ty_Bare ?hd_Closed ?ty_Closed ?hd_Gone ?ty_Gone ?hd_NoAnswer ?ty_NoAnswer ?hd_NoDeal ?ty_NoDeal ?hd_NoLayer ?ty_NoLayer ?hd_NoMember ?ty_NoMember ?hd_NoPart ?ty_NoPart ?hd_NoRule ?ty_NoRule ?hd_NoTerms ?ty_NoTerms ?hd_Out ?ty_Out ?hd_Poor ?ty_Poor ?hd_QuitsError ?ty_QuitsError ?hd_Ringed ?ty_Ringed ?hd_Settled ?ty_Settled ?hd_Standing ?ty_Standing ?hd_TooMuch ?ty_TooMuch ?hd_Unclosed ?ty_Unclosed ?sn_ ?tk_ ?b_QuitsError ?x_Ringed ?ga_Ringed ?gn_Ringed ?be_Ringed ?fa_Ringed ?mo_Ringed ?s_Ringed_Bare ?n_Ringed_Bare ?s_Ringed_Closed ?n_Ringed_Closed ?s_Ringed_Gone ?n_Ringed_Gone ?s_Ringed_NoAnswer ?n_Ringed_NoAnswer ?s_Ringed_NoDeal ?n_Ringed_NoDeal ?s_Ringed_NoLayer ?n_Ringed_NoLayer ?s_Ringed_NoMember ?n_Ringed_NoMember ?s_Ringed_NoPart ?n_Ringed_NoPart ?s_Ringed_NoRule ?n_Ringed_NoRule ?s_Ringed_NoTerms ?n_Ringed_NoTerms ?s_Ringed_Out ?n_Ringed_Out ?s_Ringed_Poor ?n_Ringed_Poor ?s_Ringed_QuitsError ?n_Ringed_QuitsError ?s_Ringed_Ringed ?s_Ringed_Settled ?n_Ringed_Settled ?s_Ringed_Standing ?n_Ringed_Standing ?s_Ringed_TooMuch ?n_Ringed_TooMuch ?s_Ringed_Unclosed ?n_Ringed_Unclosed ?v_Ringed ?a_a_ring ?l_a_ring ?c_a_ring ?k_a_ring ?a_ways_onward ?l_ways_onward ?c_ways_onward ?k_ways_onward ?a_dues_among ?l_dues_among ?c_dues_among ?k_dues_among ?a_lined ?l_lined ?c_lined ?k_lined ?a_free_members ?l_free_members ?c_free_members ?k_free_members ?a__law_cell ?l__law_cell ?c__law_cell ?k__law_cell ?a__law_whole ?l__law_whole ?c__law_whole ?k__law_whole ?a__law_wholes ?l__law_wholes ?c__law_wholes ?k__law_wholes ?a__law_drawn ?l__law_drawn ?c__law_drawn ?k__law_drawn ?a__law_amount ?l__law_amount ?c__law_amount ?k__law_amount ?a__law_due ?l__law_due ?c__law_due ?k__law_due ?a__law_sheet ?l__law_sheet ?c__law_sheet ?k__law_sheet ?a__law_forward ?l__law_forward ?c__law_forward ?k__law_forward ?a__law_is_ring ?l__law_is_ring ?c__law_is_ring ?k__law_is_ring ?a__law_lined_up ?l__law_lined_up ?c__law_lined_up ?k__law_lined_up ?a__law_refused ?l__law_refused ?c__law_refused ?k__law_refused ?a_law ?l_law ?c_law ?k_law ?w_ValueError ?w_bool ?w_enumerate ?w_int ?w_isinstance ?w_len ?w_list ?w_max ?w_range ?w_sorted
      (case m_Bare => k_is)
      (case m_Closed => k_is)
      (case m_Gone => k_is)
      (case m_NoAnswer => k_is)
      (case m_NoDeal => k_is)
      (case m_NoLayer => k_is)
      (case m_NoMember => k_is)
      (case m_NoPart => k_is)
      (case m_NoRule => k_is)
      (case m_NoTerms => k_is)
      (case m_Out => k_is)
      (case m_Poor => k_is)
      (case m_QuitsError => k_is)
      (case m_Ringed => k_is)
      (case m_Settled => k_is)
      (case m_Standing => k_is)
      (case m_TooMuch => k_is)
      (case m_Unclosed => k_is)
      (case hd_Bare => k_is)
      (case ty_Bare => k_is)
      (case hd_Closed => k_is)
      (case ty_Closed => k_is)
      (case hd_Gone => k_is)
      (case ty_Gone => k_is)
      (case hd_NoAnswer => k_is)
      (case ty_NoAnswer => k_is)
      (case hd_NoDeal => k_is)
      (case ty_NoDeal => k_is)
      (case hd_NoLayer => k_is)
      (case ty_NoLayer => k_is)
      (case hd_NoMember => k_is)
      (case ty_NoMember => k_is)
      (case hd_NoPart => k_is)
      (case ty_NoPart => k_is)
      (case hd_NoRule => k_is)
      (case ty_NoRule => k_is)
      (case hd_NoTerms => k_is)
      (case ty_NoTerms => k_is)
      (case hd_Out => k_is)
      (case ty_Out => k_is)
      (case hd_Poor => k_is)
      (case ty_Poor => k_is)
      (case hd_QuitsError => k_is)
      (case ty_QuitsError => k_is)
      (case hd_Ringed => k_is)
      (case ty_Ringed => k_is)
      (case hd_Settled => k_is)
      (case ty_Settled => k_is)
      (case hd_Standing => k_is)
      (case ty_Standing => k_is)
      (case hd_TooMuch => k_is)
      (case ty_TooMuch => k_is)
      (case hd_Unclosed => k_is)
      (case ty_Unclosed => k_is)
      (case sn_ => k_is)
      (case tk_ => k_is)
      (case b_QuitsError => k_is)
      (case x_Ringed => k_exc)
      (case ga_Ringed => k_is)
      (case gn_Ringed => k_is)
      (case be_Ringed => k_is)
      (case fa_Ringed => k_is)
      (case mo_Ringed => k_is)
      (case s_Ringed_Bare => k_is)
      (case n_Ringed_Bare => decide)
      (case s_Ringed_Closed => k_is)
      (case n_Ringed_Closed => decide)
      (case s_Ringed_Gone => k_is)
      (case n_Ringed_Gone => decide)
      (case s_Ringed_NoAnswer => k_is)
      (case n_Ringed_NoAnswer => decide)
      (case s_Ringed_NoDeal => k_is)
      (case n_Ringed_NoDeal => decide)
      (case s_Ringed_NoLayer => k_is)
      (case n_Ringed_NoLayer => decide)
      (case s_Ringed_NoMember => k_is)
      (case n_Ringed_NoMember => decide)
      (case s_Ringed_NoPart => k_is)
      (case n_Ringed_NoPart => decide)
      (case s_Ringed_NoRule => k_is)
      (case n_Ringed_NoRule => decide)
      (case s_Ringed_NoTerms => k_is)
      (case n_Ringed_NoTerms => decide)
      (case s_Ringed_Out => k_is)
      (case n_Ringed_Out => decide)
      (case s_Ringed_Poor => k_is)
      (case n_Ringed_Poor => decide)
      (case s_Ringed_QuitsError => k_is)
      (case n_Ringed_QuitsError => decide)
      (case s_Ringed_Ringed => k_is)
      (case s_Ringed_Settled => k_is)
      (case n_Ringed_Settled => decide)
      (case s_Ringed_Standing => k_is)
      (case n_Ringed_Standing => decide)
      (case s_Ringed_TooMuch => k_is)
      (case n_Ringed_TooMuch => decide)
      (case s_Ringed_Unclosed => k_is)
      (case n_Ringed_Unclosed => decide)
      (case v_Ringed => k_is)
      (case a_a_ring => k_is)
      (case l_a_ring => k_is)
      (case c_a_ring => k_is)
      (case k_a_ring => k_is)
      (case a_ways_onward => k_is)
      (case l_ways_onward => k_is)
      (case c_ways_onward => k_is)
      (case k_ways_onward => k_is)
      (case a_dues_among => k_is)
      (case l_dues_among => k_is)
      (case c_dues_among => k_is)
      (case k_dues_among => k_is)
      (case a_lined => k_is)
      (case l_lined => k_is)
      (case c_lined => k_is)
      (case k_lined => k_is)
      (case a_free_members => k_is)
      (case l_free_members => k_is)
      (case c_free_members => k_is)
      (case k_free_members => k_is)
      (case a__law_cell => k_is)
      (case l__law_cell => k_is)
      (case c__law_cell => k_is)
      (case k__law_cell => k_is)
      (case a__law_whole => k_is)
      (case l__law_whole => k_is)
      (case c__law_whole => k_is)
      (case k__law_whole => k_is)
      (case a__law_wholes => k_is)
      (case l__law_wholes => k_is)
      (case c__law_wholes => k_is)
      (case k__law_wholes => k_is)
      (case a__law_drawn => k_is)
      (case l__law_drawn => k_is)
      (case c__law_drawn => k_is)
      (case k__law_drawn => k_is)
      (case a__law_amount => k_is)
      (case l__law_amount => k_is)
      (case c__law_amount => k_is)
      (case k__law_amount => k_is)
      (case a__law_due => k_is)
      (case l__law_due => k_is)
      (case c__law_due => k_is)
      (case k__law_due => k_is)
      (case a__law_sheet => k_is)
      (case l__law_sheet => k_is)
      (case c__law_sheet => k_is)
      (case k__law_sheet => k_is)
      (case a__law_forward => k_is)
      (case l__law_forward => k_is)
      (case c__law_forward => k_is)
      (case k__law_forward => k_is)
      (case a__law_is_ring => k_is)
      (case l__law_is_ring => k_is)
      (case c__law_is_ring => k_is)
      (case k__law_is_ring => k_is)
      (case a__law_lined_up => k_is)
      (case l__law_lined_up => k_is)
      (case c__law_lined_up => k_is)
      (case k__law_lined_up => k_is)
      (case a__law_refused => k_is)
      (case l__law_refused => k_is)
      (case c__law_refused => k_is)
      (case k__law_refused => k_is)
      (case a_law => k_is)
      (case l_law => k_is)
      (case c_law => k_is)
      (case k_law => k_is)
      (case w_ValueError => k_is)
      (case w_bool => k_is)
      (case w_enumerate => k_is)
      (case w_int => k_is)
      (case w_isinstance => k_is)
      (case w_len => k_is)
      (case w_list => k_is)
      (case w_max => k_is)
      (case w_range => k_is)
      (case w_sorted => k_is)
