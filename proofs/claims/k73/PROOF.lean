import PyProof.Rows.All
import Wide.All
import OpenK.AllK
import Wide.FinOn
import Lean
import PyProof.EqAt
import PyProof.EqKinds
import PyProof.TupleCall
import PyProof.CompFree
import PyProof.Cells
import PyProof.EnumFor
import PyProof.EnumStmt
import PyProof.EnumMake
import PyProof.ZipIter
import PyProof.SumAny
import PyProof.MinMaxWalk
import PyProof.ConsumeWalk
import PyProof.Rows.EnumRows
import PyProof.Rows.FactsT2
import PyProof.Rows.SeqGen
import KE.KTryMore
import PyProof.ExcBaseAll.ValueError
import PyProof.ExcAttrAll.ValueError
import PyProof.ListRange
import PyProof.Rows.SortShell
import PyProof.Rows.SortWalk
import PyProof.Rows.CallKwBuiltin
import PyProof.Rows.SortRev
import KE.KSortTup
import KE.KLam
import KE.KRevIter
import PyProof.DictWalks
import PySem.Challenge.RW_quits_k73_whole_book
set_option compiler.extract_closed false
set_option bootstrap.genMatcherCode false
set_option Elab.async false
set_option linter.all false
set_option maxRecDepth 100000
namespace Internal
theorem aut0 (h:True:=by first | exact .inl rfl | exact .inr rfl | assumption):True:=h
theorem aut1 (h:True:=by decide):True:=h
theorem aut2 (h:True:=by rfl):True:=h
theorem aut3 (h:True:=by intro _; rfl):True:=h
theorem aut4 (h:True:=by intros; rfl):True:=h
open PySem PySem.Spec PyProof.Rows
noncomputable abbrev Key:=Sum Int Str
noncomputable def zc5:Key->Value->Bool
 | .inl k,v=>Value.isInt k v
 | .inr x,v=>Value.isStrOf x v
noncomputable def zmJ (w:World):Key->Int
 | .inl k=>hashInt k
 | .inr x=>hashStr w x
theorem zan:∀ {k:Key} {v:Value},zc5 k v=true->(∃ i t,k=Sum.inl i/\v=Value.int i t)\/(∃ x t,k=Sum.inr x/\v=Value.str x t)
 | .inl i,v,h=>by
  obtain ⟨t,e⟩:=Value.isInt_shape (k:=i) (v:=v) h
  exact .inl ⟨i,t,rfl,e⟩
 | .inr x,v,h=>by
  obtain ⟨t,e⟩:=Value.isStrOf_shape (x:=x) (v:=v) h
  exact .inr ⟨x,t,rfl,e⟩
theorem zhY (i:Int) (t:Tok):zc5 (.inl i) (.int i t)=true:=by simp [zc5,Value.isInt]
theorem zh3 (x:Str) (t:Tok):zc5 (.inr x) (.str x t)=true:=by simp [zc5,Value.isStrOf]
theorem zkG (a b:Int):decide ((Sum.inl a:Key)=Sum.inl b)=(a == b):=by
 by_cases e:a=b
 ·subst e; simp
 ·have h:¬ (Sum.inl a:Key)=Sum.inl b:=fun q=>e (Sum.inl.inj q)
  rw [decide_eq_false h]
  exact (beq_eq_false_iff_ne.mpr e).symm
theorem zli (a b:Str):decide ((Sum.inr a:Key)=Sum.inr b)=decide (a=b):=by
 by_cases e:a=b
 ·subst e; simp
 ·have h:¬ (Sum.inr a:Key)=Sum.inr b:=fun q=>e (Sum.inr.inj q)
  rw [decide_eq_false h,decide_eq_false e]
theorem zkP (a:Int) (b:Str):decide ((Sum.inl a:Key)=Sum.inr b)=false:=decide_eq_false (fun q=>nomatch q)
theorem zkI (a:Str) (b:Int):decide ((Sum.inr a:Key)=Sum.inl b)=false:=decide_eq_false (fun q=>nomatch q)
noncomputable def z7 (prog:Program) (w:World):PySem.KeyKind prog w Key where
 is:=zc5
 hash:=zmJ w
 inj:=fun v a b ha hb=>by
  rcases zan ha with ⟨i,t,rfl,rfl⟩ | ⟨x,t,rfl,rfl⟩
  ·rcases zan hb with ⟨j,u,rfl,e⟩ | ⟨y,u,rfl,e⟩
   ·injection e with e1 _; rw [e1]
   ·exact nomatch e
  ·rcases zan hb with ⟨j,u,rfl,e⟩ | ⟨y,u,rfl,e⟩
   ·exact nomatch e
   ·injection e with e1 _; rw [e1]
 byValue:=fun k v h=>by
  rcases zan h with ⟨i,t,rfl,rfl⟩ | ⟨x,t,rfl,rfl⟩ <;> rfl
 pyHash:=fun hv h=>by
  rcases zan hv with ⟨i,t,rfl,rfl⟩ | ⟨x,t,rfl,rfl⟩
  ·exact wpAny_pyHash_int h
  ·exact wpAny_pyHash_str h
 eqBool:=fun hu hv h=>by
  rcases zan hu with ⟨i,t,rfl,rfl⟩ | ⟨x,t,rfl,rfl⟩
  ·rcases zan hv with ⟨j,u,rfl,rfl⟩ | ⟨y,u,rfl,rfl⟩
   ·rw [zkG] at h; exact wpAny_eqBool_int h
   ·rw [zkP] at h; exact SeqAt.EqAt.int_str i t y u _ _ _ _ h
  ·rcases zan hv with ⟨j,u,rfl,rfl⟩ | ⟨y,u,rfl,rfl⟩
   ·rw [zkI] at h; exact SeqAt.EqAt.str_int x t j u _ _ _ _ h
   ·rw [zli] at h; exact wpAny_eqBool_str h
 «strs»:=fun k x t v h=>by
  rcases zan h with ⟨i,u,rfl,e⟩ | ⟨y,u,rfl,e⟩
  ·exact nomatch e
  ·injection e with e1 _
   subst e1
   cases v <;> rfl
theorem zhd (prog:Program) (w:World) (k:Key) (v:Value):(z7 prog w).is k v=zc5 k v:=rfl
theorem zge (prog:Program) (w:World) (i:Int) (t:Tok):(z7 prog w).is (.inl i) (.int i t)=true:=zhY i t
theorem zgb (prog:Program) (w:World) (x:Str) (t:Tok):(z7 prog w).is (.inr x) (.str x t)=true:=zh3 x t
end Internal
namespace Internal
open PySem PySem.Spec PyProof.Rows
inductive V where
 | non | bl (b:Bool) | int (i:Int) | str (x:Str) | byt (b:Array UInt8) | flt (b:UInt64) | ref (a:Addr) | ty (n:String)
 deriving DecidableEq
noncomputable def RelV:V->Value->Prop
 | .non,u=>u=Value.none
 | .bl b,u=>u=Value.bool b
 | .int i,u=>∃ t,u=Value.int i t
 | .str x,u=>∃ t,u=Value.str x t
 | .byt b,u=>∃ t,u=Value.bytes b t
 | .flt b,u=>∃ t,u=Value.float b t
 | .ref a,u=>u=Value.ref a
 | .ty n,u=>u=Value.type n
noncomputable abbrev Vals:List V->List Value->Prop:=Paired RelV
theorem Vals.length {xs:List V} {us:List Value} (r:Vals xs us):xs.length=us.length:=Paired.length r
theorem Vals.get:∀ {xs:List V} {us:List Value} {i:Nat} {x:V},Vals xs us->xs[i]?=some x->∃ u,us[i]?=some u/\RelV x u
 | _,_,_,_,.nil,e=>by simp at e
 | _,_,0,_,.cons r _,e=>by simp at e; subst e; exact ⟨_,rfl,r⟩
 | _,_,i + 1,x,.cons _ t,e=>by
  obtain ⟨u,h1,h2⟩:=Vals.get (i:=i) (x:=x) t (by simpa using e)
  exact ⟨u,by simpa using h1,h2⟩
theorem Vals.set {x:V} {u:Value} (r:RelV x u):∀ {xs:List V} {us:List Value} (i:Nat),Vals xs us->Vals (xs.set i x) (us.set i u)
 | _,_,_,.nil=>.nil
 | _,_,0,.cons _ t=>.cons r t
 | _,_,i + 1,.cons q t=>.cons q (Vals.set r i t)
theorem Vals.append:∀ {xs ys:List V} {us ws:List Value},Vals xs us->Vals ys ws->Vals (xs ++ ys) (us ++ ws)
 | _,_,_,_,.nil,s=>s
 | _,_,_,_,.cons r t,s=>.cons r (Vals.append t s)
theorem Vals.take:∀ {xs:List V} {us:List Value} (n:Nat),Vals xs us->Vals (xs.take n) (us.take n)
 | _,_,0,_=>.nil
 | _,_,_ + 1,.nil=>.nil
 | _,_,n + 1,.cons r t=>.cons r (Vals.take n t)
theorem Vals.drop:∀ {xs:List V} {us:List Value} (n:Nat),Vals xs us->Vals (xs.drop n) (us.drop n)
 | _,_,0,r=>r
 | _,_,_ + 1,.nil=>.nil
 | _,_,n + 1,.cons _ t=>Vals.drop n t
noncomputable def RelO:Option V->Option Value->Prop
 | some v,some u=>RelV v u
 | none,none=>True
 | _,_=>False
noncomputable def KV {κ:Type}:List (κ × V)->List (κ × Value)->Prop:=Paired fun (p:κ × V) (q:κ × Value)=>p.1=q.1/\RelV p.2 q.2
noncomputable def kV:Key->V
 | .inl i=>.int i
 | .inr x=>.str x
inductive HO where
 /-- a list -/
 | lst (xs:List V)
 /-- a tuple (never changes) -/
 | tup (xs:List V)
 /-- a dict whose keys are ints and texts; one whose keys are tuples of ints and texts (the empty one is both) -/
 | dK (kvs:List (Key × V)) | dT (kvs:List (List Key × V))
 /-- a set of ints: its members,its size -/
 | set (S:Int->Bool) (n:Nat)
 /-- an instance of the class at C,its dict at dx,its attributes -/
 | ins (C dx:Addr) (fs:List (Str × V))
 /-- the dict of the instance at x -/
 | own (x:Addr)
 /-- the dict of an exception -/
 | xd (fs:List (Str × V))
 /-- a bound method,f of x -/
 | met (f x:Addr)
 /-- a range object lo,lo + 1,.. below hi -/
 | rng (lo hi:Int)
 /-- a thing that is known to the object (the script; a dict while a loop walks it): read,never written while it is so -/
 | frz (o:Obj) (u:HO)
 /-- a code object's table -/
 | tbl (ps:Array Value)
 /-- any other thing,by what is true of its one object (a def of one's own: SetO a S n:=HO.ext fun h=>..) -/
 | ext (φ:Heap->Prop)
noncomputable abbrev Hp:=Addr->Option HO
noncomputable def upd (H:Hp) (a:Addr) (o:HO):Hp:=fun b=>if b=a then some o else H b
theorem zK {H:Hp} {a:Addr} {o:HO}:upd H a o a=some o:=by unfold upd; rw [if_pos rfl]
theorem zG {H:Hp} {a b:Addr} {o:HO} (h:b ≠ a):upd H a o b=H b:=by unfold upd; rw [if_neg h]
theorem zbI {H:Hp} {a b:Addr} {o u:HO} (h:H a=some o) (h':H b=some u) (d:o ≠ u):a ≠ b:=by
 intro e; subst e; rw [h] at h'; exact d (Option.some.inj h')
theorem zJ {H:Hp} {a b:Addr} {o:HO} (h:H a=some o) (h':H b=none):a ≠ b:=by
 intro e; subst e; rw [h] at h'; cases h'
section
variable (P:Program) (w:World)
noncomputable def ObjOk (H:Hp) (h:Heap) (a:Addr):HO->Prop
 | .lst xs=>xs.length<=sizeLine/\∃ (its:List Value) (n:Nat),Vals xs its/\h.get? a=some { cls:=.type "list",data:=.seq its.toArray n }
 | .tup xs=>xs.length<=sizeLine/\∃ its:List Value,Vals xs its/\IsTup h a its.toArray
 | .dK kvs=>kvs.length<=sizeLine/\(a == sysModules)=false/\∃ vs,KV kvs vs/\h.DictOf (z7 P w) a vs
 | .dT kvs=>kvs.length<=sizeLine/\(a == sysModules)=false/\∃ xs:List (List Key × Addr × Value),
   Paired (fun (p:List Key × V) (q:List Key × Addr × Value)=>p.1=q.1/\H q.2.1=some (.tup (p.1.map kV))/\RelV p.2 q.2.2) kvs xs /\
   ∃ o es ep,h.get? a=some o/\o.ExactDict/\o.data=.dict es ep/\es.toList=xs.map (entryOfKey (tupleKind (z7 P w)))/\(xs.map (·.1)).Nodup
 | .set S n=>h.SetOf (intKind P w) a S n
 | .ins C dx fs=>H dx=some (.own a)/\fs.length<=1000/\dx ≠ a/\h.get? a=some (PySem.W.instObj C dx) /\
   ∃ mA,h.Ns1 dx mA/\(∀ f,RelO (fs.lookup f) (mA f))/\PySem.Within mA (fs.map (·.1))
 | .own _=>∃ o,h.get? a=some o
 | .xd fs=>∃ mA,h.Ns1 a mA/\∀ f,RelO (fs.lookup f) (mA f)
 | .rng lo hi=>∃ t u v,h.get? a=some { cls:=.type "range",data:=.fields #[.int lo t,.int hi u,.int 1 v] }
 | .frz o u=>h.get? a=some o/\ObjOk H h a u
 | .tbl ps=>h.get? a=some { cls:=.none,data:=.fields ps }
 | .met f x=>h.get? a=some (PySem.W.methodObj (.ref f) (.ref x))
 | .ext φ=>φ h/\(∃ o,h.get? a=some o)/\∀ h1 h2:Heap,φ h1->(∀ o,h1.get? a=some o->h2.get? a=some o)->φ h2
noncomputable def HOk (H:Hp) (h:Heap):Prop:=∀ a o,H a=some o->ObjOk P w H h a o
end
section
variable {P:Program} {w:World} {H H':Hp} {h h':Heap} {a:Addr} {o:HO}
theorem ObjOk.lt (x:ObjOk P w H h a o):a < h.objs.size:=by
 cases o with
 | lst xs=>obtain ⟨_,_,_,_,e⟩:=x; exact Heap.lt_size e
 | tup xs=>obtain ⟨_,_,_,p⟩:=x; exact p.lt
 | dK kvs=>obtain ⟨_,_,_,_,o,_,_,e,_⟩:=x; exact Heap.lt_size e
 | dT kvs=>obtain ⟨_,_,_,_,o,_,_,e,_⟩:=x; exact Heap.lt_size e
 | set S n=>obtain ⟨o,_,_,_,e,_⟩:=x; exact Heap.lt_size e
 | ins C dx fs=>obtain ⟨_,_,_,e,_⟩:=x; exact Heap.lt_size e
 | own y=>obtain ⟨_,e⟩:=x; exact Heap.lt_size e
 | xd fs=>obtain ⟨_,⟨_,_,_,e,_⟩,_⟩:=x; exact Heap.lt_size e
 | rng lo hi=>obtain ⟨_,_,_,e⟩:=x; exact Heap.lt_size e
 | frz ob u=>obtain ⟨e,_⟩:=x; exact Heap.lt_size e
 | tbl ps=>exact Heap.lt_size (show h.get? a=some _ from x)
 | met f y=>exact Heap.lt_size (show h.get? a=some _ from x)
 | ext φ=>obtain ⟨_,⟨_,e⟩,_⟩:=x; exact Heap.lt_size e
theorem Paired.mapP {α β:Type} {F G:α->β->Prop}:∀ {l₁:List α} {l₂:List β},Paired F l₁ l₂->(∀ a b,F a b->G a b)->Paired G l₁ l₂
 | _,_,.nil,_=>.nil
 | _,_,.cons r t,f=>.cons (f _ _ r) (Paired.mapP t f)
theorem ObjOk.stay (x:ObjOk P w H h a o) (k:∀ b u,(b=a\/H b=some (.own a))->h.get? b=some u->h'.get? b=some u)
  (ho:∀ b,H b=some (.own a)->H' b=some (.own a)) (ht:∀ b xs,H b=some (.tup xs)->H' b=some (.tup xs)):ObjOk P w H' h' a o:=by
 induction o with
 | lst xs=>obtain ⟨z,its,n,r,e⟩:=x; exact ⟨z,its,n,r,k _ _ (.inl rfl) e⟩
 | tup xs=>obtain ⟨z,its,r,ob,e,c⟩:=x; exact ⟨z,its,r,ob,k _ _ (.inl rfl) e,c⟩
 | dK kvs=>obtain ⟨z,y,vs,r,ob,es,ep,e,c⟩:=x; exact ⟨z,y,vs,r,ob,es,ep,k _ _ (.inl rfl) e,c⟩
 | dT kvs=>
  obtain ⟨z,y,xs,r,ob,es,ep,e,c⟩:=x
  exact ⟨z,y,xs,Paired.mapP r fun p q z=>⟨z.1,ht _ _ z.2.1,z.2.2⟩,ob,es,ep,k _ _ (.inl rfl) e,c⟩
 | set S n=>obtain ⟨ob,es,ep,t,e,c⟩:=x; exact ⟨ob,es,ep,t,k _ _ (.inl rfl) e,c⟩
 | ins C dx fs=>
  obtain ⟨d,z,ne,e,mA,⟨od,es,ep,e2,c⟩,r⟩:=x
  exact ⟨ho _ d,z,ne,k _ _ (.inl rfl) e,mA,⟨od,es,ep,k _ _ (.inr d) e2,c⟩,r⟩
 | own y=>obtain ⟨ob,e⟩:=x; exact ⟨ob,k _ _ (.inl rfl) e⟩
 | xd fs=>obtain ⟨mA,⟨od,es,ep,e,c⟩,r⟩:=x; exact ⟨mA,⟨od,es,ep,k _ _ (.inl rfl) e,c⟩,r⟩
 | rng lo hi=>obtain ⟨t,u,v,e⟩:=x; exact ⟨t,u,v,k _ _ (.inl rfl) e⟩
 | frz ob u ih=>obtain ⟨e,q⟩:=x; exact ⟨k _ _ (.inl rfl) e,ih q⟩
 | tbl ps=>
  have e:h.get? a=some { cls:=.none,data:=.fields ps }:=x
  show h'.get? a=some { cls:=.none,data:=.fields ps }
  exact k a _ (.inl rfl) e
 | met f y=>
  have e:h.get? a=some (PySem.W.methodObj (.ref f) (.ref y)):=x
  show h'.get? a=some (PySem.W.methodObj (.ref f) (.ref y))
  exact k a _ (.inl rfl) e
 | ext φ=>obtain ⟨p,⟨o,e⟩,st⟩:=x; exact ⟨st _ _ p fun o q=>k _ _ (.inl rfl) q,⟨o,k _ _ (.inl rfl) e⟩,st⟩
theorem HOk.lt (x:HOk P w H h) (e:H a=some o):a < h.objs.size:=(x a o e).lt
theorem HOk.fresh (x:HOk P w H h) (e:h.objs.size<=a):H a=none:=by
 cases q:H a with
 | none=>rfl
 | some u=>exact absurd (Nat.lt_of_lt_of_le (x.lt q) e) (Nat.lt_irrefl _)
theorem HOk.kept (x:HOk P w H h) (k:∀ b u,h.get? b=some u->h'.get? b=some u):HOk P w H h':=fun a o e=>
 (x a o e).stay (fun b u _ q=>k b u q) (fun _ q=>q) fun _ _ q=>q
theorem HOk.laid (x:HOk P w H h) (k:∀ b u,h.get? b=some u->h'.get? b=some u) (hp:h.objs.size<=a) (new:ObjOk P w (upd H a o) h' a o):HOk P w (upd H a o) h':=fun b u e=>by
 have hn:=x.fresh hp
 by_cases hb:b=a
 ·subst hb; rw [zK] at e; cases e; exact new
 ·rw [zG hb] at e
  exact (x b u e).stay (fun c v _ q=>k c v q) (fun c q=>by rw [zG (zJ q hn)]; exact q) fun c xs q=>by rw [zG (zJ q hn)]; exact q
end
noncomputable def Rd (H:Hp) (a:Addr) (u:HO):Prop:=H a=some u\/∃ o,H a=some (.frz o u)
theorem Rd.ok {P:Program} {w:World} {H:Hp} {h:Heap} {a:Addr} {u:HO} (r:Rd H a u) (x:HOk P w H h):ObjOk P w H h a u:=by
 rcases r with r | ⟨o,r⟩
 ·exact x a u r
 ·obtain ⟨_,q⟩:=x a _ r
  exact q
noncomputable def Mut:Option HO->Prop
 | some (.lst _)=>True
 | some (.dK _)=>True
 | some (.dT _)=>True
 | some (.set _ _)=>True
 | some (.ins _ _ _)=>True
 | some (.ext _)=>True
 | _=>False
section
variable {P:Program} {w:World} {H:Hp} {h h':Heap} {x e:Addr} {o':HO}
theorem HOk.write (ok:HOk P w H h) (mu:Mut (H x)) (he:e=x\/H e=some (.own x)) (k:∀ b u,b ≠ e->h.get? b=some u->h'.get? b=some u) (heo:∃ u,h'.get? e=some u)
  (new:ObjOk P w (upd H x o') h' x o'):HOk P w (upd H x o') h':=fun b u q=>by
 have nown:∀ c y,H c=some (.own y)->c ≠ x:=fun c y r z=>by subst z; rw [r] at mu; exact mu
 have ntup:∀ c xs,H c=some (.tup xs)->c ≠ x:=fun c xs r z=>by subst z; rw [r] at mu; exact mu
 by_cases hb:b=x
 ·subst hb; rw [zK] at q; cases q; exact new
 ·rw [zG hb] at q
  by_cases hbe:b=e
  ·have q':H b=some (.own x):=by
    rcases he with z | z
    ·exact absurd (hbe.trans z) hb
    ·rw [hbe]; exact z
   rw [q] at q'; cases q'
   obtain ⟨v,hv⟩:=heo
   exact ⟨v,by rw [hbe]; exact hv⟩
  ·refine (ok b u q).stay (fun c v hc r=>k c v ?_ r) (fun c r=>by rw [zG (nown c b r)]; exact r) fun c xs r=>by rw [zG (ntup c xs r)]; exact r
   rcases hc with rfl | hc
   ·exact hbe
   ·rintro rfl
    rcases he with z | z
    ·exact nown c b hc z
    ·rw [hc] at z; cases z; exact hb rfl
end
set_option genInjectivity false in
set_option genSizeOf false in
structure Un (fs ex:List Addr) (H H':Hp) (h h':Heap):Prop where
 keep:∀ b o,h.get? b=some o->H b=none->b ∉ fs->b ∉ ex->h'.get? b=some o
 slot:∀ b o,h.get? b=some o->H b=none->b ∈ fs->b ∉ ex->∃ sl,h'.get? b=some { o with slots:=sl }
 free:∀ b o,h.get? b=some o->H b=none->b ∉ ex->H' b=none
 there:∀ b o,h.get? b=some o->b ∉ ex->∃ o',h'.get? b=some o'
 tups:∀ b xs,H b=some (.tup xs)->H' b=some (.tup xs)
 frzs:∀ b o u,H b=some (.frz o u)->H' b=some (.frz o u)
 tbls:∀ b ps,H b=some (.tbl ps)->∃ more,H' b=some (.tbl (ps ++ more))
section
variable {fs fs' ex ex':List Addr} {H H1 H2:Hp} {h h1 h2 h':Heap} {a x e:Addr} {o:HO}
theorem Un.any (u:Un fs ex H H1 h h1) {b:Addr} {ob:Obj} (q:h.get? b=some ob) (n:H b=none) (hx:b ∉ ex):∃ sl,h1.get? b=some { ob with slots:=sl }:=by
 by_cases hb:b ∈ fs
 ·exact u.slot b ob q n hb hx
 ·exact ⟨ob.slots,u.keep b ob q n hb hx⟩
theorem Un.kept (k:∀ b u,h.get? b=some u->h'.get? b=some u):Un fs ex H H h h':=
 ⟨fun b ob q _ _ _=>k b ob q,fun b ob q _ _ _=>⟨ob.slots,k b ob q⟩,fun _ _ _ n _=>n,fun b ob q _=>⟨ob,k b ob q⟩,fun _ _ q=>q,fun _ _ _ q=>q,fun _ ps q=>⟨#[],by rw [q]; simp⟩⟩
theorem Un.refl:Un fs ex H H h h:=Un.kept fun _ _ q=>q
theorem Un.laid (k:∀ b u,h.get? b=some u->h'.get? b=some u) (hp:h.objs.size<=a) (hn:H a=none):Un fs ex H (upd H a o) h h' where
 keep:=fun b u q _ _ _=>k b u q
 slot:=fun b u q _ _ _=>⟨u.slots,k b u q⟩
 free:=fun b u q n _=>by rw [zG (Nat.ne_of_lt (Nat.lt_of_lt_of_le (Heap.lt_size q) hp))]; exact n
 there:=fun b u q _=>⟨u,k b u q⟩
 tups:=fun b xs q=>by rw [zG (zJ q hn)]; exact q
 frzs:=fun b u xs q=>by rw [zG (zJ q hn)]; exact q
 tbls:=fun b ps q=>⟨#[],by rw [zG (zJ q hn),q]; simp⟩
theorem Un.write (mu:Mut (H x)) (he:e=x\/H e=some (.own x)) (k:∀ b u,b ≠ e->h.get? b=some u->h'.get? b=some u) (heo:∃ u,h'.get? e=some u):Un fs ex H (upd H x o) h h':=by
 have hx:∀ b,H b=none->b ≠ x:=fun b n z=>by subst z; rw [n] at mu; exact mu
 have hb:∀ b,H b=none->b ≠ e:=fun b n z=>by
  subst z
  rcases he with r | r
  ·exact hx b n r
  ·rw [n] at r; cases r
 have hm:∀ b u,H b=some u->¬ Mut (some u)->b ≠ x:=fun b u q nm z=>by subst z; rw [q] at mu; exact nm mu
 refine ⟨fun b u q n _ _=>k b u (hb b n) q,fun b u q n _ _=>⟨u.slots,k b u (hb b n) q⟩,fun b u q n _=>by rw [zG (hx b n)]; exact n,fun b u q _=>?_,
  fun b xs q=>by rw [zG (hm b _ q fun z=>z)]; exact q,fun b u xs q=>by rw [zG (hm b _ q fun z=>z)]; exact q,fun b ps q=>⟨#[],by rw [zG (hm b _ q fun z=>z),q]; simp⟩⟩
 by_cases hbe:b=e
 ·subst hbe; exact heo
 ·exact ⟨u,k b u hbe q⟩
end
noncomputable def trk (h:Heap) (H:Hp):List Addr:=(List.range h.objs.size).filter fun a=>(H a).isSome
noncomputable def zc7 (h:Heap) (H:Hp):Heap:=PySem.W.hideAll h (trk h H)
theorem zhL (h:Heap) (H:Hp):(zc7 h H).objs.size=h.objs.size:=PySem.W.hideAll_size _ _
theorem zi6 {h:Heap} {H:Hp} {b:Addr} {o:Obj} (e:h.get? b=some o) (n:H b=none):(zc7 h H).get? b=some o:=
 PySem.W.hideAll_get _ e fun hm=>by
  have q:(H b).isSome=true:=(List.mem_filter.mp hm).2
  rw [n] at q; simp at q
theorem zka {h:Heap} {H:Hp} {b:Addr} {o:Obj} (e:(zc7 h H).get? b=some o):h.get? b=some o/\H b=none:=by
 have e':h.get? b=some o:=PySem.W.of_hideAll (trk h H) e
 refine ⟨e',?_⟩
 cases q:H b with
 | none=>rfl
 | some x=>
  have hm:b ∈ trk h H:=List.mem_filter.mpr ⟨List.mem_range.mpr (Heap.lt_size e'),by simp [q]⟩
  have z:(zc7 h H).get? b=none:=PySem.W.hideAll_none (trk h H) hm
  rw [z] at e; cases e
noncomputable def zjI (g h:Heap) (L:Addr):List (Addr × Obj):=(List.range h.objs.size).filterMap fun a=>if a=L\/(g.get? a).isSome=true then none else (h.get? a).map fun o=>(a,o)
noncomputable def rest (g h:Heap) (L d:Addr):List (Addr × Obj):=(zjI g h L).filter fun p=>decide (p.1 ≠ d)
end Internal
namespace Internal
open PySem PySem.Spec PyProof.Rows
set_option genInjectivity false in
set_option genSizeOf false in
structure Mod (K:PySem.W.Frag) (mg:Str->Option Value) (base:Heap):Prop where
 kin:K.In base
 glob:base.Ns mainGlobals mg
 blt:∃ mb,base.Ns builtinsNs mb/\∀ x:Str,x ≠ "__name__" -> mb x=bootBuiltins x
 nolimit:base.NoLimit
set_option genSizeOf false in
structure Cx where
 prog:Program
 w:World
 K:PySem.W.Frag
 mg:Str->Option Value
 base:Heap
 A:Around
 N:List Str
 s₀:Shared
 H₀:Hp
 env:Env
 outer:List Env
 stack:List Env
 ex:List Addr
 fn:Str->Bool
 calm:Bool
 pn:List (Addr × Obj)
 xe:Value->Shared->Prop
noncomputable def frs (l:List Env):List Addr:=l.filterMap (·.frame)
noncomputable abbrev Cx.fs (X:Cx):List Addr:=frs X.outer
noncomputable def Vis (sc:Scope) (x:Str):Prop:=sc.names.lookup x=some .local\/sc.names.lookup x=some .cell\/sc.names.lookup x=some .free
noncomputable def Loc (sc:Scope) (x:Str):Prop:=sc.names.lookup x=some .local\/sc.names.lookup x=some .cell
noncomputable def zmL (env:Env) (h:Heap) (m:Str->Option Value) (x:Str) (u:Value):Prop:=
 (env.kindOf x=some .local/\m x=some u)\/((env.kindOf x=some .cell\/env.kindOf x=some .free)/\∃ c,env.cells.lookup x=some c/\h.IsCell c (some u))
set_option genSizeOf false in
structure Cx.Ok (X:Cx):Prop where
 mod:Mod X.K X.mg X.base
 kind:X.env.scope.kind=.function
 glob:X.env.globals=mainGlobals
 blt:X.env.builtins=builtinsNs
 above:X.s₀.heap.objs.size<=X.env.locals
 inj:∀ x y c,X.env.cells.lookup x=some c->X.env.cells.lookup y=some c->x=y
 has:∀ x,(X.env.kindOf x=some .cell\/X.env.kindOf x=some .free)->∃ c,X.env.cells.lookup x=some c
 cab:∀ x c,X.fn x=true->X.env.cells.lookup x=some c->X.s₀.heap.objs.size<=c
 hd:X.calm=true->X.A.handled=none
 frames:X.A.frames=some X.stack
 stk:X.stack=X.outer\/(X.stack=X.env :: X.outer/\X.env.frame=some X.env.locals)
 exf:∀ b ∈ X.ex,b ≠ X.env.locals/\∀ x c,X.env.cells.lookup x=some c->c ≠ b
 bs:∀ b o,X.base.get? b=some o->X.s₀.heap.get? b=some o/\X.H₀ b=none
 bsz:X.base.objs.size<=X.s₀.heap.objs.size
 noex:∀ b o,X.base.get? b=some o->b ∉ X.ex
 exfs:∀ b ∈ X.ex,b ∉ X.fs
 funs:X.s₀.heap.FunFrames X.base X.outer
 frf:∀ b ∈ X.fs,X.H₀ b=none
set_option genInjectivity false in
set_option genSizeOf false in
structure Inv (X:Cx) (pins:List (Addr × Obj)) (σ:List (Option V)) (H:Hp) (s:Shared):Prop where
 ok:X.Ok
 os:s.os=X.s₀.os
 bare:AllBare s.gens
 base:Un X.fs X.ex X.H₀ H X.s₀.heap s.heap
 loc:∃ m,s.heap.Ns X.env.locals m/\∀ (i:Nat) (x:Str) (v:V),X.N[i]?=some x->σ[i]?=some (some v)->Vis X.env.scope x->∃ u,RelV v u/\zmL X.env s.heap m x u
 cell:∀ x c,X.env.cells.lookup x=some c->∃ v,s.heap.IsCell c v
 free:H X.env.locals=none
 freeC:∀ x c,X.env.cells.lookup x=some c->H c=none
 pin:∀ p ∈ X.pn ++ pins,s.heap.get? p.1=some p.2/\H p.1=none/\p.1 ≠ X.env.locals/\p.1 ∉ X.fs/\∀ v,p.2.data ≠ .cell v
 hok:HOk X.prog X.w H s.heap
 len:σ.length=X.N.length
section
variable {X:Cx} {pins:List (Addr × Obj)} {σ:List (Option V)} {H H':Hp} {s:Shared} {h':Heap}
theorem Cx.Ok.nofr (ok:X.Ok) {b:Addr} {o:Obj} (e:X.base.get? b=some o):b ∉ X.fs:=fun hb=>by
 have:=(ok.funs.mem hb).1
 rw [e] at this; cases this
theorem Inv.bs (I:Inv X pins σ H s):∀ b o,X.base.get? b=some o->s.heap.get? b=some o/\H b=none:=fun b o e=>
 ⟨I.base.keep b o (I.ok.bs b o e).1 (I.ok.bs b o e).2 (I.ok.nofr e) (I.ok.noex b o e),I.base.free b o (I.ok.bs b o e).1 (I.ok.bs b o e).2 (I.ok.noex b o e)⟩
theorem Inv.bk (I:Inv X pins σ H s):∀ b o,X.base.get? b=some o->s.heap.get? b=some o:=fun b o e=>(I.bs b o e).1
theorem Inv.mod (I:Inv X pins σ H s):Mod X.K X.mg X.base:=I.ok.mod
theorem Inv.kIn (I:Inv X pins σ H s):X.K.In s.heap:=I.ok.mod.kin.keeps I.bk
theorem Inv.lt (I:Inv X pins σ H s):X.env.locals < s.heap.objs.size:=let ⟨_,hn,_⟩:=I.loc; hn.lt
theorem Inv.sz (I:Inv X pins σ H s):X.s₀.heap.objs.size<=s.heap.objs.size:=Nat.le_trans I.ok.above (Nat.le_of_lt I.lt)
theorem Inv.nofs (I:Inv X pins σ H s) {a:Addr} (h:s.heap.objs.size<=a):a ∉ X.fs:=fun hb=>by
 obtain ⟨_,o,ho,_⟩:=I.ok.funs.mem hb
 exact absurd (Nat.lt_of_lt_of_le (Heap.lt_size ho) (Nat.le_trans I.sz h)) (Nat.lt_irrefl _)
theorem Inv.cne (I:Inv X pins σ H s):∀ x c,X.env.cells.lookup x=some c->c ≠ X.env.locals:=fun x c e z=>by
 obtain ⟨v,o,ho,hd⟩:=I.cell x c e
 obtain ⟨m,⟨o',es,ep,ho',hd',_⟩,_⟩:=I.loc
 rw [z,ho'] at ho; cases ho; rw [hd'] at hd; cases hd
theorem Inv.funs (I:Inv X pins σ H s):s.heap.FunFrames X.base X.outer:=by
 have all:∀ (l:List Env),(∀ b ∈ frs l,b ∈ X.fs)->X.s₀.heap.FunFrames X.base l->s.heap.FunFrames X.base l:=by
  intro l
  induction l with
  | nil=>intro _ _; trivial
  | cons env r ih=>
   intro hs hl
   obtain ⟨hk,⟨L,o,hf,hn,ho,hd⟩,hr⟩:=hl
   have hL:L ∈ X.fs:=hs L (by unfold frs; rw [List.filterMap_cons,hf]; exact List.mem_cons_self)
   obtain ⟨sl,e⟩:=I.base.slot L o ho (I.ok.frf L hL) hL fun z=>I.ok.exfs L z hL
   exact ⟨hk,⟨L,_,hf,hn,e,hd⟩,ih (fun b hb=>hs b (by unfold frs; rw [List.filterMap_cons,hf]; exact List.mem_cons_of_mem _ hb)) hr⟩
 exact all X.outer (fun _ hb=>hb) I.ok.funs
theorem Inv.stack (I:Inv X pins σ H s):s.heap.FunFrames X.base X.stack:=by
 rcases I.ok.stk with e | ⟨e,hf⟩
 ·rw [e]; exact I.funs
 ·rw [e]
  obtain ⟨m,hn,_⟩:=I.loc
  refine .cons (by rw [I.ok.kind]; decide) hf hn ?_ I.funs
  exact Heap.get?_none_of_le (Nat.le_trans I.ok.bsz I.ok.above)
theorem Inv.stkSub (I:Inv X pins σ H s):∀ b ∈ frs X.stack,b ∈ X.env.locals :: X.fs:=fun b hb=>by
 rcases I.ok.stk with e | ⟨e,hf⟩
 ·rw [e] at hb; exact List.mem_cons_of_mem _ hb
 ·rw [e] at hb
  unfold frs at hb
  rw [List.filterMap_cons,hf] at hb
  exact hb
theorem Inv.stkFree (I:Inv X pins σ H s):∀ b ∈ frs X.stack,H b=none:=fun b hb=>by
 rcases List.mem_cons.mp (I.stkSub b hb) with e | hb
 ·rw [e]; exact I.free
 ·obtain ⟨_,o,ho,_⟩:=I.ok.funs.mem hb
  exact I.base.free b o ho (I.ok.frf b hb) fun z=>I.ok.exfs b z hb
theorem Inv.step {g':Array GenState} {t':Nat} {d':Drawn} {ch:List Addr} (I:Inv X pins σ H s)
  (hch:∀ b ∈ ch,(b ∈ X.ex\/X.s₀.heap.objs.size<=b)/\b ≠ X.env.locals/\(∀ x c,X.env.cells.lookup x=some c->c ≠ b)/\∀ p ∈ X.pn ++ pins,p.1 ≠ b)
  (keep:∀ b o,b ≠ X.env.locals->b ∉ X.fs->b ∉ ch->s.heap.get? b=some o->H b=none->h'.get? b=some o)
  (slot:∀ b o,b ≠ X.env.locals->b ∈ X.fs->b ∉ ch->s.heap.get? b=some o->H b=none->∃ sl,h'.get? b=some { o with slots:=sl }) (free:∀ b o,b ∉ ch->s.heap.get? b=some o->H b=none->H' b=none)
  (there:∀ b o,b ∉ ch->s.heap.get? b=some o->∃ o',h'.get? b=some o')
  (tups:∀ b xs,H b=some (.tup xs)->H' b=some (.tup xs)) (frzs:∀ b o u,H b=some (.frz o u)->H' b=some (.frz o u)) (tbls:∀ b ps,H b=some (.tbl ps)->∃ more,H' b=some (.tbl (ps ++ more)))
  (ns:∀ m,s.heap.Ns X.env.locals m->h'.Ns X.env.locals m) (hok:HOk X.prog X.w H' h') (hg:AllBare g') :
  Inv X pins σ H' { s with heap:=h',gens:=g',drawn:=d',toks:=t' }:=by
 have neL:∀ b o,X.s₀.heap.get? b=some o->b ≠ X.env.locals:=fun b o e=>Nat.ne_of_lt (Nat.lt_of_lt_of_le (Heap.lt_size e) I.ok.above)
 have neC:∀ b o,X.s₀.heap.get? b=some o->b ∉ X.ex->b ∉ ch:=fun b o e hx hb=>by
  rcases (hch b hb).1 with z | z
  ·exact hx z
  ·exact absurd (Nat.lt_of_lt_of_le (Heap.lt_size e) z) (Nat.lt_irrefl _)
 have cellK:∀ x c,X.env.cells.lookup x=some c->∀ v,s.heap.IsCell c v->h'.IsCell c v:=fun x c e v ⟨o,ho,hd⟩=>by
  have nch:c ∉ ch:=fun z=>(hch c z).2.2.1 x c e rfl
  by_cases hc:c ∈ X.fs
  ·obtain ⟨sl,q⟩:=slot c o (I.cne x c e) hc nch ho (I.freeC x c e)
   exact ⟨_,q,hd⟩
  ·exact ⟨o,keep c o (I.cne x c e) hc nch ho (I.freeC x c e),hd⟩
 refine ⟨I.ok,I.os,hg,⟨fun b o e n hb hx=>?_,fun b o e n hb hx=>?_,fun b o e n hx=>?_,fun b o e hx=>?_,fun b xs e=>tups b xs (I.base.tups b xs e),fun b o xs e=>frzs b o xs (I.base.frzs b o xs e),fun b ps e=>?_⟩,?_,fun x c e=>?_,?_,fun x c e=>?_,fun p hp=>?_,hok,I.len⟩
 ·exact keep b o (neL b o e) hb (neC b o e hx) (I.base.keep b o e n hb hx) (I.base.free b o e n hx)
 ·obtain ⟨sl,e1⟩:=I.base.slot b o e n hb hx
  obtain ⟨sl',e2⟩:=slot b _ (neL b o e) hb (neC b o e hx) e1 (I.base.free b o e n hx)
  exact ⟨sl',e2⟩
 ·obtain ⟨o',e1⟩:=I.base.there b o e hx
  exact free b o' (neC b o e hx) e1 (I.base.free b o e n hx)
 ·obtain ⟨o',e1⟩:=I.base.there b o e hx
  exact there b o' (neC b o e hx) e1
 ·obtain ⟨m1,e1⟩:=I.base.tbls b ps e
  obtain ⟨m2,e2⟩:=tbls b _ e1
  exact ⟨m1 ++ m2,by rw [e2,Array.append_assoc]⟩
 ·obtain ⟨m,hn,hl⟩:=I.loc
  refine ⟨m,ns m hn,fun i x v e1 e2 e3=>?_⟩
  obtain ⟨u,r,l⟩:=hl i x v e1 e2 e3
  refine ⟨u,r,?_⟩
  rcases l with l | ⟨k,c,e,z⟩
  ·exact .inl l
  ·exact .inr ⟨k,c,e,cellK x c e _ z⟩
 ·obtain ⟨v,z⟩:=I.cell x c e
  exact ⟨v,cellK x c e v z⟩
 ·obtain ⟨m,⟨o,_,_,ho,_⟩,_⟩:=I.loc
  exact free _ o (fun z=>(hch _ z).2.1 rfl) ho I.free
 ·obtain ⟨v,o,ho,hd⟩:=I.cell x c e
  exact free c o (fun z=>(hch c z).2.2.1 x c e rfl) ho (I.freeC x c e)
 ·obtain ⟨e,n,ne,nf,d⟩:=I.pin p hp
  have nch:p.1 ∉ ch:=fun z=>(hch p.1 z).2.2.2 p hp rfl
  exact ⟨keep p.1 p.2 ne nf nch e n,free p.1 p.2 nch e n,ne,nf,d⟩
theorem Inv.un {t':Nat} (I:Inv X pins σ H s) (u:Un X.fs [] H H' s.heap h') (hok:HOk X.prog X.w H' h'):Inv X pins σ H' { s with heap:=h',toks:=t' }:=by
 obtain ⟨m,⟨o,es,ep,ho,r⟩,_⟩:=id I.loc
 obtain ⟨sl,hL⟩:=u.any ho I.free (by simp)
 exact I.step (g':=s.gens) (d':=s.drawn) (ch:=[]) (fun _ z=>nomatch z) (fun b o _ hb _ e n=>u.keep b o e n hb (by simp)) (fun b o _ hb _ e n=>u.slot b o e n hb (by simp)) (fun b o _ e n=>u.free b o e n (by simp)) (fun b o _ e=>u.there b o e (by simp)) u.tups u.frzs u.tbls (fun m' hm=>by
  obtain ⟨o',es',ep',ho',r'⟩:=hm
  rw [ho] at ho'; cases ho'
  exact ⟨_,es',ep',hL,r'⟩) hok I.bare
theorem Inv.call {g':Array GenState} {t':Nat} {d':Drawn} {ch:List Addr} (I:Inv X pins σ H s) (u:Un (frs X.stack) ch H H' s.heap h') (hok:HOk X.prog X.w H' h') (hg:AllBare g')
  (hch:∀ b ∈ ch,(b ∈ X.ex\/X.s₀.heap.objs.size<=b)/\b ≠ X.env.locals/\(∀ x c,X.env.cells.lookup x=some c->c ≠ b)/\∀ p ∈ X.pn ++ pins,p.1 ≠ b) :
  Inv X pins σ H' { s with heap:=h',gens:=g',drawn:=d',toks:=t' }:=by
 obtain ⟨m,⟨o,es,ep,ho,r⟩,_⟩:=id I.loc
 obtain ⟨sl,hL⟩:=u.any ho I.free fun z=>(hch _ z).2.1 rfl
 exact I.step (ch:=ch) hch (fun b o hL hb hc e n=>u.keep b o e n (fun z=>(List.mem_cons.mp (I.stkSub b z)).elim hL hb) hc) (fun b o _ _ hc e n=>u.any e n hc) (fun b o hc e n=>u.free b o e n hc) (fun b o hc e=>u.there b o e hc) u.tups u.frzs u.tbls (fun m' hm=>by
  obtain ⟨o',es',ep',ho',r'⟩:=hm
  rw [ho] at ho'; cases ho'
  exact ⟨_,es',ep',hL,r'⟩) hok hg
theorem Inv.turned {t':Nat} {it:Addr} (I:Inv X pins σ H s) (k:∀ b o,b ≠ it->s.heap.get? b=some o->h'.get? b=some o) (hn:H it=none) (hL:it ≠ X.env.locals)
  (h1:it ∈ X.ex\/X.s₀.heap.objs.size<=it) (h2:∀ x c,X.env.cells.lookup x=some c->c ≠ it) (h3:∀ p ∈ X.pn ++ pins,p.1 ≠ it):Inv X pins σ H { s with heap:=h',toks:=t' }:=by
 have nit:∀ b u,H b=some u->b ≠ it:=fun b u e z=>by rw [z,hn] at e; cases e
 refine I.step (g':=s.gens) (d':=s.drawn) (ch:=[it]) (fun b hb=>?_) (fun b o _ _ hc e _=>k b o (fun z=>hc (by simp [z])) e) (fun b o _ _ hc e _=>⟨o.slots,k b o (fun z=>hc (by simp [z])) e⟩) (fun _ _ _ _ n=>n)
  (fun b o hc e=>⟨o,k b o (fun z=>hc (by simp [z])) e⟩) (fun _ _ e=>e) (fun _ _ _ e=>e) (fun b ps e=>⟨#[],by rw [e]; simp⟩) (fun m hm=>?_) (fun b u e=>?_) I.bare
 ·have e:b=it:=by simpa using hb
  subst e
  exact ⟨h1,hL,h2,h3⟩
 ·obtain ⟨o,es,ep,ho,r⟩:=hm
  exact ⟨o,es,ep,k _ o (Ne.symm hL) ho,r⟩
 ·refine (I.hok b u e).stay (fun c v hc q=>k c v ?_ q) (fun _ q=>q) fun _ _ q=>q
  rcases hc with z | z
  ·rw [z]; exact nit b u e
  ·exact nit c _ z
theorem Inv.tok (I:Inv X pins σ H s) (t:Nat):Inv X pins σ H { s with toks:=t }:=I.un (h':=s.heap) (t':=t) Un.refl I.hok
theorem Inv.kept {t':Nat} (I:Inv X pins σ H s) (k:∀ b u,s.heap.get? b=some u->h'.get? b=some u):Inv X pins σ H { s with heap:=h',toks:=t' }:=I.un (Un.kept k) (I.hok.kept k)
theorem Inv.laid {a:Addr} {o:HO} {t':Nat} (I:Inv X pins σ H s) (k:∀ b u,s.heap.get? b=some u->h'.get? b=some u) (hp:s.heap.objs.size<=a) (new:ObjOk X.prog X.w (upd H a o) h' a o) :
  Inv X pins σ (upd H a o) { s with heap:=h',toks:=t' }:=I.un (Un.laid k hp (I.hok.fresh hp)) (I.hok.laid k hp new)
theorem Inv.write {x e:Addr} {o:HO} {t':Nat} (I:Inv X pins σ H s) (mu:Mut (H x)) (he:e=x\/H e=some (.own x)) (k:∀ b u,b ≠ e->s.heap.get? b=some u->h'.get? b=some u) (heo:∃ u,h'.get? e=some u)
  (new:ObjOk X.prog X.w (upd H x o) h' x o):Inv X pins σ (upd H x o) { s with heap:=h',toks:=t' }:=I.un (Un.write mu he k heo) (I.hok.write mu he k heo new)
theorem Inv.pins_of {pins':List (Addr × Obj)} (I:Inv X pins σ H s) (h:∀ p ∈ pins',s.heap.get? p.1=some p.2/\H p.1=none/\p.1 ≠ X.env.locals/\p.1 ∉ X.fs/\∀ v,p.2.data ≠ .cell v):Inv X pins' σ H s:=
 ⟨I.ok,I.os,I.bare,I.base,I.loc,I.cell,I.free,I.freeC,fun p hp=>(List.mem_append.mp hp).elim (fun z=>I.pin p (List.mem_append_left _ z)) (h p),I.hok,I.len⟩
theorem zdO {N:List Str} (hN:N.Nodup) {i j:Nat} {x:Str} (a:N[i]?=some x) (b:N[j]?=some x):i=j:=by
 obtain ⟨h1,e1⟩:=List.getElem?_eq_some_iff.mp a
 obtain ⟨h2,e2⟩:=List.getElem?_eq_some_iff.mp b
 exact (List.getElem_inj hN).mp (e1.trans e2.symm)
theorem ze1 {M:Model} {A:Around} {E:Value->Shared->Prop} {i:Nat} {x:Str} {v:V} {u:Value} {Q:Unit->Shared->Prop} (I:Inv X pins σ H s) (hN:X.N.Nodup) (hi:X.N[i]?=some x) (hx:Loc X.env.scope x) (r:RelV v u)
  (h:∀ s',Inv X pins (σ.set i (some v)) H s'->(∃ a,Heap.SameBut a s.heap s'.heap/\(a=X.env.locals\/X.env.cells.lookup x=some a))->Q () s') (hf:autoParam (X.fn x=true\/X.env.scope.names.lookup x=some .local) Internal.aut0._auto_1):wpAny M A (storeName X.env x u) Q E s:=by
 obtain ⟨m,hn,hl⟩:=id I.loc
 have hcls:(X.env.scope.kind == .class || (X.env.scope.kind == .module && X.env.locals != X.env.globals))=false:=by rw [I.ok.kind]; rfl
 have hiσ:i < σ.length:=by rw [I.len]; exact (List.getElem?_eq_some_iff.mp hi).1
 have cne:=I.cne
 have tracked:∀ {a:Addr} {h':Heap},(∃ o,s.heap.get? a=some o/\H a=none)->Heap.SameBut a s.heap h'->HOk X.prog X.w H h':=fun {a h'} ha hs b ob e=>by
  obtain ⟨_,_,hfree⟩:=ha
  refine (I.hok b ob e).stay (fun c w' hc q=>(hs.2 c ?_).trans q) (fun _ q=>q) fun _ _ q=>q
  rintro rfl
  rcases hc with rfl | hc
  ·rw [hfree] at e; cases e
  ·rw [hfree] at hc; cases hc
 rcases hx with hk | hk
 ·refine wpAny_storeName_local hk hn (fun h' hn' hs=>?_) hcls
  obtain ⟨oL,_,_,hoL,_⟩:=id hn
  refine h _ ⟨I.ok,I.os,I.bare,⟨fun b o e n hb hx=>?_,fun b o e n hb hx=>?_,I.base.free,fun b o e hx=>?_,I.base.tups,I.base.frzs,I.base.tbls⟩,⟨_,hn',fun j y v' e1 e2 e3=>?_⟩,fun y c e=>?_,I.free,I.freeC,fun p hp=>?_,tracked ⟨oL,hoL,I.free⟩ hs,by simpa using I.len⟩ ⟨_,hs,.inl rfl⟩
  ·exact (hs.2 b (Nat.ne_of_lt (Nat.lt_of_lt_of_le (Heap.lt_size e) I.ok.above))).trans (I.base.keep b o e n hb hx)
  ·obtain ⟨sl,e1⟩:=I.base.slot b o e n hb hx
   exact ⟨sl,(hs.2 b (Nat.ne_of_lt (Nat.lt_of_lt_of_le (Heap.lt_size e) I.ok.above))).trans e1⟩
  ·obtain ⟨o',e1⟩:=I.base.there b o e hx
   exact ⟨o',(hs.2 b (Nat.ne_of_lt (Nat.lt_of_lt_of_le (Heap.lt_size e) I.ok.above))).trans e1⟩
  ·by_cases hj:j=i
   ·subst hj
    rw [hi] at e1; cases e1
    rw [List.getElem?_set_self hiσ] at e2
    cases e2
    exact ⟨u,r,.inl ⟨hk,by simp⟩⟩
   ·rw [List.getElem?_set_ne (Ne.symm hj)] at e2
    obtain ⟨u',r',q⟩:=hl j y v' e1 e2 e3
    refine ⟨u',r',?_⟩
    rcases q with ⟨k,e⟩ | ⟨k,c,e,z⟩
    ·refine .inl ⟨k,?_⟩
     have:y ≠ x:=fun e=>hj (zdO hN e1 (e ▸ hi))
     simp [this,e]
    ·exact .inr ⟨k,c,e,z.sameBut hs (cne y c e)⟩
  ·obtain ⟨w',z⟩:=I.cell y c e
   exact ⟨w',z.sameBut hs (cne y c e)⟩
  ·obtain ⟨e,n,ne,nf,d⟩:=I.pin p hp
   exact ⟨(hs.2 p.1 ne).trans e,n,ne,nf,d⟩
 ·have hfn:X.fn x=true:=by
   rcases hf with z | z
   ·exact z
   ·rw [z] at hk; cases hk
  obtain ⟨c,hc⟩:=I.ok.has x (.inl hk)
  obtain ⟨w',z⟩:=I.cell x c hc
  refine wpAny_storeName_cell I.ok.kind hk hc z (fun h' hc' hs=>?_)
  obtain ⟨oc,hoc,hocd⟩:=id z
  refine h { s with heap:=h' } ⟨I.ok,I.os,I.bare,⟨fun b o e n hb hx=>?_,fun b o e n hb hx=>?_,I.base.free,fun b o e hx=>?_,I.base.tups,I.base.frzs,I.base.tbls⟩,⟨m,hn.sameBut hs (Ne.symm (cne x c hc)),fun j y v' e1 e2 e3=>?_⟩,fun y c' e=>?_,I.free,I.freeC,fun p hp=>?_,tracked ⟨oc,hoc,I.freeC x c hc⟩ hs,by simpa using I.len⟩ ⟨c,hs,.inr hc⟩
  ·exact (hs.2 b (Nat.ne_of_lt (Nat.lt_of_lt_of_le (Heap.lt_size e) (I.ok.cab x c hfn hc)))).trans (I.base.keep b o e n hb hx)
  ·obtain ⟨sl,e1⟩:=I.base.slot b o e n hb hx
   exact ⟨sl,(hs.2 b (Nat.ne_of_lt (Nat.lt_of_lt_of_le (Heap.lt_size e) (I.ok.cab x c hfn hc)))).trans e1⟩
  ·obtain ⟨o',e1⟩:=I.base.there b o e hx
   exact ⟨o',(hs.2 b (Nat.ne_of_lt (Nat.lt_of_lt_of_le (Heap.lt_size e) (I.ok.cab x c hfn hc)))).trans e1⟩
  ·by_cases hj:j=i
   ·subst hj
    rw [hi] at e1; cases e1
    rw [List.getElem?_set_self hiσ] at e2
    cases e2
    exact ⟨u,r,.inr ⟨.inl hk,c,hc,hc'⟩⟩
   ·rw [List.getElem?_set_ne (Ne.symm hj)] at e2
    obtain ⟨u',r',q⟩:=hl j y v' e1 e2 e3
    refine ⟨u',r',?_⟩
    rcases q with q | ⟨k,c',e,z'⟩
    ·exact .inl q
    ·refine .inr ⟨k,c',e,z'.sameBut hs ?_⟩
     rintro rfl
     exact hj (zdO hN e1 (I.ok.inj _ _ _ e hc ▸ hi))
  ·by_cases hcc:c'=c
   ·subst hcc; exact ⟨_,hc'⟩
   ·obtain ⟨w2,z2⟩:=I.cell y c' e
    exact ⟨w2,z2.sameBut hs hcc⟩
  ·obtain ⟨e,n,ne,nf,d⟩:=I.pin p hp
   refine ⟨(hs.2 p.1 ?_).trans e,n,ne,nf,d⟩
   intro q
   rw [q,hoc] at e
   have q':oc=p.2:=Option.some.inj e
   exact d w' (by rw [<- q']; exact hocd)
theorem zcO {M:Model} {A:Around} {E:Value->Shared->Prop} {i:Nat} {x:Str} {v:V} {u:Value} {Q:Unit->Shared->Prop} (I:Inv X pins σ H s) (hN:X.N.Nodup) (hi:X.N[i]?=some x) (hx:Loc X.env.scope x) (r:RelV v u)
  (h:∀ s',Inv X pins (σ.set i (some v)) H s'->Q () s') (hf:autoParam (X.fn x=true\/X.env.scope.names.lookup x=some .local) Internal.aut0._auto_1):wpAny M A (storeName X.env x u) Q E s:=
 ze1 I hN hi hx r (fun s' I' _=>h s' I') hf
theorem Inv.call' {s':Shared} {ch:List Addr} (I:Inv X pins σ H s) (ho:s'.os=s.os) (u:Un (frs X.stack) ch H H' s.heap s'.heap) (hok:HOk X.prog X.w H' s'.heap) (hg:AllBare s'.gens)
  (hch:∀ b ∈ ch,(b ∈ X.ex\/X.s₀.heap.objs.size<=b)/\b ≠ X.env.locals/\(∀ x c,X.env.cells.lookup x=some c->c ≠ b)/\∀ p ∈ X.pn ++ pins,p.1 ≠ b):Inv X pins σ H' s':=by
 obtain ⟨h',g',d',t',o'⟩:=s'
 have e:o'=s.os:=ho
 subst e
 exact I.call (g':=g') (t':=t') (d':=d') u hok hg hch
end
noncomputable abbrev XK:=Value->Option Addr->Hp->Prop
noncomputable abbrev St:=List (Option V)
noncomputable abbrev VK:=V->Hp->Prop
noncomputable abbrev TE:=St->Hp->VK->Prop
noncomputable abbrev TT:=St->Hp->(Bool->Hp->Prop)->Prop
noncomputable abbrev TA:=St->Hp->(List V->Hp->Prop)->Prop
set_option genInjectivity false in
set_option genSizeOf false in
structure Ends where
 nx:St->Hp->Prop
 rt:VK
 bk:St->Hp->Prop:=fun _ _=>False
 ct:St->Hp->Prop:=fun _ _=>False
noncomputable abbrev TS:=Ends->St->Hp->Prop
noncomputable def EP (X:Cx) (pins:List (Addr × Obj)) (σ:St) (Q:VK) (u:Value) (s':Shared):Prop:=∃ v H',Inv X pins σ H' s'/\RelV v u/\Q v H'
noncomputable def TP (X:Cx) (pins:List (Addr × Obj)) (σ:St) (Q:Bool->Hp->Prop) (b:Bool) (s':Shared):Prop:=∃ H',Inv X pins σ H' s'/\Q b H'
noncomputable def AP (X:Cx) (pins:List (Addr × Obj)) (σ:St) (Q:List V->Hp->Prop) (us:List Value) (s':Shared):Prop:=∃ vs H',Inv X pins σ H' s'/\Vals vs us/\Q vs H'
noncomputable def SP (X:Cx) (pins:List (Addr × Obj)) (D:Ends) (f:Flow) (s':Shared):Prop:=
 match f with
 | .next=>∃ σ' H',Inv X pins σ' H' s'/\D.nx σ' H'
 | .brk=>∃ σ' H',Inv X pins σ' H' s'/\D.bk σ' H'
 | .cont=>∃ σ' H',Inv X pins σ' H' s'/\D.ct σ' H'
 | .ret u=>∃ v σ' H',Inv X pins σ' H' s'/\RelV v u/\D.rt v H'
noncomputable def PE (X:Cx) (e:Expr) (t:TE):Prop:=
 ∀ (pins:List (Addr × Obj)) (s:Shared) (σ:St) (H:Hp) (Q:VK),Inv X pins σ H s->t σ H Q->wpAny (model X.prog X.w) X.A (eval e X.env) (EP X pins σ Q) X.xe s
noncomputable def PT (X:Cx) (e:Expr) (t:TT):Prop:=
 ∀ (pins:List (Addr × Obj)) (s:Shared) (σ:St) (H:Hp) (Q:Bool->Hp->Prop),Inv X pins σ H s->t σ H Q->wpAny (model X.prog X.w) X.A (isTrue e X.env (eval e X.env)) (TP X pins σ Q) X.xe s
noncomputable def PW (X:Cx) (e:Expr) (t:TT):Prop:=
 ∀ (whole:Sem Value) (pins:List (Addr × Obj)) (s:Shared) (σ:St) (H:Hp) (Q:Bool->Hp->Prop),Inv X pins σ H s->t σ H Q->wpAny (model X.prog X.w) X.A (isTrue e X.env whole) (TP X pins σ Q) X.xe s
theorem PW.pt {X:Cx} {e:Expr} {t:TT} (h:PW X e t):PT X e t:=h _
noncomputable def PA (X:Cx) (es:List Expr) (t:TA):Prop:=
 ∀ (pos:Pos) (pins:List (Addr × Obj)) (s:Shared) (σ:St) (H:Hp) (Q:List V->Hp->Prop),Inv X pins σ H s->t σ H Q->wpAny (model X.prog X.w) X.A (spliced (backTo pos (starEach es X.env))) (AP X pins σ Q) X.xe s
noncomputable def PS (X:Cx) (st:Stmt) (t:TS):Prop:=
 ∀ (pins:List (Addr × Obj)) (s:Shared) (σ:St) (H:Hp) (D:Ends),Inv X pins σ H s->t D σ H->wpAny (model X.prog X.w) X.A (exec st X.env) (SP X pins D) X.xe s
noncomputable def PSs (X:Cx) (st:List Stmt) (t:TS):Prop:=
 ∀ (pins:List (Addr × Obj)) (s:Shared) (σ:St) (H:Hp) (D:Ends),Inv X pins σ H s->t D σ H->wpAny (model X.prog X.w) X.A (execs st X.env) (SP X pins D) X.xe s
theorem thn {α:Type} {t:Sem α} {Q Q':α->Shared->Prop} {M:Model} {A:Around} {E:Value->Shared->Prop} {s:Shared} (h:wpAny M A t Q E s) (hQ:∀ a s,Q a s->Q' a s):wpAny M A t Q' E s:=wpAny_mono h hQ fun _ _ x=>x
end Internal
namespace Internal
open PySem PySem.Spec PyProof.Rows
section
variable {X:Cx}
noncomputable def zg2 (i:Nat):TE:=fun σ H Q=>∃ v,σ[i]?=some (some v)/\Q v H
noncomputable abbrev tC (v:V):TE:=fun _ H Q=>Q v H
theorem zlE {i:Nat} {x:Str} {pos:Pos} (hN:X.N[i]?=some x) (hv:Vis X.env.scope x) (hd:autoParam ((x == ("__debug__" : Str))=false) Internal.aut1._auto_1) (hcd:autoParam ((x == ("__classdict__" : Str))=false) Internal.aut1._auto_1):PE X (.Name x pos) (zg2 i):=by
 intro pins s σ H Q I h
 obtain ⟨v,e,h⟩:=h
 obtain ⟨m,hn,hl⟩:=I.loc
 obtain ⟨u,r,l⟩:=hl i x v hN e hv
 have fin:EP X pins σ Q u s:=⟨v,H,I,r,h⟩
 rcases l with ⟨hk,hm⟩ | ⟨hk,c,hc,hcell⟩
 ·exact wpAny_Name (wpAny_loadName_local I.ok.kind hk hn hm fin) hd
 ·rcases hk with hk | hk
  ·exact wpAny_Name (wpAny_loadName_cell I.ok.kind hk hc hcell fin) hd
  ·exact wpAny_Name (wpAny_loadName_free I.ok.kind hk hc hcell fin hcd) hd
theorem zb {i j pos}:PE X (.Constant (.int i) j pos) (tC (.int i)):=fun _ _ _ H _ I h=>wpAny_Constant_int ⟨.int i,H,I.tok _,⟨_,rfl⟩,h⟩
theorem zc2 {b j pos}:PE X (.Constant (.bool b) j pos) (tC (.bl b)):=fun _ _ _ H _ I h=>Constant_bool ⟨.bl b,H,I,rfl,h⟩
theorem zhn {j pos}:PE X (.Constant .none j pos) (tC .non):=fun _ _ _ H _ I h=>Constant_none ⟨.non,H,I,rfl,h⟩
theorem zj {x j pos}:PE X (.Constant (.str x) j pos) (tC (.str x)):=fun _ _ _ H _ I h=>Calls.Constant_str ⟨.str x,H,I.tok _,⟨_,rfl⟩,h⟩
noncomputable def Gl (X:Cx) (x:Str):Prop:=X.env.kindOf x=some .globalImplicit
theorem zb7 {E:Value->Shared->Prop} {pins:List (Addr × Obj)} {s:Shared} {σ:St} {H:Hp} {x:Str} {u:Value} {pos:Pos} {Q:Value->Shared->Prop} (I:Inv X pins σ H s) (hg:Gl X x) (hm:X.mg x=some u) (h:Q u s)
  (hd:autoParam ((x == ("__debug__" : Str))=false) Internal.aut1._auto_1):wpAny (model X.prog X.w) X.A (eval (.Name x pos) X.env) Q E s:=
 Calls.Name_function_global I.ok.kind hg (Calls.loadGlobal_global (by rw [I.ok.glob]; exact I.mod.glob.keeps I.bk) hm h) hd
theorem zde {E:Value->Shared->Prop} {pins:List (Addr × Obj)} {s:Shared} {σ:St} {H:Hp} {x:Str} {u:Value} {pos:Pos} {Q:Value->Shared->Prop} (I:Inv X pins σ H s) (hg:Gl X x) (hm:X.mg x=none) (hv:bootBuiltins x=some u) (h:Q u s)
  (hn:autoParam (x ≠ "__name__") Internal.aut1._auto_1) (hd:autoParam ((x == ("__debug__" : Str))=false) Internal.aut1._auto_1):wpAny (model X.prog X.w) X.A (eval (.Name x pos) X.env) Q E s:=by
 obtain ⟨mb,h1,h2⟩:=I.mod.blt
 exact Calls.Name_function_global I.ok.kind hg (Calls.loadGlobal_builtin (by rw [I.ok.glob]; exact I.mod.glob.keeps I.bk) hm (by rw [I.ok.blt]; exact h1.keeps I.bk) ((h2 x hn).trans hv) h) hd
theorem zr {x:Str} {v:V} {u:Value} {pos:Pos} (hg:Gl X x) (hm:X.mg x=some u) (r:RelV v u) (hd:autoParam ((x == ("__debug__" : Str))=false) Internal.aut1._auto_1):PE X (.Name x pos) (tC v):=
 fun _ _ _ H _ I h=>zb7 I hg hm ⟨v,H,I,r,h⟩ hd
theorem zgl {x:Str} {v:V} {u:Value} {pos:Pos} (hg:Gl X x) (hm:X.mg x=none) (hv:bootBuiltins x=some u) (r:RelV v u) (hn:autoParam (x ≠ "__name__") Internal.aut1._auto_1) (hd:autoParam ((x == ("__debug__" : Str))=false) Internal.aut1._auto_1):PE X (.Name x pos) (tC v):=
 fun _ _ _ H _ I h=>zde I hg hm hv ⟨v,H,I,r,h⟩ hn hd
noncomputable def t2I (ta tb:TE) (k:Int->Int->Hp->Prop):St->Hp->Prop:=fun σ H=>ta σ H fun x H1=>tb σ H1 fun y H2=>∃ i j,x=.int i/\y=.int j/\k i j H2
variable {a b:Expr} {ta tb:TE} {pos:Pos}
noncomputable def PC (X:Cx) (op:CmpOp) (a b:Expr) (t:TE):Prop:=
 ∀ (pins:List (Addr × Obj)) (s:Shared) (σ:St) (H:Hp) (Q:VK),Inv X pins σ H s->t σ H Q ->
  wpAny (model X.prog X.w) X.A (eval a X.env) (fun v s₁=>wpAny (model X.prog X.w) X.A (eval b X.env) (fun u s₂=>wpAny (model X.prog X.w) X.A (compareOp op v u) (EP X pins σ Q) X.xe s₂) X.xe s₁) X.xe s
noncomputable def zeO (p:Int->Int->Bool) (ta tb:TE):TE:=fun σ H Q=>t2I ta tb (fun i j H2=>Q (.bl (p i j)) H2) σ H
noncomputable abbrev tLt:TE->TE->TE:=zeO fun i j=>decide (i < j)
noncomputable abbrev tLe:TE->TE->TE:=zeO fun i j=>decide (i<=j)
noncomputable abbrev tGt:TE->TE->TE:=zeO fun i j=>decide (j < i)
noncomputable abbrev tGe:TE->TE->TE:=zeO fun i j=>decide (j<=i)
noncomputable abbrev zmZ:TE->TE->TE:=zeO fun i j=>decide (i=j)
noncomputable abbrev zm1:TE->TE->TE:=zeO fun i j=>!decide (i=j)
noncomputable def tB (t:TE):TT:=fun σ H Q=>t σ H fun x H1=>∃ c,x=.bl c/\Q c H1
theorem zlx {op:CmpOp} {t:TE} (h:PC X op a b t) (h1:behindInMarks op b=false:=by first | exact nobehind _ (by decide) (by decide) | rfl):PT X (.Compare a [op] [b] pos) (tB t):=by
 intro pins s σ H Q I hw
 refine wpAny_isTrue_Compare1 (thn (h pins s σ H _ I hw) fun v s1 h1=>thn h1 fun u s2 h2=>thn h2 fun c s3 zz=>?_) h1
 obtain ⟨x,H1,I1,r1,q1⟩:=zz
 obtain ⟨d,rfl,q⟩:=q1
 cases r1
 exact wpAny_truthy_bool ⟨H1,I1,q⟩
variable {tA tB':TT} {rest:List Expr}
noncomputable abbrev zmR (t u:TT):TT:=fun σ H Q=>t σ H fun c H1=>if c=true then u σ H1 Q else Q false H1
noncomputable abbrev tOr (t u:TT):TT:=fun σ H Q=>t σ H fun c H1=>if c=true then Q true H1 else u σ H1 Q
noncomputable abbrev zmF (t:TT):TT:=fun σ H Q=>t σ H fun c H1=>Q (!c) H1
theorem zaR (ha:PT X a tA):PW X (.BoolOp .And [a] pos) tA:=by
 intro wh pins s σ H Q I h
 refine isTrue_and (thn (ha pins s σ H Q I h) fun c s1 e=>?_)
 cases c with
 | true=>exact isTrue_and_nil e
 | false=>exact e
theorem zaD (ha:PT X a tA):PW X (.BoolOp .Or [a] pos) tA:=by
 intro wh pins s σ H Q I h
 refine isTrue_or (thn (ha pins s σ H Q I h) fun c s1 e=>?_)
 cases c with
 | false=>exact isTrue_or_nil e
 | true=>exact e
theorem zbk (ha:PT X a tA) (hb:PW X (.BoolOp .And (b :: rest) pos) tB'):PW X (.BoolOp .And (a :: b :: rest) pos) (zmR tA tB'):=by
 intro wh pins s σ H Q I h
 refine isTrue_and (thn (ha pins s σ H _ I h) fun c s1 ⟨H1,I1,q1⟩=>?_)
 cases c with
 | true=>exact hb wh pins s1 σ H1 Q I1 q1
 | false=>exact ⟨H1,I1,q1⟩
theorem zac (ha:PT X a tA) (hb:PW X (.BoolOp .Or (b :: rest) pos) tB'):PW X (.BoolOp .Or (a :: b :: rest) pos) (tOr tA tB'):=by
 intro wh pins s σ H Q I h
 refine isTrue_or (thn (ha pins s σ H _ I h) fun c s1 ⟨H1,I1,q1⟩=>?_)
 cases c with
 | true=>exact ⟨H1,I1,q1⟩
 | false=>exact hb wh pins s1 σ H1 Q I1 q1
theorem zd9 (ha:PT X a tA):PT X (.UnaryOp .Not a pos) (zmF tA):=by
 intro pins s σ H Q I h
 exact isTrue_not (ha pins s σ H (fun c H1=>Q (!c) H1) I h)
noncomputable def zjA (ta tb:TE):TE:=fun σ H Q=>ta σ H fun x H1=>∃ c,x=.bl c/\if c=true then tb σ H1 Q else Q (.bl false) H1
noncomputable def zk5 (ta tb:TE):TE:=fun σ H Q=>ta σ H fun x H1=>∃ c,x=.bl c/\if c=true then Q (.bl true) H1 else tb σ H1 Q
theorem zht {op} {t:TE} (h:PE X a t):PE X (.BoolOp op [a] pos) t:=fun pins s σ H Q I hw=>BoolOp_one (h pins s σ H Q I hw)
theorem zlb (ha:PE X a ta) (hb:PE X (.BoolOp .And (b :: rest) pos) tb):PE X (.BoolOp .And (a :: b :: rest) pos) (zjA ta tb):=by
 intro pins s σ H Q I h
 refine BoolOp_and (thn (ha pins s σ H _ I h) fun v s1 zz=>?_)
 obtain ⟨x,H1,I1,r1,q1⟩:=zz
 obtain ⟨c,rfl,q1⟩:=q1
 cases r1
 refine wpAny_truthy_bool ?_
 cases c with
 | true=>exact hb pins s1 σ H1 Q I1 q1
 | false=>exact ⟨.bl false,H1,I1,rfl,q1⟩
theorem zmc (ha:PE X a ta) (hb:PE X (.BoolOp .Or (b :: rest) pos) tb):PE X (.BoolOp .Or (a :: b :: rest) pos) (zk5 ta tb):=by
 intro pins s σ H Q I h
 refine BoolOp_or (thn (ha pins s σ H _ I h) fun v s1 zz=>?_)
 obtain ⟨x,H1,I1,r1,q1⟩:=zz
 obtain ⟨c,rfl,q1⟩:=q1
 cases r1
 refine wpAny_truthy_bool ?_
 cases c with
 | false=>exact hb pins s1 σ H1 Q I1 q1
 | true=>exact ⟨.bl true,H1,I1,rfl,q1⟩
noncomputable abbrev tIf (t:TT) (ta tb:TE):TE:=fun σ H Q=>t σ H fun c H1=>if c=true then ta σ H1 Q else tb σ H1 Q
end
end Internal
namespace Internal
open PySem PySem.Spec PyProof.Rows
noncomputable def SqL (K:PySem.W.Frag) (H:Hp) (a:Addr) (xs:List V):Prop:=
 Rd H a (.lst xs) \/
  ∃ (o:Obj) (its:Array Value) (n:Nat),K.lookup a=some o/\o.cls=.type "list" /\ o.dict=none/\o.data=.seq its n/\its.size<=sizeLine/\Vals xs its.toList
noncomputable def SqT (K:PySem.W.Frag) (H:Hp) (a:Addr) (xs:List V):Prop:=
 Rd H a (.tup xs) \/
  ∃ (o:Obj) (its:Array Value) (n:Nat),K.lookup a=some o/\o.cls=.type "tuple" /\ o.data=.seq its n/\its.size<=sizeLine/\Vals xs its.toList
noncomputable def zmM:Value->Option V
 | .none=>some .non
 | .bool b=>some (.bl b)
 | .int i _=>some (.int i)
 | .str x _=>some (.str x)
 | .bytes b _=>some (.byt b)
 | .float b _=>some (.flt b)
 | .ref a=>some (.ref a)
 | .type n=>some (.ty n)
 | _=>none
theorem RelV.abs {x:V} {u:Value} (r:RelV x u):zmM u=some x:=by
 cases x with
 | non=>cases r; rfl
 | bl _=>cases r; rfl
 | int _=>obtain ⟨t,rfl⟩:=r; rfl
 | str _=>obtain ⟨t,rfl⟩:=r; rfl
 | byt _=>obtain ⟨t,rfl⟩:=r; rfl
 | flt _=>obtain ⟨t,rfl⟩:=r; rfl
 | ref _=>cases r; rfl
 | ty _=>cases r; rfl
theorem RelV.inj {x y:V} {u:Value} (r:RelV x u) (q:RelV y u):x=y:=Option.some.inj (r.abs.symm.trans q.abs)
theorem Vals.inj:∀ {xs ys:List V} {us:List Value},Vals xs us->Vals ys us->xs=ys
 | _,_,_,.nil,.nil=>rfl
 | _,_,_,.cons r t,.cons r' t'=>by rw [r.inj r',Vals.inj t t']
section
variable {X:Cx} {pins:List (Addr × Obj)} {σ:St} {H:Hp} {s:Shared} {a:Addr} {xs ys:List V}
theorem SqL.of {K:PySem.W.Frag} (h:H a=some (.lst xs)):SqL K H a xs:=.inl (.inl h)
theorem SqT.of {K:PySem.W.Frag} (h:H a=some (.tup xs)):SqT K H a xs:=.inl (.inl h)
theorem Inv.list (I:Inv X pins σ H s) (h:SqL X.K H a xs):∃ its:List Value,Vals xs its/\PlainL s.heap a its.toArray/\xs.length<=sizeLine:=by
 rcases h with h | ⟨o,its,n,hk,hc,hd,hs,hz,r⟩
 ·obtain ⟨z,its,n,r,e⟩:=h.ok I.hok
  exact ⟨its,r,⟨_,n,e,rfl,rfl,rfl⟩,z⟩
 ·refine ⟨its.toList,r,⟨o,n,I.kIn a o hk,hc,hd,by simpa using hs⟩,?_⟩
  have e:=r.length
  simp only [Array.length_toList] at e
  omega
theorem Inv.tuple (I:Inv X pins σ H s) (h:SqT X.K H a xs):∃ its:List Value,Vals xs its/\IsTup s.heap a its.toArray/\xs.length<=sizeLine:=by
 rcases h with h | ⟨o,its,n,hk,hc,hs,hz,r⟩
 ·obtain ⟨z,its,r,p⟩:=h.ok I.hok
  exact ⟨its,r,p,z⟩
 ·refine ⟨its.toList,r,⟨o,I.kIn a o hk,hc,n,by simpa using hs⟩,?_⟩
  have e:=r.length
  simp only [Array.length_toList] at e
  omega
theorem Inv.list_inj (I:Inv X pins σ H s) (h:SqL X.K H a xs) (h':SqL X.K H a ys):xs=ys:=by
 obtain ⟨its,r,⟨o,n,e,_,_,d⟩,_⟩:=I.list h
 obtain ⟨its',r',⟨o',n',e',_,_,d'⟩,_⟩:=I.list h'
 rw [e] at e'; cases e'
 rw [d] at d'
 injection d' with d1 _
 have:its=its':=by simpa using congrArg Array.toList d1
 subst this
 exact r.inj r'
theorem Inv.tuple_inj (I:Inv X pins σ H s) (h:SqT X.K H a xs) (h':SqT X.K H a ys):xs=ys:=by
 obtain ⟨its,r,⟨o,e,_,n,d⟩,_⟩:=I.tuple h
 obtain ⟨its',r',⟨o',e',_,n',d'⟩,_⟩:=I.tuple h'
 rw [e] at e'; cases e'
 rw [d] at d'
 injection d' with d1 _
 have:its=its':=by simpa using congrArg Array.toList d1
 subst this
 exact r.inj r'
end
noncomputable abbrev Cx.wish (X:Cx) (E:Value->Shared->Prop):Cx:={ X with xe:=E }
noncomputable abbrev Cx.nox (X:Cx):Cx:=X.wish fun _ _=>False
theorem Cx.Ok.wish {X:Cx} (ok:X.Ok) (E:Value->Shared->Prop):(X.wish E).Ok:=
 ⟨ok.mod,ok.kind,ok.glob,ok.blt,ok.above,ok.inj,ok.has,ok.cab,ok.hd,ok.frames,ok.stk,ok.exf,ok.bs,ok.bsz,ok.noex,ok.exfs,ok.funs,ok.frf⟩
theorem Cx.Ok.unwish {X:Cx} {E:Value->Shared->Prop} (ok:(X.wish E).Ok):X.Ok:=
 ⟨ok.mod,ok.kind,ok.glob,ok.blt,ok.above,ok.inj,ok.has,ok.cab,ok.hd,ok.frames,ok.stk,ok.exf,ok.bs,ok.bsz,ok.noex,ok.exfs,ok.funs,ok.frf⟩
section
variable {X:Cx} {pins:List (Addr × Obj)} {σ:St} {H:Hp} {s:Shared} {E:Value->Shared->Prop}
theorem Inv.wish (I:Inv X pins σ H s) (E:Value->Shared->Prop):Inv (X.wish E) pins σ H s:=⟨I.ok.wish E,I.os,I.bare,I.base,I.loc,I.cell,I.free,I.freeC,I.pin,I.hok,I.len⟩
theorem Inv.unwish (I:Inv (X.wish E) pins σ H s):Inv X pins σ H s:=⟨I.ok.unwish,I.os,I.bare,I.base,I.loc,I.cell,I.free,I.freeC,I.pin,I.hok,I.len⟩
theorem SP.unwish {D:Ends} {f:Flow} {s':Shared} (h:SP (X.wish E) pins D f s'):SP X pins D f s':=by
 cases f with
 | next=>obtain ⟨σ',H',I,q⟩:=h; exact ⟨σ',H',I.unwish,q⟩
 | brk=>obtain ⟨σ',H',I,q⟩:=h; exact ⟨σ',H',I.unwish,q⟩
 | cont=>obtain ⟨σ',H',I,q⟩:=h; exact ⟨σ',H',I.unwish,q⟩
 | ret u=>obtain ⟨v,σ',H',I,r,q⟩:=h; exact ⟨v,σ',H',I.unwish,r,q⟩
theorem PSs.nox {st:List Stmt} {t:TS} (h:PSs X.nox st t):PSs X st t:=fun pins s σ H D I hw=>
 wpAny_mono (h pins s σ H D (I.wish _) hw) (fun _ _ q=>q.unwish) fun _ _ z=>False.elim z
end
section
variable {X:Cx} {st:Stmt} {rest:List Stmt} {t u:TS} {e:Expr} {te:TE} {pos:Pos}
noncomputable abbrev zmm:TS:=fun D σ H=>D.nx σ H
noncomputable abbrev zmG (t u:TS):TS:=fun D σ H=>t { D with nx:=u D } σ H
theorem zk:PSs X [] zmm:=fun _ _ σ H _ I h=>wpAny_execs_nil ⟨σ,H,I,h⟩
theorem ze (h1:PS X st t) (h2:PSs X rest u):PSs X (st :: rest) (zmG t u):=by
 intro pins s σ H D I h
 refine wpAny_execs_cons (thn (h1 pins s σ H { D with nx:=u D } I h) fun f s1 q=>?_)
 cases f with
 | next=>
  obtain ⟨σ',H',I',q⟩:=q
  exact h2 pins s1 σ' H' D I' q
 | ret v=>exact q
 | brk=>exact q
 | cont=>exact q
theorem zf (h1:PS X st t):PSs X [st] t:=by
 intro pins s σ H D I h
 refine wpAny_execs_cons (thn (h1 pins s σ H D I h) fun f s1 q=>?_)
 cases f with
 | next=>exact wpAny_execs_nil q
 | ret v=>exact q
 | brk=>exact q
 | cont=>exact q
noncomputable abbrev zmV:TS:=fun D σ H=>D.bk σ H
noncomputable abbrev zmX:TS:=fun D σ H=>D.ct σ H
theorem Inv.quiet {pins:List (Addr × Obj)} {σ:St} {H:Hp} {s:Shared} (I:Inv X pins σ H s):interactive X.env=false:=by simp [interactive,I.ok.kind]
noncomputable abbrev zl9 (te:TE):TS:=fun D σ H=>te σ H fun _ H1=>D.nx σ H1
theorem zS (he:PE X e te) (hs:autoParam (swapsWith e none pos.line X.env=pure false) Internal.aut2._auto_1):PS X (.Expr e pos) (zl9 te):=by
 intro pins s σ H D I h
 exact wpAny_Expr_any (thn (he pins s σ H _ I h) fun v s1 ⟨x,H1,I1,r1,q1⟩=>⟨σ,H1,I1,q1⟩) I.quiet hs
noncomputable abbrev zmE (te:TE):TS:=fun D σ H=>te σ H D.rt
theorem zn (he:PE X e te):PS X (.Return (some e) pos) (zmE te):=by
 intro pins s σ H D I h
 exact wpAny_Return_some (thn (he pins s σ H _ I h) fun v s1 ⟨x,H1,I1,r1,q1⟩=>⟨x,σ,H1,I1,r1,q1⟩)
noncomputable abbrev zmY:TS:=fun D _ H=>D.rt .non H
noncomputable abbrev zmB (c:TT) (t u:TS):TS:=fun D σ H=>c σ H fun b H1=>if b=true then t D σ H1 else u D σ H1
theorem zq {c:Expr} {a b:List Stmt} {tc:TT} (hc:PT X c tc) (ha:PSs X a t) (hb:PSs X b u):PS X (.If c a b pos) (zmB tc t u):=by
 intro pins s σ H D I h
 refine wpAny_If (thn (hc pins s σ H _ I h) fun d s1 ⟨H1,I1,q1⟩=>?_)
 cases d with
 | true=>exact ha pins s1 σ H1 D I1 q1
 | false=>exact hb pins s1 σ H1 D I1 q1
end
noncomputable abbrev TG:=V->St->Hp->(St->Hp->Prop)->Prop
noncomputable abbrev TGs:=List V->St->Hp->(St->Hp->Prop)->Prop
noncomputable def PG (X:Cx) (target:Expr) (t:TG):Prop:=
 ∀ (pins:List (Addr × Obj)) (s:Shared) (σ:St) (H:Hp) (v:V) (u:Value) (Q:St->Hp->Prop),Inv X pins σ H s->RelV v u->t v σ H Q ->
  wpAny (model X.prog X.w) X.A (assign target X.env u) (fun _ s'=>∃ σ' H',Inv X pins σ' H' s'/\Q σ' H') X.xe s
noncomputable def PGs (X:Cx) (ts:List Expr) (t:TGs):Prop:=
 ∀ (pins:List (Addr × Obj)) (s:Shared) (σ:St) (H:Hp) (vs:List V) (us:List Value) (Q:St->Hp->Prop),Inv X pins σ H s->Vals vs us->t vs σ H Q ->
  wpAny (model X.prog X.w) X.A (assignInOrder ((assignEach ts X.env).map (·.2)) us) (fun _ s'=>∃ σ' H',Inv X pins σ' H' s'/\Q σ' H') X.xe s
noncomputable abbrev zeS:=V->V->V->Hp->(Hp->Prop)->Prop
noncomputable def zja (X:Cx) (t:zeS):Prop:=
 ∀ (pins:List (Addr × Obj)) (s:Shared) (σ:St) (H:Hp) (o i v:V) (ov iv u:Value) (Q:Hp->Prop),Inv X pins σ H s->RelV o ov->RelV i iv->RelV v u->t o i v H Q ->
  wpAny (model X.prog X.w) X.A (setItem ov iv u) (fun _ s'=>∃ H',Inv X pins σ H' s'/\Q H') X.xe s
noncomputable abbrev TIp:=V->V->Hp->VK->Prop
noncomputable def PIp (X:Cx) (op:Operator) (t:TIp):Prop:=
 ∀ (pins:List (Addr × Obj)) (s:Shared) (σ:St) (H:Hp) (x y:V) (v u:Value) (Q:VK),Inv X pins σ H s->RelV x v->RelV y u->t x y H Q ->
  wpAny (model X.prog X.w) X.A (inplaceOp op v u) (EP X pins σ Q) X.xe s
section
variable {X:Cx} {pos:Pos}
noncomputable abbrev zc3 (i:Nat):TG:=fun v σ H Q=>Q (σ.set i (some v)) H
theorem z4 {i:Nat} {x:Str} (hN:X.N.Nodup) (hi:X.N[i]?=some x) (hx:Loc X.env.scope x) (hf:autoParam (X.fn x=true\/X.env.scope.names.lookup x=some .local) Internal.aut0._auto_1):PG X (.Name x pos) (zc3 i):=by
 intro pins s σ H v u Q I r h
 exact wpAny_assign_Name (zcO I hN hi hx r (fun s' I'=>⟨_,H,I',h⟩) hf)
noncomputable def zlr:TGs:=fun vs σ H Q=>vs=[]/\Q σ H
noncomputable def zjz (t:TG) (u:TGs):TGs:=fun vs σ H Q=>∃ v r,vs=v :: r/\t v σ H fun σ' H'=>u r σ' H' Q
theorem zdu:PGs X [] zlr:=by
 intro pins s σ H vs us Q I r h
 obtain ⟨e,h⟩:=h
 subst e
 cases r
 exact assignInOrder_nil ⟨σ,H,I,h⟩
theorem zbz {e:Expr} {es:List Expr} {t:TG} {u:TGs} (h1:PG X e t) (h2:PGs X es u)
  (hs:autoParam ((assignEach (e :: es) X.env).map (·.2)=assign e X.env :: (assignEach es X.env).map (·.2)) Internal.aut2._auto_1):PGs X (e :: es) (zjz t u):=by
 intro pins s σ H vs us Q I r h
 obtain ⟨v,vr,e1,h⟩:=h
 subst e1
 cases r with
 | cons r rr=>
  rw [hs]
  refine assignInOrder_cons (thn (h1 pins s σ H _ _ _ I r h) fun _ s1 zz=>?_)
  obtain ⟨σ1,H1,I1,q1⟩:=zz
  exact h2 pins s1 σ1 H1 _ _ Q I1 rr q1
noncomputable def zd2 (K:PySem.W.Frag) (n:Nat) (t:TGs):TG:=fun v σ H Q=>∃ a xs,v=.ref a/\SqT K H a xs/\xs.length=n/\t xs σ H Q
theorem zee {es:List Expr} {k:Nat} {t:TGs} {n:Nat} (hc:X.calm=true) (h:PGs X es t)
  (hn:autoParam ((assignEach es X.env).length=n) Internal.aut2._auto_1) (hst:autoParam ((assignEach es X.env).findIdx? (·.1)=none) Internal.aut2._auto_1):PG X (.Tuple es k pos) (zd2 X.K n t):=by
 intro pins s σ H v u Q I r hw
 obtain ⟨a,xs,e1,hq,hl,hw⟩:=hw
 subst e1
 cases r
 obtain ⟨its,rv,ht,hz⟩:=I.tuple hq
 refine assign_Tuple_tuple (I.ok.hd hc) ht (by simp [hn,<- hl,rv.length]) hst fun h' hx=>?_
 have I1:Inv X pins σ H { s with heap:=h' }:=I.kept (t':=s.toks) fun b o e=>hx b o (Nat.ne_of_lt (Heap.lt_size e)) e
 exact h pins _ σ H xs _ Q I1 (by simpa using rv) hw
noncomputable abbrev zmO (to ti:TE) (t:zeS):TG:=fun v σ H Q=>to σ H fun o H1=>ti σ H1 fun i H2=>t o i v H2 fun H3=>Q σ H3
theorem zce {o i:Expr} {to ti:TE} {t:zeS} (ho:PE X o to) (hi:PE X i ti) (hs:zja X t)
  (ha:autoParam (∀ v,assign (.Subscript o i pos) X.env v=(do
   let ov <- holding [v] (eval o X.env)
   let iv <- holding [v,ov] (eval i X.env)
   standAt pos
   holding [v,ov,iv] (setItem ov iv v)
   release [v,ov,iv] [])) Internal.aut3._auto_1):PG X (.Subscript o i pos) (zmO to ti t):=by
 intro pins s σ H v u Q I r h
 rw [ha]
 refine wpAny_bind (wpAny_holding (thn (ho pins s σ H _ I h) fun ov s1 zz=>?_))
 obtain ⟨x,H1,I1,r1,q1⟩:=zz
 refine wpAny_bind (wpAny_holding (thn (hi pins s1 σ H1 _ I1 q1) fun iv s2 zz=>?_))
 obtain ⟨y,H2,I2,r2,q2⟩:=zz
 refine wpAny_bind (wpAny_standAt (wpAny_bind (wpAny_holding (thn (hs pins s2 σ H2 x y v ov iv u _ I2 r1 r2 r q2) fun _ s3 ⟨H3,I3,q3⟩=>?_))))
 exact wpAny_release ⟨σ,H3,I3,q3⟩
noncomputable abbrev ziN (te:TE) (g:TG):TS:=fun D σ H=>te σ H fun x H1=>g x σ H1 D.nx
theorem zcg {tg e:Expr} {te:TE} {g:TG} (he:PE X e te) (hg:PG X tg g) (hs:autoParam (swapsWithSole [tg] e pos.line X.env=pure false) Internal.aut2._auto_1) (hw:autoParam (swappedStores [tg] e X.env=pure none) Internal.aut2._auto_1)
  (h1:autoParam ((assignEach [tg] X.env).map (·.2)=[assign tg X.env]) Internal.aut2._auto_1):PS X (.Assign [tg] e pos) (ziN te g):=by
 intro pins s σ H D I h
 refine wpAny_Assign_stores (thn (he pins s σ H _ I h) fun v s1 zz=>?_) hs hw
 obtain ⟨x,H1,I1,r1,q1⟩:=zz
 rw [h1]
 exact thn (hg pins s1 σ H1 x v _ I1 r1 q1) fun _ s2 q=>q
theorem zL {i:Nat} {x:Str} {e:Expr} {te:TE} {pos':Pos} (hN:X.N.Nodup) (hi:X.N[i]?=some x) (hx:Loc X.env.scope x) (he:PE X e te) (hs:autoParam (swapsWith e (some (.Name x pos')) pos.line X.env=pure false) Internal.aut2._auto_1) (hf:autoParam (X.fn x=true\/X.env.scope.names.lookup x=some .local) Internal.aut0._auto_1) :
  PS X (.Assign [.Name x pos'] e pos) (ziN te (zc3 i)):=by
 intro pins s σ H D I h
 refine wpAny_Assign_Name (thn (he pins s σ H _ I h) fun v s1 zz=>?_) hs
 obtain ⟨y,H1,I1,r1,q1⟩:=zz
 exact zcO I1 hN hi hx r1 (fun s2 I2=>⟨_,H1,I2,q1⟩) hf
noncomputable def zjk (to ti te:TE) (tget:V->V->Hp->VK->Prop) (tip:TIp) (tset:zeS):TS:=fun D σ H=>to σ H fun o H1=>ti σ H1 fun i H2=>tget o i H2 fun x H3=>te σ H3 fun y H4=>tip x y H4 fun z H5=>tset o i z H5 fun H6=>D.nx σ H6
noncomputable def zgR (X:Cx) (t:V->V->Hp->VK->Prop):Prop:=
 ∀ (pins:List (Addr × Obj)) (s:Shared) (σ:St) (H:Hp) (o i:V) (ov iv:Value) (Q:VK),Inv X pins σ H s->RelV o ov->RelV i iv->t o i H Q ->
  wpAny (model X.prog X.w) X.A (getItem ov iv) (EP X pins σ Q) X.xe s
theorem zgx {o i e:Expr} {to ti te:TE} {tget:V->V->Hp->VK->Prop} {tip:TIp} {tset:zeS} {op:Operator} {tpos:Pos} (ho:PE X o to) (hi:PE X i ti) (hg:zgR X tget) (he:PE X e te) (hp:PIp X op tip) (hs:zja X tset)
  (ha:autoParam (∀ ov iv new,augStore i ov iv new=(do holding [new,ov,iv] (setItem ov iv new); release [new,ov,iv] []; pure .next)) Internal.aut4._auto_1):PS X (.AugAssign (.Subscript o i tpos) op e pos) (zjk to ti te tget tip tset):=by
 intro pins s σ H D I h
 refine wpAny_AugAssign_SubscriptAny (thn (ho pins s σ H _ I h) fun ov s1 zz=>?_) ha
 obtain ⟨x1,H1,I1,r1,q1⟩:=zz
 refine thn (hi pins s1 σ H1 _ I1 q1) fun iv s2 zz=>?_
 obtain ⟨x2,H2,I2,r2,q2⟩:=zz
 refine thn (hg pins s2 σ H2 x1 x2 ov iv _ I2 r1 r2 q2) fun old s3 zz=>?_
 obtain ⟨x3,H3,I3,r3,q3⟩:=zz
 refine thn (he pins s3 σ H3 _ I3 q3) fun v s4 zz=>?_
 obtain ⟨x4,H4,I4,r4,q4⟩:=zz
 refine thn (hp pins s4 σ H4 x3 x4 old v _ I4 r3 r4 q4) fun new s5 zz=>?_
 obtain ⟨x5,H5,I5,r5,q5⟩:=zz
 exact thn (hs pins s5 σ H5 x1 x2 x5 ov iv new _ I5 r1 r2 r5 q5) fun _ s6 ⟨H6,I6,q6⟩=>⟨σ,H6,I6,q6⟩
noncomputable def ipI (f:Int->Int->Int):TIp:=fun x y H Q=>∃ i j,x=.int i/\y=.int j/\Q (.int (f i j)) H
theorem zlo:PIp X .Add (ipI fun i j=>i + j):=by
 intro pins s σ H x y v u Q I r1 r2 h
 obtain ⟨i,j,e1,e2,q⟩:=h
 subst e1; subst e2
 obtain ⟨t,rfl⟩:=r1
 obtain ⟨t',rfl⟩:=r2
 exact iadd_int ⟨.int _,H,I.tok _,⟨_,rfl⟩,q⟩
theorem zk3:PIp X .Sub (ipI fun i j=>i - j):=by
 intro pins s σ H x y v u Q I r1 r2 h
 obtain ⟨i,j,e1,e2,q⟩:=h
 subst e1; subst e2
 obtain ⟨t,rfl⟩:=r1
 obtain ⟨t',rfl⟩:=r2
 exact isub_int ⟨.int _,H,I.tok _,⟨_,rfl⟩,q⟩
end
section
variable {X:Cx} {pos:Pos}
end
set_option genInjectivity false in
set_option genSizeOf false in
structure It where
 go:Nat->Hp->Prop
 yld:Nat->Hp->V->Hp->Prop
 stop:Nat->Hp->Prop
noncomputable def zbX (X:Cx) (pins:List (Addr × Obj)) (H:Hp) (b:Addr):Prop:=
 H b=none/\b ≠ X.env.locals/\b ∉ X.fs/\(b ∈ X.ex\/X.s₀.heap.objs.size<=b)/\(∀ x c,X.env.cells.lookup x=some c->c ≠ b)/\∀ p ∈ X.pn ++ pins,p.1 ≠ b
theorem Inv.fpOk {X:Cx} {pins:List (Addr × Obj)} {σ:St} {H H':Hp} {s:Shared} {b:Addr} (I:Inv X pins σ H s) (hb:s.heap.objs.size<=b) (hn:H' b=none):zbX X pins H' b:=by
 refine ⟨hn,Nat.ne_of_gt (Nat.lt_of_lt_of_le I.lt hb),I.nofs hb,.inr (Nat.le_trans I.sz hb),fun x c e z=>?_,fun p hp z=>?_⟩
 ·obtain ⟨v,q⟩:=I.cell x c e
  exact absurd (Nat.lt_of_lt_of_le q.lt (by rw [z]; exact hb)) (Nat.lt_irrefl _)
 ·exact absurd (Nat.lt_of_lt_of_le (Heap.lt_size (I.pin p hp).1) (by rw [z]; exact hb)) (Nat.lt_irrefl _)
set_option genInjectivity false in
set_option genSizeOf false in
structure Turn (P:Program) (w:World) (K:PySem.W.Frag) (tg:Expr) (J:It) (fp:List Addr) (it:Addr) (tn:Nat->Heap->Prop):Prop where
 mem:it ∈ fp
 obj:∀ i h,tn i h->∀ b ∈ fp,∃ o,h.get? b=some o/\∀ v,o.data ≠ .cell v
 keep:∀ i h h',tn i h->(∀ b ∈ fp,∀ o,h.get? b=some o->h'.get? b=some o)->tn i h'
 item:∀ (X:Cx),X.prog=P->X.w=w->X.K=K->X.calm=true->∀ (i:Nat) (pins:List (Addr × Obj)) (s:Shared) (σ:St) (H:Hp) (E:Value->Shared->Prop),Inv X pins σ H s->(∀ b ∈ fp,zbX X pins H b)->tn i s.heap->J.go i H ->
  wpAny (model P w) X.A (pyNext (.ref it)) (fun r s1=>∃ u,r=some u /\
   wpAny (model P w) X.A (letOwnedTupleGo tg (.ref it) u) (fun _ s2=>∃ x H',Inv X pins σ H' s2/\RelV x u/\J.yld i H x H'/\tn (i + 1) s2.heap/\∀ b ∈ fp,H' b=none) E s1) E s
 done:∀ (X:Cx),X.prog=P->X.w=w->X.K=K->X.calm=true->∀ (i:Nat) (pins:List (Addr × Obj)) (s:Shared) (σ:St) (H:Hp) (E:Value->Shared->Prop),Inv X pins σ H s->(∀ b ∈ fp,zbX X pins H b)->tn i s.heap->J.stop i H ->
  wpAny (model P w) X.A (pyNext (.ref it)) (fun r s1=>r=none/\Inv X pins σ H s1) E s
 self:∀ (A:Around) (i:Nat) (s:Shared) (Q:Value->Shared->Prop) (E:Value->Shared->Prop),tn i s.heap->Q (.ref it) s->wpAny (model P w) A (pyIter (.ref it)) Q E s
noncomputable abbrev TI:=St->Hp->(It->Hp->Prop)->Prop
noncomputable def PIE (X:Cx) (pins:List (Addr × Obj)) (σ:St) (tg:Expr) (R:It->Hp->Prop) (itv:Value) (s2:Shared):Prop:=
 ∃ (it:Addr) (fp:List Addr) (tn:Nat->Heap->Prop) (J:It) (H':Hp),itv=.ref it/\Inv X pins σ H' s2/\Turn X.prog X.w X.K tg J fp it tn/\tn 0 s2.heap/\(∀ b ∈ fp,zbX X pins H' b)/\R J H'
noncomputable def PI (X:Cx) (tg iter:Expr) (wi:TI):Prop:=
 ∀ (pins:List (Addr × Obj)) (s:Shared) (σ:St) (H:Hp) (R:It->Hp->Prop),Inv X pins σ H s->wi σ H R ->
  wpAny (model X.prog X.w) X.A (eval iter X.env) (fun v s1=>wpAny (model X.prog X.w) X.A (pyIter v) (PIE X pins σ tg R) X.xe s1) X.xe s
theorem zfx {M:Model} {A:Around} {E:Value->Shared->Prop} {s:Shared} {tg:Expr} {it:Addr} {u:Value} {o:Obj} {n:String} {vs:Array Value} {Q:Unit->Shared->Prop} (ho:s.heap.get? it=some o) (hc:o.cls=.type n) (hd:o.data=.fields vs)
  (hn:["enumerate", "zip", "dict_itemiterator", "dict_reverseitemiterator", "odict_iterator", "itertools.zip_longest", "itertools.pairwise"].contains n=false) (hQ:Q () s):wpAny M A (letOwnedTupleGo tg (.ref it) u) Q E s:=by
 unfold letOwnedTupleGo
 cases tg <;> first
  | exact wpAny_pure hQ
  | (cases u <;> first
    | exact wpAny_pure hQ
    | (refine wpAny_bind (wpAny_load ho ?_)
       rw [hc,hd]
       show wpAny M A (if (["enumerate", "zip", "dict_itemiterator", "dict_reverseitemiterator", "odict_iterator", "itertools.zip_longest", "itertools.pairwise"].contains n && vs[0]? == some (rawInt _))=true then _ else _) Q E s
       rw [if_neg (by intro h; rw [hn,Bool.false_and] at h; cases h)]
       exact wpAny_pure hQ))
noncomputable def Itl (K:PySem.W.Frag) (a:Addr):It:=
 ⟨fun i H=>∃ xs x,SqL K H a xs/\xs[i]?=some x,fun i H x H'=>H'=H/\∀ xs,SqL K H a xs->xs[i]?=some x,fun i H=>∃ xs,SqL K H a xs/\xs.length<=i⟩
noncomputable def Itt (K:PySem.W.Frag) (a:Addr):It:=
 ⟨fun i H=>∃ xs x,SqT K H a xs/\xs[i]?=some x,fun i H x H'=>H'=H/\∀ xs,SqT K H a xs->xs[i]?=some x,fun i H=>∃ xs,SqT K H a xs/\xs.length<=i⟩
noncomputable def Itr (lo:Int) (n:Nat):It:=⟨fun i _=>i < n,fun i H x H'=>H'=H/\x=.int (lo + i),fun i _=>n<=i⟩
theorem zhm {P:Program} {w:World} {K:PySem.W.Frag} {tg:Expr} (a it:Addr):Turn P w K tg (Itl K a) [it] it (fun i h=>h.IsListIter it a i) where
 mem:=by simp
 obj:=fun i h st b hb=>by
  have e:b=it:=by simpa using hb
  subst e
  obtain ⟨o,e,c,d⟩:=st
  exact ⟨o,e,fun v z=>by rw [d] at z; cases z⟩
 keep:=fun i h h' st k=>st.at fun o e=>k it (by simp) o e
 item:=by
  intro X hP hw hK hc i pins s σ H E I hf st hg
  subst hP hw hK
  obtain ⟨xs,x,hq,hx⟩:=hg
  obtain ⟨its,rv,p,hz⟩:=I.list hq
  obtain ⟨u,hu,ru⟩:=rv.get hx
  obtain ⟨f0,f1,f2,f3,f4,f5⟩:=hf it (by simp)
  refine wpAny_pyNext_list_item st p.isList (x:=u) (by simpa using hu) fun h' st' sb=>?_
  have I1:Inv X pins σ H { s with heap:=h' }:=I.turned (t':=s.toks) (fun b o hb e=>(sb.2 b hb).trans e) f0 f1 f3 f4 f5
  obtain ⟨o,e,c,d⟩:=id st'
  exact ⟨u,rfl,zfx (s:={ s with heap:=h' }) e c d (by decide) ⟨x,H,I1,ru,⟨rfl,fun ys hy=>by rw [I.list_inj hy hq]; exact hx⟩,st',fun b hb=>(hf b hb).1⟩⟩
 done:=by
  intro X hP hw hK hc i pins s σ H E I hf st hg
  subst hP hw hK
  obtain ⟨xs,hq,hx⟩:=hg
  obtain ⟨its,rv,p,hz⟩:=I.list hq
  obtain ⟨f0,f1,f2,f3,f4,f5⟩:=hf it (by simp)
  have hl:=rv.length
  exact wpAny_pyNext_list_end (I.ok.hd hc) st p.isList (by simp; omega) fun h' eb=>⟨rfl,I.turned (t':=s.toks) (fun b o hb e=>eb b o hb e) f0 f1 f3 f4 f5⟩
 self:=fun _ _ _ _ _ st h=>wpAny_pyIter_listiter st h
theorem zgI {P:Program} {w:World} {K:PySem.W.Frag} {tg:Expr} (a it:Addr):Turn P w K tg (Itt K a) [it] it (fun i h=>h.IsTupleIter it a i) where
 mem:=by simp
 obj:=fun i h st b hb=>by
  have e:b=it:=by simpa using hb
  subst e
  obtain ⟨o,e,c,d⟩:=st
  exact ⟨o,e,fun v z=>by rw [d] at z; cases z⟩
 keep:=fun i h h' st k=>st.at fun o e=>k it (by simp) o e
 item:=by
  intro X hP hw hK hc i pins s σ H E I hf st hg
  subst hP hw hK
  obtain ⟨xs,x,hq,hx⟩:=hg
  obtain ⟨its,rv,p,hz⟩:=I.tuple hq
  obtain ⟨u,hu,ru⟩:=rv.get hx
  obtain ⟨f0,f1,f2,f3,f4,f5⟩:=hf it (by simp)
  refine wpAny_pyNext_tuple_item st (show s.heap.IsTuple a its.toArray from p) (x:=u) (by simpa using hu) fun h' st' sb=>?_
  have I1:Inv X pins σ H { s with heap:=h' }:=I.turned (t':=s.toks) (fun b o hb e=>(sb.2 b hb).trans e) f0 f1 f3 f4 f5
  obtain ⟨o,e,c,d⟩:=id st'
  exact ⟨u,rfl,zfx (s:={ s with heap:=h' }) e c d (by decide) ⟨x,H,I1,ru,⟨rfl,fun ys hy=>by rw [I.tuple_inj hy hq]; exact hx⟩,st',fun b hb=>(hf b hb).1⟩⟩
 done:=by
  intro X hP hw hK hc i pins s σ H E I hf st hg
  subst hP hw hK
  obtain ⟨xs,hq,hx⟩:=hg
  obtain ⟨its,rv,p,hz⟩:=I.tuple hq
  obtain ⟨f0,f1,f2,f3,f4,f5⟩:=hf it (by simp)
  have hl:=rv.length
  exact wpAny_pyNext_tuple_end (I.ok.hd hc) st (show s.heap.IsTuple a its.toArray from p) (by simp; omega) fun h' eb=>⟨rfl,I.turned (t':=s.toks) (fun b o hb e=>eb b o hb e) f0 f1 f3 f4 f5⟩
 self:=fun _ _ _ _ _ st h=>wpAny_pyIter_tupleiter st h
theorem zg9 {P:Program} {w:World} {K:PySem.W.Frag} {tg:Expr} (it:Addr) (lo:Int) (n:Nat):Turn P w K tg (Itr lo n) [it] it (fun i h=>IsRangeIter h it (lo + (i:Nat) * 1) ((n:Int) - (i:Nat)) 1) where
 mem:=by simp
 obj:=fun i h st b hb=>by
  have e:b=it:=by simpa using hb
  subst e
  exact ⟨_,st,fun v z=>by
   have z':Data.fields _=Data.cell v:=z
   cases z'⟩
 keep:=fun i h h' st k=>k it (by simp) _ st
 item:=by
  intro X hP hw hK hc i pins s σ H E I hf st hg
  subst hP hw hK
  obtain ⟨f0,f1,f2,f3,f4,f5⟩:=hf it (by simp)
  have W:=Walks.range (prog:=X.prog) (w:=X.w) (I.ok.hd hc) it lo 1 n
  refine W.item i s _ _ hg st fun v h' tk hv st' kk=>?_
  obtain ⟨t,rfl⟩:=hv
  have I1:Inv X pins σ H { s with heap:=h',toks:=tk }:=I.turned (fun b o hb e=>kk b o (by simpa using hb) e) f0 f1 f3 f4 f5
  refine ⟨_,rfl,zfx (s:={ s with heap:=h',toks:=tk }) (n := "range_iterator") st' rfl rfl (by decide) ⟨.int (lo + i),H,I1,⟨t,?_⟩,⟨rfl,rfl⟩,st',fun b hb=>(hf b hb).1⟩⟩
  rw [Int.mul_one]
 done:=by
  intro X hP hw hK hc i pins s σ H E I hf st hg
  subst hP hw hK
  obtain ⟨f0,f1,f2,f3,f4,f5⟩:=hf it (by simp)
  exact wpAny_pyNext_range_end (I.ok.hd hc) st (by have:n<=i:=hg; omega) fun h' eb=>⟨rfl,I.turned (t':=s.toks) (fun b o hb e=>eb b o hb e) f0 f1 f3 f4 f5⟩
 self:=fun _ _ _ _ _ st h=>wpAny_pyIter_rangeiter st h
end Internal
namespace Internal
open PySem PySem.Spec PyProof.Rows
section
variable {X:Cx} {tg:Expr}
noncomputable def zbh (K:PySem.W.Frag) (tl:TE):TI:=fun σ H R=>tl σ H fun x H1=>∃ a,x=.ref a/\(∃ xs,SqL K H1 a xs)/\R (Itl K a) H1
noncomputable def ziP (K:PySem.W.Frag) (tl:TE):TI:=fun σ H R=>tl σ H fun x H1=>∃ a,x=.ref a/\(∃ xs,SqT K H1 a xs)/\R (Itt K a) H1
theorem zaE {l:Expr} {tl:TE} (hl:PE X l tl):PI X tg l (zbh X.K tl):=by
 intro pins s σ H R I h
 refine thn (hl pins s σ H _ I h) fun v s1 zz=>?_
 obtain ⟨x,H1,I1,r1,q1⟩:=zz
 obtain ⟨a,e,⟨xs,hq⟩,q⟩:=q1
 subst e
 cases r1
 obtain ⟨its,rv,p,hz⟩:=I1.list hq
 refine wpAny_pyIter_list p.isList ?_
 refine ⟨s1.heap.objs.size,[s1.heap.objs.size],_,_,H1,rfl,I1.kept (t':=s1.toks) fun b o e=>Heap.get?_push_of_some _ e,zhm a _,⟨_,Heap.get?_push_size _ rfl,rfl,rfl⟩,fun b hb=>?_,q⟩
 have e:b=s1.heap.objs.size:=by simpa using hb
 subst e
 exact I1.fpOk (Nat.le_refl _) (I1.hok.fresh (Nat.le_refl _))
theorem zlw {l:Expr} {tl:TE} (hl:PE X l tl):PI X tg l (ziP X.K tl):=by
 intro pins s σ H R I h
 refine thn (hl pins s σ H _ I h) fun v s1 zz=>?_
 obtain ⟨x,H1,I1,r1,q1⟩:=zz
 obtain ⟨a,e,⟨xs,hq⟩,q⟩:=q1
 subst e
 cases r1
 obtain ⟨its,rv,p,hz⟩:=I1.tuple hq
 refine wpAny_pyIter_tuple (show s1.heap.IsTuple a its.toArray from p) ?_
 refine ⟨s1.heap.objs.size,[s1.heap.objs.size],_,_,H1,rfl,I1.kept (t':=s1.toks) fun b o e=>Heap.get?_push_of_some _ e,zgI a _,⟨_,Heap.get?_push_size _ rfl,rfl,rfl⟩,fun b hb=>?_,q⟩
 have e:b=s1.heap.objs.size:=by simpa using hb
 subst e
 exact I1.fpOk (Nat.le_refl _) (I1.hok.fresh (Nat.le_refl _))
theorem ziE {pins:List (Addr × Obj)} {σ:St} {H:Hp} {s:Shared} {R:It->Hp->Prop} {E:Value->Shared->Prop} {lo hi:Int} {t u v:Tok} {tk:Nat} (I:Inv X pins σ H s) (h1:-(2 ^ 62)<=lo) (h2:lo < 2 ^ 62) (h3:-(2 ^ 62)<=hi) (h4:hi < 2 ^ 62)
  (q:R (Itr lo (hi - lo).toNat) H):wpAny (model X.prog X.w) X.A (pyIter (.ref s.heap.objs.size)) (PIE X pins σ tg R) E { s with heap:=s.heap.push { cls:=.type "range",data:=.fields #[.int lo t,.int hi u,.int 1 v] },toks:=tk }:=by
 refine wpAny_pyIter_range (IsRange.new ..) (small_one h1 h2 h3 h4) ?_
 have I1:Inv X pins σ H { s with heap:=s.heap.push { cls:=.type "range",data:=.fields #[.int lo t,.int hi u,.int 1 v] },toks:=tk }:=I.kept fun b o e=>Heap.get?_push_of_some _ e
 refine ⟨(s.heap.push { cls:=.type "range",data:=.fields #[.int lo t,.int hi u,.int 1 v] }).objs.size,[(s.heap.push { cls:=.type "range",data:=.fields #[.int lo t,.int hi u,.int 1 v] }).objs.size],_,_,H,rfl,
  I1.kept (t':=tk) fun b o e=>Heap.get?_push_of_some _ e,zg9 _ lo (hi - lo).toNat,?_,fun b hb=>?_,q⟩
 ·have e1:lo + ((0:Nat):Int) * 1=lo:=by simp
  have e2:(((hi - lo).toNat:Nat):Int) - ((0:Nat):Int)=Builtin.Range.rangeSize lo hi 1:=by rw [rangeSize_one]; split <;> omega
  show IsRangeIter _ _ (lo + ((0:Nat):Int) * 1) ((((hi - lo).toNat:Nat):Int) - ((0:Nat):Int)) 1
  rw [e1,e2]
  exact Heap.get?_push_size _ rfl
 ·have e:b=(s.heap.push { cls:=.type "range",data:=.fields #[.int lo t,.int hi u,.int 1 v] }).objs.size:=by simpa using hb
  subst e
  exact I1.fpOk (Nat.le_refl _) (I1.hok.fresh (Nat.le_refl _))
noncomputable def zjB (ta:TA):TI:=fun σ H R=>ta σ H fun vs H1=>∃ j:Int,vs=[.int j]/\-(2 ^ 62)<=j/\j < 2 ^ 62/\R (Itr 0 j.toNat) H1
theorem zbp {a:Expr} {ta:TA} {p pos:Pos} (hg:Gl X "range") (hm:X.mg "range" = none) (ha:PA X [a] ta) (hs:autoParam (starEach [a] X.env=[(false,eval a X.env)]) Internal.aut2._auto_1):PI X tg (.Call (.Name "range" p) [a] [] pos) (zjB ta):=by
 intro pins s σ H R I h
 refine Call_ (zde I hg hm boot_range (PyProof.Rows.callWith_type1 (thn (ha pos pins s σ H _ I h) fun us s1 ⟨vs,H1,I1,r1,q1⟩=>?_) hs rfl))
 obtain ⟨j,e,q1,q2,q⟩:=q1
 subst e
 cases r1 with
 | cons r rr=>
  cases rr
  obtain ⟨t,rfl⟩:=r
  exact call_range_1 (ziE I1 (by omega) (by omega) q1 q2 (by simpa using q))
noncomputable def zlP (wi:TI) (g:TG) (tb:TS):TS:=fun D σ H=>wi σ H fun J H1=>∃ W:Nat->Nat->St->Hp->Prop,(∃ m,W 0 m σ H1)/\∀ i m σ H,W i m σ H ->
 (J.stop i H/\D.nx σ H)\/(J.go i H/\∃ N:St->Hp->Prop,(∀ σ' H',N σ' H'->∃ m',m' < m/\W (i + 1) m' σ' H')/\∀ x H',J.yld i H x H'->g x σ H' fun σ2 H2=>tb { D with nx:=N,ct:=N,bk:=D.nx } σ2 H2)
noncomputable def zdi (fp:List Addr) (h:Heap):List (Addr × Obj):=fp.filterMap fun b=>(h.get? b).map fun o=>(b,o)
theorem zcn {fp:List Addr} {h:Heap} {b:Addr} {o:Obj} (hb:b ∈ fp) (e:h.get? b=some o):(b,o) ∈ zdi fp h:=List.mem_filterMap.mpr ⟨b,hb,by rw [e]; rfl⟩
theorem zh8 {fp:List Addr} {h:Heap} {p:Addr × Obj} (hp:p ∈ zdi fp h):p.1 ∈ fp/\h.get? p.1=some p.2:=by
 obtain ⟨b,hb,e⟩:=List.mem_filterMap.mp hp
 cases q:h.get? b with
 | none=>rw [q] at e; cases e
 | some o=>
  rw [q] at e
  have e':(b,o)=p:=Option.some.inj e
  subst e'
  exact ⟨hb,q⟩
theorem Inv.pinned {pins:List (Addr × Obj)} {σ:St} {H:Hp} {s:Shared} {fp:List Addr} (I:Inv X pins σ H s) (hf:∀ b ∈ fp,zbX X pins H b) (ho:∀ b ∈ fp,∃ o,s.heap.get? b=some o/\∀ v,o.data ≠ .cell v):Inv X (pins ++ zdi fp s.heap) σ H s:=
 I.pins_of fun p hp=>(List.mem_append.mp hp).elim (fun z=>I.pin p (List.mem_append_right _ z)) fun z=>by
  obtain ⟨hb,e⟩:=zh8 z
  obtain ⟨f0,f1,f2,_⟩:=hf p.1 hb
  obtain ⟨o,e',d⟩:=ho p.1 hb
  rw [e] at e'; cases e'
  exact ⟨e,f0,f1,f2,d⟩
theorem Inv.unpinned {pins pl:List (Addr × Obj)} {σ:St} {H:Hp} {s:Shared} (I:Inv X (pins ++ pl) σ H s):Inv X pins σ H s:=I.pins_of fun p hp=>I.pin p (List.mem_append_right _ (List.mem_append_left _ hp))
theorem zax {iter:Expr} {body:List Stmt} {wi:TI} {g:TG} {tb:TS} {pos:Pos} (hp:PassesOwn (model X.prog X.w) X.A X.env X.xe) (hc:X.calm=true) (hi:PI X tg iter wi) (hg:PG X tg g) (hb:PSs X body tb)
  (hs:autoParam (∀ x,foldedSetIterable iter X.env x=pure x) Internal.aut3._auto_1):PS X (.For tg iter body [] pos) (zlP wi g tb):=by
 intro pins s σ H D I h
 refine wpAny_For (thn (hi pins s σ H _ I h) fun v s1 h1=>thn h1 fun itv s2 h2=>?_) hs
 obtain ⟨it,fp,tn,J,H2,e,I2,T,st2,f2,W,⟨m0,w0⟩,turn⟩:=h2
 subst e
 -- what stays true of the iterator's objects through the loop
 have stat:∀ {H':Hp},(∀ b ∈ fp,H' b=none)->∀ b ∈ fp,zbX X pins H' b:=fun hn b hb=>⟨hn b hb,(f2 b hb).2⟩
 refine codeAny_forLoop_any (fun n s'=>∃ i σ' H',Inv X pins σ' H' s'/\tn i s'.heap/\(∀ b ∈ fp,H' b=none)/\W i n σ' H') ?_ m0 ⟨0,σ,H2,I2,st2,fun b hb=>(f2 b hb).1,w0⟩
 rintro n s3 ⟨i,σ3,H3,I3,st3,fr3,w3⟩
 rcases turn i n σ3 H3 w3 with ⟨stop,qn⟩ | ⟨go,N,hN,step⟩
 ·refine wpAny_passesOwn hp (thn (T.done X rfl rfl rfl hc i pins s3 σ3 H3 X.xe I3 (stat fr3) st3 stop) fun r s4 ⟨hr,I4⟩=>?_)
  subst hr
  exact wpAny_execs_nil ⟨σ3,H3,I4,qn⟩
 ·refine wpAny_passesOwn hp (thn (T.item X rfl rfl rfl hc i pins s3 σ3 H3 X.xe I3 (stat fr3) st3 go) fun r s4 ⟨u,hr,h4⟩=>?_)
  subst hr
  refine wpAny_passesOwn hp (thn h4 fun _ s5 zz=>?_)
  obtain ⟨x,H5,I5,r5,y5,st5,fr5⟩:=zz
  have I5':=I5.pinned (stat fr5) (T.obj _ _ st5)
  refine wpAny_passesOwn hp (thn (hg _ s5 σ3 H5 x u _ I5' r5 (step x H5 y5)) fun _ s6 zz=>?_)
  obtain ⟨σ6,H6,I6,q6⟩:=zz
  refine wpAny_passesOwn hp (thn (hb _ s6 σ6 H6 _ I6 q6) fun f s7 q7=>?_)
  have again:∀ {σ7:St} {H7:Hp},Inv X (pins ++ zdi fp s5.heap) σ7 H7 s7->N σ7 H7->∃ m,m < n/\∃ i σ' H',Inv X pins σ' H' s7/\tn i s7.heap/\(∀ b ∈ fp,H' b=none)/\W i m σ' H':=fun {σ7 H7} I7 n7=>by
   obtain ⟨m',hm,w7⟩:=hN σ7 H7 n7
   refine ⟨m',hm,i + 1,σ7,H7,I7.unpinned,T.keep _ _ _ st5 fun b hb o e=>(I7.pin (b,o) (List.mem_append_right _ (List.mem_append_right _ (zcn hb e)))).1,fun b hb=>?_,w7⟩
   obtain ⟨o,e,d⟩:=T.obj _ _ st5 b hb
   exact (I7.pin (b,o) (List.mem_append_right _ (List.mem_append_right _ (zcn hb e)))).2.1
  cases f with
  | next=>obtain ⟨σ7,H7,I7,n7⟩:=q7; exact again I7 n7
  | cont=>obtain ⟨σ7,H7,I7,n7⟩:=q7; exact again I7 n7
  | brk=>obtain ⟨σ7,H7,I7,q7⟩:=q7; exact ⟨σ7,H7,I7.unpinned,q7⟩
  | ret v=>obtain ⟨x7,σ7,H7,I7,r7,q7⟩:=q7; exact ⟨x7,σ7,H7,I7.unpinned,r7,q7⟩
end
theorem ziz {K:PySem.W.Frag} {a:Addr} {xs:List V} {g:TG} {tb:TS} {D:Ends} {σ:St} {H:Hp} (Pv:Nat->St->Hp->Prop) (h0:Pv 0 σ H) (hl:∀ i σ H,i<=xs.length->Pv i σ H->SqL K H a xs)
  (hs:∀ i x σ H,xs[i]?=some x->Pv i σ H->g x σ H fun σ2 H2=>tb { D with nx:=Pv (i + 1),ct:=Pv (i + 1),bk:=D.nx } σ2 H2) (hd:∀ σ H,Pv xs.length σ H->D.nx σ H) :
  ∃ W:Nat->Nat->St->Hp->Prop,(∃ m,W 0 m σ H)/\∀ i m σ H,W i m σ H ->
   ((Itl K a).stop i H/\D.nx σ H)\/((Itl K a).go i H/\∃ N:St->Hp->Prop,(∀ σ' H',N σ' H'->∃ m',m' < m/\W (i + 1) m' σ' H')/\∀ x H',(Itl K a).yld i H x H'->g x σ H' fun σ2 H2=>tb { D with nx:=N,ct:=N,bk:=D.nx } σ2 H2):=by
 refine ⟨fun i m σ H=>m=xs.length - i/\i<=xs.length/\Pv i σ H,⟨xs.length,by simp,Nat.zero_le _,h0⟩,?_⟩
 rintro i m σ H ⟨rfl,hi,p⟩
 have q:=hl i σ H hi p
 by_cases hlt:i < xs.length
 ·refine .inr ⟨⟨xs,xs[i],q,by simp [hlt]⟩,Pv (i + 1),fun σ' H' p'=>⟨xs.length - (i + 1),by omega,rfl,hlt,p'⟩,fun x H' y=>?_⟩
  obtain ⟨e,y⟩:=y
  subst e
  exact hs i x σ _ (y xs q) p
 ·have e:i=xs.length:=by omega
  subst e
  exact .inl ⟨⟨xs,q,Nat.le_refl _⟩,hd σ H p⟩
theorem zh6 {lo:Int} {n:Nat} {g:TG} {tb:TS} {D:Ends} {σ:St} {H:Hp} (Pv:Nat->St->Hp->Prop) (h0:Pv 0 σ H)
  (hs:∀ i σ H,i < n->Pv i σ H->g (.int (lo + i)) σ H fun σ2 H2=>tb { D with nx:=Pv (i + 1),ct:=Pv (i + 1),bk:=D.nx } σ2 H2) (hd:∀ σ H,Pv n σ H->D.nx σ H) :
  ∃ W:Nat->Nat->St->Hp->Prop,(∃ m,W 0 m σ H)/\∀ i m σ H,W i m σ H ->
   ((Itr lo n).stop i H/\D.nx σ H)\/((Itr lo n).go i H/\∃ N:St->Hp->Prop,(∀ σ' H',N σ' H'->∃ m',m' < m/\W (i + 1) m' σ' H')/\∀ x H',(Itr lo n).yld i H x H'->g x σ H' fun σ2 H2=>tb { D with nx:=N,ct:=N,bk:=D.nx } σ2 H2):=by
 refine ⟨fun i m σ H=>m=n - i/\i<=n/\Pv i σ H,⟨n,by simp,Nat.zero_le _,h0⟩,?_⟩
 rintro i m σ H ⟨rfl,hi,p⟩
 by_cases hlt:i < n
 ·refine .inr ⟨hlt,Pv (i + 1),fun σ' H' p'=>⟨n - (i + 1),by omega,rfl,hlt,p'⟩,fun x H' y=>?_⟩
  obtain ⟨e,y⟩:=y
  subst e y
  exact hs i σ _ hlt p
 ·have e:i=n:=by omega
  subst e
  exact .inl ⟨Nat.le_refl _,hd σ H p⟩
end Internal
namespace Internal
open PySem PySem.Spec PyProof.Rows
noncomputable abbrev R2:=V->V->Hp->VK->Prop
noncomputable def OpR (X:Cx) (f:Value->Value->Sem Value) (r:R2):Prop:=
 ∀ (pins:List (Addr × Obj)) (s:Shared) (σ:St) (H:Hp) (x y:V) (v u:Value) (Q:VK),Inv X pins σ H s->RelV x v->RelV y u->r x y H Q ->
  wpAny (model X.prog X.w) X.A (f v u) (EP X pins σ Q) X.xe s
noncomputable def UnR (X:Cx) (f:Value->Sem Value) (r:V->Hp->VK->Prop):Prop:=
 ∀ (pins:List (Addr × Obj)) (s:Shared) (σ:St) (H:Hp) (x:V) (v:Value) (Q:VK),Inv X pins σ H s->RelV x v->r x H Q ->
  wpAny (model X.prog X.w) X.A (f v) (EP X pins σ Q) X.xe s
noncomputable def CallR (X:Cx) (f:Value) (r:List V->Hp->VK->Prop):Prop:=
 ∀ (pins:List (Addr × Obj)) (s:Shared) (σ:St) (H:Hp) (xs:List V) (us:List Value) (Q:VK),Inv X pins σ H s->Vals xs us->r xs H Q ->
  wpAny (model X.prog X.w) X.A (call f us) (EP X pins σ Q) X.xe s
noncomputable def zmN (X:Cx) (r:V->Hp->(Bool->Hp->Prop)->Prop):Prop:=
 ∀ (pins:List (Addr × Obj)) (s:Shared) (σ:St) (H:Hp) (x:V) (v:Value) (Q:Bool->Hp->Prop),Inv X pins σ H s->RelV x v->r x H Q ->
  wpAny (model X.prog X.w) X.A (truthy v) (TP X pins σ Q) X.xe s
noncomputable abbrev tOp (r:R2) (ta tb:TE):TE:=fun σ H Q=>ta σ H fun x H1=>tb σ H1 fun y H2=>r x y H2 Q
noncomputable abbrev tUn (r:V->Hp->VK->Prop) (ta:TE):TE:=fun σ H Q=>ta σ H fun x H1=>r x H1 Q
noncomputable def rI (C:Int->Int->Prop) (g:Int->Int->V):R2:=fun x y H Q=>∃ i j,x=.int i/\y=.int j/\C i j/\Q (g i j) H
noncomputable def rI0 (g:Int->Int->V):R2:=fun x y H Q=>∃ i j,x=.int i/\y=.int j/\Q (g i j) H
noncomputable def rU (g:Int->V):V->Hp->VK->Prop:=fun x H Q=>∃ i,x=.int i/\Q (g i) H
section
variable {X:Cx} {a b c:Expr} {ta tb tc:TE} {pos:Pos}
theorem ziC (ha:PE X a ta) (hb:PE X b tb) {pins:List (Addr × Obj)} {s:Shared} {σ:St} {H:Hp} {R:V->V->Hp->Prop} (I:Inv X pins σ H s)
  (h:ta σ H fun x H1=>tb σ H1 fun y H2=>R x y H2) {Q:Value->Shared->Prop} {f:Value->Value->Sem Value}
  (hf:∀ v u s2 x y H2,Inv X pins σ H2 s2->RelV x v->RelV y u->R x y H2->wpAny (model X.prog X.w) X.A (f v u) Q X.xe s2) :
  wpAny (model X.prog X.w) X.A (eval a X.env) (fun v s₁=>wpAny (model X.prog X.w) X.A (eval b X.env) (fun u s₂=>wpAny (model X.prog X.w) X.A (f v u) Q X.xe s₂) X.xe s₁) X.xe s:=by
 refine thn (ha pins s σ H _ I h) fun v s1 zz=>?_
 obtain ⟨x,H1,I1,r1,q1⟩:=zz
 refine thn (hb pins s1 σ H1 _ I1 q1) fun u s2 zz=>?_
 obtain ⟨y,H2,I2,r2,q2⟩:=zz
 exact hf v u s2 x y H2 I2 r1 r2 q2
theorem zm {op:Operator} {r:R2} (ho:OpR X (binaryOp op) r) (ha:PE X a ta) (hb:PE X b tb):PE X (.BinOp a op b pos) (tOp r ta tb):=by
 intro pins s σ H Q I h
 exact wpAny_BinOp (ziC ha hb I h fun v u s2 x y H2 I2 rx ry q=>ho pins s2 σ H2 x y v u Q I2 rx ry q)
theorem zjs {op:UnaryOp} {r:V->Hp->VK->Prop} (ho:UnR X (unaryOp op) r) (ha:PE X a ta):PE X (.UnaryOp op a pos) (tUn r ta):=by
 intro pins s σ H Q I h
 exact UnaryOp_ (thn (ha pins s σ H _ I h) fun v s1 ⟨x,H1,I1,r1,q1⟩=>ho pins s1 σ H1 x v Q I1 r1 q1)
theorem opI {f:Value->Value->Sem Value} {C:Int->Int->Prop} {g:Int->Int->Int}
  (rule:∀ (i j:Int) (t u:Tok) (s:Shared) (Q:Value->Shared->Prop) (E:Value->Shared->Prop),C i j->Q (.int (g i j) s.toks) { s with toks:=s.toks + 1 }->wpAny (model X.prog X.w) X.A (f (.int i t) (.int j u)) Q E s) :
  OpR X f (rI C fun i j=>.int (g i j)):=by
 intro pins s σ H x y v u Q I rx ry h
 obtain ⟨i,j,rfl,rfl,hc,q⟩:=h
 obtain ⟨t,rfl⟩:=rx
 obtain ⟨t',rfl⟩:=ry
 exact rule i j t t' s _ _ hc ⟨.int (g i j),H,I.tok _,⟨_,rfl⟩,q⟩
theorem zkF {f:Value->Value->Sem Value} {g:Int->Int->Int}
  (rule:∀ (i j:Int) (t u:Tok) (s:Shared) (Q:Value->Shared->Prop) (E:Value->Shared->Prop),Q (.int (g i j) s.toks) { s with toks:=s.toks + 1 }->wpAny (model X.prog X.w) X.A (f (.int i t) (.int j u)) Q E s) :
  OpR X f (rI0 fun i j=>.int (g i j)):=by
 intro pins s σ H x y v u Q I rx ry h
 obtain ⟨i,j,rfl,rfl,q⟩:=h
 obtain ⟨t,rfl⟩:=rx
 obtain ⟨t',rfl⟩:=ry
 exact rule i j t t' s _ _ ⟨.int (g i j),H,I.tok _,⟨_,rfl⟩,q⟩
theorem ziv {f:Value->Value->Sem Value} {g:Int->Int->Bool}
  (rule:∀ (i j:Int) (t u:Tok) (s:Shared) (Q:Value->Shared->Prop) (E:Value->Shared->Prop),Q (.bool (g i j)) s->wpAny (model X.prog X.w) X.A (f (.int i t) (.int j u)) Q E s) :
  OpR X f (rI0 fun i j=>.bl (g i j)):=by
 intro pins s σ H x y v u Q I rx ry h
 obtain ⟨i,j,rfl,rfl,q⟩:=h
 obtain ⟨t,rfl⟩:=rx
 obtain ⟨t',rfl⟩:=ry
 exact rule i j t t' s _ _ ⟨.bl (g i j),H,I,rfl,q⟩
noncomputable def zgQ (i j:Int):Prop:=0<=j/\j<=1000000/\i.natAbs < 2 ^ 64
theorem op_add:OpR X (binaryOp .Add) (rI0 fun i j=>.int (i + j)):=zkF fun _ _ _ _ _ _ _ q=>add_int q
theorem zaU:OpR X (binaryOp .Sub) (rI0 fun i j=>.int (i - j)):=zkF fun _ _ _ _ _ _ _ q=>sub_int q
theorem zjT:OpR X (binaryOp .Mod) (rI (fun _ j=>j ≠ 0) fun i j=>.int (i.fmod j)):=opI fun _ _ _ _ _ _ _ hc q=>mod_int' hc q
theorem zbl:OpR X (binaryOp .Pow) (rI zgQ fun i j=>.int (i ^ j.toNat)):=opI fun _ _ _ _ _ _ _ hc q=>pow_int_small hc.1 hc.2.1 hc.2.2 q
theorem unI {f:Value->Sem Value} {g:Int->Int}
  (rule:∀ (i:Int) (t:Tok) (s:Shared) (Q:Value->Shared->Prop) (E:Value->Shared->Prop),Q (.int (g i) s.toks) { s with toks:=s.toks + 1 }->wpAny (model X.prog X.w) X.A (f (.int i t)) Q E s) :
  UnR X f (rU fun i=>.int (g i)):=by
 intro pins s σ H x v Q I rx h
 obtain ⟨i,rfl,q⟩:=h
 obtain ⟨t,rfl⟩:=rx
 exact rule i t s _ _ ⟨.int (g i),H,I.tok _,⟨_,rfl⟩,q⟩
theorem zhx:UnR X (unaryOp .USub) (rU fun i=>.int (-i)):=unI fun _ _ _ _ _ q=>neg_int q
end
noncomputable def scal:V->V->Bool
 | .non,.non=>true | .non,.int _=>true | .int _,.non=>true | .non,.bl _=>true | .bl _,.non=>true | .non,.str _=>true | .str _,.non=>true
 | .int _,.int _=>true | .bl _,.bl _=>true | .str _,.str _=>true | .byt _,.byt _=>true
 | .int _,.str _=>true | .str _,.int _=>true | .bl _,.str _=>true | .str _,.bl _=>true
 | _,_=>false
noncomputable def rEq:R2:=fun x y H Q=>scal x y=true/\Q (.bl (decide (x=y))) H
noncomputable def rNe:R2:=fun x y H Q=>scal x y=true/\Q (.bl (!decide (x=y))) H
theorem zgh {i j:Int}:decide (V.int i=V.int j)=(i == j):=by
 rw [Bool.eq_iff_iff]
 simp
theorem zhk {i j:Bool}:decide (V.bl i=V.bl j)=(i == j):=by
 rw [Bool.eq_iff_iff]
 simp
theorem zgm {i j:Str}:decide (V.str i=V.str j)=(i == j):=by
 rw [Bool.eq_iff_iff]
 simp
theorem zgr {i j:Array UInt8}:decide (V.byt i=V.byt j)=(i.toList == j.toList):=by
 rw [Bool.eq_iff_iff]
 cases i
 cases j
 simp
section
variable {X:Cx} {a b c:Expr} {ta tb tc:TE} {pos:Pos}
theorem zP {pins:List (Addr × Obj)} {σ:St} {H:Hp} {s:Shared} {Q:VK} {k k':Bool} (I:Inv X pins σ H s) (q:Q (.bl k) H) (e:k=k'):EP X pins σ Q (.bool k') s:=by
 subst e
 exact ⟨.bl k,H,I,rfl,q⟩
theorem zl1:OpR X (compareOp .Eq) rEq:=by
 intro pins s σ H x y v u Q I rx ry h
 obtain ⟨hs,q⟩:=h
 cases x with
 | non=>
  cases rx
  cases y with
  | non=>cases ry; exact PySem.EqNone.eq_none_none (zP I q (by simp))
  | bl j=>cases ry; exact PySem.EqNone.eq_none_bool (zP I q (by simp))
  | int j=>obtain ⟨t',rfl⟩:=ry; exact PySem.EqNone.eq_none_int (zP I q (by simp))
  | str j=>obtain ⟨t',rfl⟩:=ry; exact PySem.EqNone.eq_none_str (zP I q (by simp))
  | _=>exact absurd (show false=true from hs) Bool.false_ne_true
 | bl i=>
  cases rx
  cases y with
  | non=>cases ry; exact PySem.EqNone.eq_bool_none (zP I q (by simp))
  | bl j=>cases ry; exact eq_bool (zP I q zhk)
  | str j=>obtain ⟨t',rfl⟩:=ry; exact PySem.EqMixed.eq_bool_str (zP I q (by simp))
  | _=>exact absurd (show false=true from hs) Bool.false_ne_true
 | int i=>
  obtain ⟨t,rfl⟩:=rx
  cases y with
  | non=>cases ry; exact PySem.EqNone.eq_int_none (zP I q (by simp))
  | int j=>obtain ⟨t',rfl⟩:=ry; exact eq_int (zP I q zgh)
  | str j=>obtain ⟨t',rfl⟩:=ry; exact PySem.EqMixed.eq_int_str (zP I q (by simp))
  | _=>exact absurd (show false=true from hs) Bool.false_ne_true
 | str i=>
  obtain ⟨t,rfl⟩:=rx
  cases y with
  | non=>cases ry; exact PySem.EqNone.eq_str_none (zP I q (by simp))
  | bl j=>cases ry; exact PySem.EqMixed.eq_str_bool (zP I q (by simp))
  | int j=>obtain ⟨t',rfl⟩:=ry; exact PySem.EqMixed.eq_str_int (zP I q (by simp))
  | str j=>obtain ⟨t',rfl⟩:=ry; exact eq_str (zP I q zgm)
  | _=>exact absurd (show false=true from hs) Bool.false_ne_true
 | byt i=>
  obtain ⟨t,rfl⟩:=rx
  cases y with
  | byt j=>obtain ⟨t',rfl⟩:=ry; exact PySem.W.eq_bytes (zP I q zgr)
  | _=>exact absurd (show false=true from hs) Bool.false_ne_true
 | _=>cases y <;> exact absurd (show false=true from hs) Bool.false_ne_true
theorem zmt:OpR X (compareOp .NotEq) rNe:=by
 intro pins s σ H x y v u Q I rx ry h
 obtain ⟨hs,q⟩:=h
 cases x with
 | non=>
  cases rx
  cases y with
  | non=>cases ry; exact PySem.EqNone.ne_none_none (zP I q (by simp))
  | bl j=>cases ry; exact PySem.EqNone.ne_none_bool (zP I q (by simp))
  | int j=>obtain ⟨t',rfl⟩:=ry; exact PySem.EqNone.ne_none_int (zP I q (by simp))
  | str j=>obtain ⟨t',rfl⟩:=ry; exact PySem.EqNone.ne_none_str (zP I q (by simp))
  | _=>exact absurd (show false=true from hs) Bool.false_ne_true
 | bl i=>
  cases rx
  cases y with
  | non=>cases ry; exact PySem.EqNone.ne_bool_none (zP I q (by simp))
  | bl j=>cases ry; exact ne_bool (zP I q (congrArg not zhk))
  | str j=>obtain ⟨t',rfl⟩:=ry; exact PySem.EqMixed.ne_bool_str (zP I q (by simp))
  | _=>exact absurd (show false=true from hs) Bool.false_ne_true
 | int i=>
  obtain ⟨t,rfl⟩:=rx
  cases y with
  | non=>cases ry; exact PySem.EqNone.ne_int_none (zP I q (by simp))
  | int j=>obtain ⟨t',rfl⟩:=ry; exact ne_int (zP I q (congrArg not zgh))
  | str j=>obtain ⟨t',rfl⟩:=ry; exact PySem.EqMixed.ne_int_str (zP I q (by simp))
  | _=>exact absurd (show false=true from hs) Bool.false_ne_true
 | str i=>
  obtain ⟨t,rfl⟩:=rx
  cases y with
  | non=>cases ry; exact PySem.EqNone.ne_str_none (zP I q (by simp))
  | bl j=>cases ry; exact PySem.EqMixed.ne_str_bool (zP I q (by simp))
  | int j=>obtain ⟨t',rfl⟩:=ry; exact PySem.EqMixed.ne_str_int (zP I q (by simp))
  | str j=>obtain ⟨t',rfl⟩:=ry; exact ne_str (zP I q (congrArg not zgm))
  | _=>exact absurd (show false=true from hs) Bool.false_ne_true
 | byt i=>
  obtain ⟨t,rfl⟩:=rx
  cases y with
  | byt j=>obtain ⟨t',rfl⟩:=ry; exact PySem.W.ne_bytes (zP I q (congrArg not zgr))
  | _=>exact absurd (show false=true from hs) Bool.false_ne_true
 | _=>cases y <;> exact absurd (show false=true from hs) Bool.false_ne_true
theorem zal:OpR X (compareOp .Lt) (rI0 fun i j=>.bl (decide (i < j))):=ziv fun _ _ _ _ _ _ _ q=>lt_int q
theorem zcd:OpR X (compareOp .Gt) (rI0 fun i j=>.bl (decide (j < i))):=ziv fun _ _ _ _ _ _ _ q=>gt_int q
theorem zcP:OpR X (compareOp .GtE) (rI0 fun i j=>.bl (decide (j<=i))):=ziv fun _ _ _ _ _ _ _ q=>ge_int q
theorem OpR.or {f:Value->Value->Sem Value} {r r':R2} (h:OpR X f r) (h':OpR X f r'):OpR X f (fun x y H Q=>r x y H Q\/r' x y H Q):=by
 intro pins s σ H x y v u Q I rx ry q
 rcases q with q | q
 ·exact h pins s σ H x y v u Q I rx ry q
 ·exact h' pins s σ H x y v u Q I rx ry q
theorem nomark (b:Expr) {op:CmpOp} (h:autoParam (op ≠ .In) Internal.aut1._auto_1) (h2:autoParam (op ≠ .NotIn) Internal.aut1._auto_1):behindInMarks op b=false:=by
 have e1:(op == CmpOp.In)=false:=by cases op <;> first | rfl | exact absurd rfl h
 have e2:(op == CmpOp.NotIn)=false:=by cases op <;> first | rfl | exact absurd rfl h2
 cases b <;> simp [behindInMarks,e1,e2]
theorem zbT {op:CmpOp} {r:R2} (ho:OpR X (compareOp op) r) (ha:PE X a ta) (hb:PE X b tb) (hm:behindInMarks op b=false):PE X (.Compare a [op] [b] pos) (tOp r ta tb):=by
 intro pins s σ H Q I h
 exact wpAny_Compare1 (ziC ha hb I h fun v u s2 x y H2 I2 rx ry q=>ho pins s2 σ H2 x y v u Q I2 rx ry q) hm
noncomputable abbrev zmp (t:TE):TT:=fun σ H Q=>t σ H fun x H'=>∃ k,x=.bl k/\Q k H'
theorem zh {op:CmpOp} {r:R2} (ho:OpR X (compareOp op) r) (ha:PE X a ta) (hb:PE X b tb) (hm:behindInMarks op b=false):PT X (.Compare a [op] [b] pos) (zmp (tOp r ta tb)):=by
 intro pins s σ H Q I h
 refine wpAny_isTrue_Compare1 (thn (ha pins s σ H _ I h) fun v s1 ⟨x,H1,I1,r1,q1⟩=>thn (hb pins s1 σ H1 _ I1 q1) fun u s2 ⟨y,H2,I2,r2,q2⟩=>
  thn (ho pins s2 σ H2 x y v u _ I2 r1 r2 q2) fun c s3 ⟨z,H3,I3,r3,k,e,q3⟩=>?_) hm
 subst e
 cases r3
 exact wpAny_truthy_bool ⟨H3,I3,q3⟩
noncomputable def zgC (K:PySem.W.Frag) (x:V) (H:Hp) (k:Bool):Prop:=
 match x with
 | .non=>k=false
 | .bl b=>k=b
 | .int i=>k=(i != 0)
 | .str y=>y.length<=sizeLine/\k=((y.length:Int) != 0)
 | .byt y=>y.size<=sizeLine/\k=((y.size:Int) != 0)
 | .ref p=>(∃ xs,SqL K H p xs/\k=!xs.isEmpty)\/(∃ xs,SqT K H p xs/\k=!xs.isEmpty)\/∃ kvs,H p=some (.dK kvs)/\k=!kvs.isEmpty
 | _=>False
theorem zhh {κ:Type} {kvs:List (κ × V)} {vs:List (κ × Value)} (r:KV kvs vs):(!vs.isEmpty)=!kvs.isEmpty:=by
 cases r <;> rfl
theorem zeo {xs:List V} {its:List Value} (r:Vals xs its):(!its.toArray.isEmpty)=!xs.isEmpty:=by
 cases r <;> simp
theorem line63:(sizeLine:Nat) < 2 ^ 63:=by rw [sizeLine_eq]; decide
theorem zlS:zmN X (fun x H Q=>∃ k,zgC X.K x H k/\Q k H):=by
 intro pins s σ H x v Q I rx h
 obtain ⟨k,e,q⟩:=h
 have hl:=line63
 have hs:sizeLine=16777216:=sizeLine_eq
 cases x with
 | non=>
  cases rx
  have e':k=false:=e
  subst e'
  exact truthy_none ⟨H,I,q⟩
 | bl b=>
  cases rx
  have e':k=b:=e
  subst e'
  exact wpAny_truthy_bool ⟨H,I,q⟩
 | int i=>
  obtain ⟨t,rfl⟩:=rx
  have e':k=(i != 0):=e
  subst e'
  exact PySem.P.truthy_int ⟨H,I,q⟩
 | str y=>
  obtain ⟨t,rfl⟩:=rx
  obtain ⟨hy,e'⟩:y.length<=sizeLine/\k=((y.length:Int) != 0):=e
  subst e'
  exact PySem.P.truthy_str (by omega) ⟨H,I.tok _,q⟩
 | byt y=>
  obtain ⟨t,rfl⟩:=rx
  obtain ⟨hy,e'⟩:y.size<=sizeLine/\k=((y.size:Int) != 0):=e
  subst e'
  exact PySem.W.truthy_bytes (by omega) ⟨H,I.tok _,q⟩
 | ref p=>
  cases rx
  have e':(∃ xs,SqL X.K H p xs/\k=!xs.isEmpty)\/(∃ xs,SqT X.K H p xs/\k=!xs.isEmpty)\/∃ kvs,H p=some (.dK kvs)/\k=!kvs.isEmpty:=e
  rcases e' with ⟨xs,hx,e'⟩ | ⟨xs,hx,e'⟩ | ⟨kvs,hx,e'⟩
  ·subst e'
   obtain ⟨its,r,pl,hz⟩:=I.list hx
   have hlen:=r.length
   exact wpAny_truthy_list pl.isList (by simp only [List.size_toArray]; omega) ⟨H,I.tok _,by rw [zeo r]; exact q⟩
  ·subst e'
   obtain ⟨its,r,pl,hz⟩:=I.tuple hx
   have hlen:=r.length
   exact truthy_tuple pl (by simp only [List.size_toArray]; omega) ⟨H,I.tok _,by rw [zeo r]; exact q⟩
  ·subst e'
   obtain ⟨hz,hS,vs,r,m⟩:kvs.length<=sizeLine/\(p == sysModules)=false/\∃ vs,KV kvs vs/\s.heap.DictOf (z7 X.prog X.w) p vs:=I.hok p _ hx
   have hlen:kvs.length=vs.length:=Paired.length r
   exact wpAny_truthy_dict hS m (by omega) ⟨H,I.tok _,by rw [zhh r]; exact q⟩
 | _=>exact (show False from e).elim
theorem ziS (ha:PE X a ta) (he:∀ whole,isTrue a X.env whole=(do let v <- whole; standAt a.pos; holding [v] (truthy v))) :
  PT X a (fun σ H Q=>ta σ H fun x H'=>∃ k,zgC X.K x H' k/\Q k H'):=by
 intro pins s σ H Q I h
 exact isTrue_plain (thn (ha pins s σ H _ I h) fun v s1 ⟨x,H1,I1,r1,q1⟩=>zlS pins s1 σ H1 x v Q I1 r1 q1) (he _)
theorem vals1 {x:V} {us:List Value} (r:Vals [x] us):∃ u,us=[u]/\RelV x u:=by
 cases r with
 | cons r1 r2=>cases r2; exact ⟨_,rfl,r1⟩
theorem vals2 {x y:V} {us:List Value} (r:Vals [x,y] us):∃ u w',us=[u,w']/\RelV x u/\RelV y w':=by
 cases r with
 | cons r1 r2=>
  cases r2 with
  | cons r3 r4=>cases r4; exact ⟨_,_,rfl,r1,r3⟩
theorem zih (hc:X.calm=true):CallR X (.builtin "max") (fun xs H Q=>∃ i j,xs=[.int i,.int j]/\Q (.int (if j > i then j else i)) H):=by
 intro pins s σ H xs us Q I r h
 obtain ⟨i,j,rfl,q⟩:=h
 obtain ⟨u,w',rfl,⟨t,rfl⟩,⟨t',rfl⟩⟩:=vals2 r
 refine max_two_ints (I.ok.hd hc) fun h' tk k=>⟨_,H,I.kept k,?_,q⟩
 by_cases hj:j > i
 ·rw [if_pos hj,if_pos hj]; exact ⟨_,rfl⟩
 ·rw [if_neg hj,if_neg hj]; exact ⟨_,rfl⟩
theorem zhW (hc:X.calm=true):CallR X (.builtin "min") (fun xs H Q=>∃ i j,xs=[.int i,.int j]/\Q (.int (if j < i then j else i)) H):=by
 intro pins s σ H xs us Q I r h
 obtain ⟨i,j,rfl,q⟩:=h
 obtain ⟨u,w',rfl,⟨t,rfl⟩,⟨t',rfl⟩⟩:=vals2 r
 refine min_two_ints (I.ok.hd hc) fun h' tk k=>⟨_,H,I.kept k,?_,q⟩
 by_cases hj:j < i
 ·rw [if_pos hj,if_pos hj]; exact ⟨_,rfl⟩
 ·rw [if_neg hj,if_neg hj]; exact ⟨_,rfl⟩
end
end Internal
namespace Internal
open PySem PySem.Spec PyProof.Rows
set_option genInjectivity false in
set_option genSizeOf false in
structure ObjM (h:Heap) (x dx C:Addr) (mA:Str->Option Value):Prop where
 obj:h.get? x=some (PySem.W.instObj C dx)
 ns:h.Ns1 dx mA
 ne:dx ≠ x
theorem zhR {h:Heap} {dx:Addr} {mA:Str->Option Value} (n:h.Ns1 dx mA):∃ od,h.get? dx=some od/\∀ name,PySem.W.lookIn name od=some (mA name):=by
 obtain ⟨o,es,ep,ho,hd,hk,_,hm⟩:=n
 refine ⟨o,ho,fun name=>?_⟩
 have e:=hm name
 unfold nsFind findBy at e
 rw [<- Array.find?_toList] at e
 unfold PySem.W.lookIn
 rw [hd]
 dsimp only
 split
 ·rename_i y q
  rw [q] at e
  exact congrArg some e
 ·rename_i q
  rw [q] at e
  have a:es.toList.any (·.refKey)=false:=by
   rw [List.any_eq_false]
   intro y hy
   obtain ⟨z,t,hkey⟩:=hk y (Array.mem_toList_iff.mp hy)
   simp [DictEntry.refKey,hkey]
  have a':¬ es.toList.any (·.refKey)=true:=by rw [a]; exact Bool.false_ne_true
  rw [if_neg a']
  exact congrArg some e
theorem ObjM.look {h:Heap} {x dx C:Addr} {mA:Str->Option Value} (I:ObjM h x dx C mA):∃ od,PySem.W.InstAt h x (PySem.W.instObj C dx) C (some od)/\∀ name,PySem.W.lookIn name od=some (mA name):=
 let ⟨od,ho,hl⟩:=zhR I.ns
 ⟨od,⟨I.obj,rfl,rfl,ho⟩,hl⟩
section
variable {prog:Program} {w:World} {A:Around} {E:Value->Shared->Prop} {s:Shared} {K:PySem.W.Frag} {x dx C f:Addr} {mA:Str->Option Value} {name:Str} {v:Value}
theorem zj3 {expr:Bool} {Q:Value->Shared->Prop} (X:K.In s.heap) (I:ObjM s.heap x dx C mA) (hg:PySem.W.plainGet K C name=true) (hh:PySem.W.hasDictIn K C=true)
  (ha:PySem.W.findIn K (.ref C) name=some none) (hv:mA name=some v) (hv':PySem.W.handedIn v=true) (h:Q v { s with toks:=s.toks + 1 }) :
  wpAny (model prog w) A (getAttr (.ref x) name expr) Q E s:=by
 obtain ⟨od,J,hl⟩:=I.look
 exact PySem.W.get_value X J (PySem.W.plainGet_of hg).1 (PySem.W.findObj_own hh ha rfl (by rw [hl,hv])) hv' h
theorem zi9 {pl:Sem Bool} {Q:Value × List Value->Shared->Prop} (X:K.In s.heap) (I:ObjM s.heap x dx C mA) (hg:PySem.W.plainGet K C name=true)
  (hf:PySem.W.findIn K (.ref C) name=some (some (.ref f))) (ht:PySem.W.isFn K (.ref f)=true) (hv:mA name=none) (h:Q (.ref f,[.ref x]) s) :
  wpAny (model prog w) A (getMethod (.ref x) name pl) Q E s:=by
 obtain ⟨od,J,hl⟩:=I.look
 exact PySem.W.method_fn X J (PySem.W.plainGet_of hg).1 (PySem.W.plainGet_of hg).2 hf (beq_iff_eq.mp ht) (by show (PySem.W.lookIn name od).map (·.isSome)=some false; rw [hl,hv]; rfl) h
theorem zjN {ns:List Str} {Q:Unit->Shared->Prop} (X:K.In s.heap) (I:ObjM s.heap x dx C mA)
  (hs:PySem.W.findIn K (.ref C) "__setattr__" = some (some (.builtin "object.__setattr__"))) (hp:PySem.W.plainOver K C=true) (ht:PySem.W.takerIn K C name=some none) (hh:PySem.W.hasDictIn K C=true)
  (hw:PySem.Within mA ns) (hsz:ns.length<=sizeLine)
  (h:∀ h',ObjM h' x dx C (fun y=>if y=name then some v else mA y)->Heap.SameBut dx s.heap h'->Q () { s with heap:=h',toks:=s.toks + 2 }) :
  wpAny (model prog w) A (setAttr (.ref x) name v) Q E s:=by
 obtain ⟨od,J,hl⟩:=I.look
 refine PySem.W.set_plain X J hs (PySem.W.osa_open (s:={ s with toks:=s.toks + 1 }) (r:=none) X J hp ht fun b=>?_)
 obtain ⟨cd,hc,hd'⟩:=PySem.W.any_some hh
 have hx:s.heap.get? x=some ⟨.ref C,some dx,.plain,#[]⟩:=I.obj
 refine wpAny_bind (wpAny_pure (wpAny_bind (wpAny_bind (wpAny_loadPart hx (wpAny_bind (PySem.W.Looks.here (s:={ s with toks:=s.toks + 1 }) (PySem.W.looks_clsIn X hc) ?_))))))
 rw [hd']
 refine wpAny_pure (a:=some dx) (wpAny_bind (wpAny_pure (wpAny_bind ?_)))
 refine wpAny_nsSet1 (s:={ s with toks:=s.toks + 1 }) I.ns fun h' hn2 hs2=>?_
 obtain ⟨oD,esD,epD,hoD,hdD,hcD⟩:=hn2.count (PySem.Within.cons name v hw)
 refine wpAny_bind (wpAny_lookBehind hoD (by rw [hdD]; exact pastItsLine_dict (Nat.le_trans hcD (by rw [List.length_cons]; omega))) ?_)
 exact wpAny_pure (h _ ⟨(hs2.2 _ (Ne.symm I.ne)).trans I.obj,hn2,I.ne⟩ hs2)
theorem zjf {R:Result->Shared->Prop} {vs:List Value} {kw:List (Str × Value)} (X:K.In s.heap) (hm:PySem.W.makesIn K C=true)
  (hi:PySem.W.findIn K (.ref C) "__init__" = some (some (.ref f))) (hf:PySem.W.typeIn K (.ref f)=some (.type "function"))
  (h:codeAny (model prog w) (A.under (.builtin "type.__call__" ⟨.ref C :: vs,kw⟩)) (.call (.ref f) ⟨.ref (s.heap.objs.size + 1) :: vs,kw⟩) (PySem.W.InitBack (s.heap.objs.size + 1) R)
   { s with heap:=(s.heap.push PySem.W.emptyDict).push (PySem.W.instObj C s.heap.objs.size) }) :
  codeAny (model prog w) A (.call (.ref C) ⟨vs,kw⟩) R s:=by
 obtain ⟨hh,g,d,t,os⟩:=s
 exact PySem.W.make_core (PySem.W.makes_of X hm) (PySem.W.looks_findIn X hi) (fun self=>PySem.W.bind_fn X self hf) (.inl rfl) h
end
noncomputable def zaC (f:Str) (v:V):List (Str × V)->List (Str × V)
 | []=>[(f,v)]
 | (g,x) :: r=>if g=f then (g,v) :: r else (g,x) :: zaC f v r
theorem zO (f g:Str) (v:V):∀ fs:List (Str × V),(zaC f v fs).lookup g=if g=f then some v else fs.lookup g
 | []=>by
  show List.lookup g [(f,v)]=_
  by_cases h:g=f
  ·have hb:(g == f)=true:=beq_iff_eq.mpr h
   simp only [List.lookup,hb,if_pos h]
  ·have hb:(g == f)=false:=beq_eq_false_iff_ne.mpr h
   simp only [List.lookup,hb,if_neg h]
 | (k,x) :: r=>by
  have ih:=zO f g v r
  rw [show zaC f v ((k,x) :: r)=(if k=f then (k,v) :: r else (k,x) :: zaC f v r) from rfl]
  by_cases hk:k=f
  ·rw [if_pos hk]
   by_cases h:g=k
   ·have hb:(g == k)=true:=beq_iff_eq.mpr h
    simp only [List.lookup,hb,if_pos (h.trans hk)]
   ·have hb:(g == k)=false:=beq_eq_false_iff_ne.mpr h
    simp only [List.lookup,hb,if_neg (fun e:g=f=>h (e.trans hk.symm))]
  ·rw [if_neg hk]
   by_cases h:g=k
   ·have hb:(g == k)=true:=beq_iff_eq.mpr h
    simp only [List.lookup,hb,if_neg (fun e:g=f=>hk (h.symm.trans e))]
   ·have hb:(g == k)=false:=beq_eq_false_iff_ne.mpr h
    simp only [List.lookup,hb]
    exact ih
theorem zdn (f:Str) (v:V):∀ fs:List (Str × V),f ∈ (zaC f v fs).map (·.1)/\∀ g,g ∈ fs.map (·.1)->g ∈ (zaC f v fs).map (·.1)
 | []=>⟨by simp [zaC],fun g h=>by simp at h⟩
 | (k,x) :: r=>by
  obtain ⟨i1,i2⟩:=zdn f v r
  rw [show zaC f v ((k,x) :: r)=(if k=f then (k,v) :: r else (k,x) :: zaC f v r) from rfl]
  by_cases hk:k=f
  ·rw [if_pos hk]
   subst hk
   exact ⟨by simp,fun g h=>by simpa using h⟩
  ·rw [if_neg hk]
   refine ⟨?_,fun g h=>?_⟩
   ·rw [List.map_cons]
    exact List.mem_cons_of_mem _ i1
   ·rw [List.map_cons] at h ⊢
    rcases List.mem_cons.mp h with e | e
    ·exact List.mem_cons.mpr (.inl e)
    ·exact List.mem_cons_of_mem _ (i2 g e)
theorem zbH (f:Str) (v:V):∀ fs:List (Str × V),(zaC f v fs).length<=fs.length + 1
 | []=>by simp [zaC]
 | (k,x) :: r=>by
  have ih:=zbH f v r
  rw [show zaC f v ((k,x) :: r)=(if k=f then (k,v) :: r else (k,x) :: zaC f v r) from rfl]
  by_cases hk:k=f
  ·rw [if_pos hk,List.length_cons,List.length_cons]; omega
  ·rw [if_neg hk,List.length_cons,List.length_cons]; omega
theorem RelO.some_of {v:V} {o:Option Value} (r:RelO (some v) o):∃ u,o=some u/\RelV v u:=by
 cases o with
 | none=>exact (show False from r).elim
 | some u=>exact ⟨u,rfl,r⟩
theorem RelO.none_of {o:Option Value} (r:RelO none o):o=none:=by
 cases o with
 | none=>rfl
 | some u=>exact (show False from r).elim
theorem zhv {v:V} {u:Value} (r:RelV v u):PySem.W.handedIn u=true:=by
 cases v with
 | non=>cases (show u=Value.none from r); rfl
 | bl b=>cases (show u=Value.bool b from r); rfl
 | int i=>obtain ⟨t,e⟩:=(show ∃ t,u=Value.int i t from r); cases e; rfl
 | str x=>obtain ⟨t,e⟩:=(show ∃ t,u=Value.str x t from r); cases e; rfl
 | byt b=>obtain ⟨t,e⟩:=(show ∃ t,u=Value.bytes b t from r); cases e; rfl
 | flt b=>obtain ⟨t,e⟩:=(show ∃ t,u=Value.float b t from r); cases e; rfl
 | ref a=>cases (show u=Value.ref a from r); rfl
 | ty n=>cases (show u=Value.type n from r); rfl
section
variable {P:Program} {w:World} {H H':Hp} {h h':Heap} {a C dx:Addr} {fs fs':List (Str × V)}
theorem zdz (hok:HOk P w H h) (e:H a=some (.ins C dx fs)):∃ mA,ObjM h a dx C mA/\(∀ f,RelO (fs.lookup f) (mA f))/\PySem.Within mA (fs.map (·.1))/\fs.length<=1000/\H dx=some (.own a):=by
 obtain ⟨d,z,ne,ob,mA,n,r,q⟩:=(show ObjOk P w H h a (.ins C dx fs) from hok a _ e)
 exact ⟨mA,⟨ob,n,ne⟩,r,q,z,d⟩
end
set_option genInjectivity false in
set_option genSizeOf false in
structure Cls (K:PySem.W.Frag) (C:Addr):Prop where
 pg:PySem.W.plainGet K C Str.empty=true
 hd:PySem.W.hasDictIn K C=true
 po:PySem.W.plainOver K C=true
 sa:PySem.W.findIn K (.ref C) "__setattr__" = some (some (.builtin "object.__setattr__"))
theorem Cls.get {K:PySem.W.Frag} {C:Addr} (c:Cls K C) (f:Str):PySem.W.plainGet K C f=true:=c.pg
noncomputable def NoAttr (K:PySem.W.Frag) (C:Addr) (f:Str):Prop:=PySem.W.findIn K (.ref C) f=some none
theorem NoAttr.taker {K:PySem.W.Frag} {C:Addr} {f:Str} (n:NoAttr K C f):PySem.W.takerIn K C f=some none:=by
 unfold PySem.W.takerIn
 rw [show PySem.W.findIn K (.ref C) f=some none from n]
 rfl
set_option genInjectivity false in
set_option genSizeOf false in
structure Con (K:PySem.W.Frag) (C:Addr) (f:Str) (v:V) (u:Value):Prop where
 at_:PySem.W.findIn K (.ref C) f=some (some u)
 rel:RelV v u
 get:PySem.W.specialIn K u "__get__" = some none
 cp:PySem.W.copiedNames.contains f=false
set_option genInjectivity false in
set_option genSizeOf false in
structure Meth (K:PySem.W.Frag) (C:Addr) (m:Str) (f:Addr):Prop where
 at_:PySem.W.findIn K (.ref C) m=some (some (.ref f))
 fn:PySem.W.isFn K (.ref f)=true
 kp:PySem.W.keepIn K (.ref f)=true
section
variable {X:Cx} {pins:List (Addr × Obj)} {σ:St} {H:Hp} {s:Shared} {a C dx:Addr} {fs:List (Str × V)} {f:Str} {v:V} {A:Around} {E:Value->Shared->Prop}
theorem zer {b:Bool} {Q:Value->Shared->Prop} (I:Inv X pins σ H s) (e:H a=some (.ins C dx fs)) (c:Cls X.K C) (n:NoAttr X.K C f) (l:fs.lookup f=some v)
  (h:∀ u s',Inv X pins σ H s'->RelV v u->Q u s'):wpAny (model X.prog X.w) A (getAttr (.ref a) f b) Q E s:=by
 obtain ⟨mA,O,r,_,_,_⟩:=zdz I.hok e
 obtain ⟨u,hu,ru⟩:=RelO.some_of (v:=v) (o:=mA f) (by rw [<- l]; exact r f)
 exact zj3 I.kIn O (c.get f) c.hd n hu (zhv ru) (h u _ (I.tok _) ru)
theorem zet {m:Str} {g:Addr} {pl:Sem Bool} {Q:Value × List Value->Shared->Prop} (I:Inv X pins σ H s) (e:H a=some (.ins C dx fs)) (c:Cls X.K C) (k:Meth X.K C m g) (l:fs.lookup m=none)
  (h:Q (.ref g,[.ref a]) s):wpAny (model X.prog X.w) A (getMethod (.ref a) m pl) Q E s:=by
 obtain ⟨mA,O,r,_,_,_⟩:=zdz I.hok e
 have hn:mA m=none:=RelO.none_of (by rw [<- l]; exact r m)
 exact zi9 I.kIn O (c.get m) k.at_ k.fn hn h
theorem zen {y:V} {u:Value} {Q:Unit->Shared->Prop} (I:Inv X pins σ H s) (e:H a=some (.ins C dx fs)) (c:Cls X.K C) (n:NoAttr X.K C f) (hl:fs.length < 1000) (ry:RelV y u)
  (h:∀ s',Inv X pins σ (upd H a (.ins C dx (zaC f y fs))) s'->Q () s'):wpAny (model X.prog X.w) A (setAttr (.ref a) f u) Q E s:=by
 obtain ⟨mA,O,r,wi,_,ho⟩:=zdz I.hok e
 have hz:(fs.map (·.1)).length<=sizeLine:=by rw [List.length_map,sizeLine_eq]; omega
 refine zjN I.kIn O c.sa c.po n.taker c.hd wi hz fun h' O' sb=>h _ ?_
 have hd:∃ o,h'.get? dx=some o:=let ⟨o,_,_,e',_⟩:=O'.ns; ⟨o,e'⟩
 refine I.write (x:=a) (e:=dx) (by rw [e]; exact True.intro) (.inr ho) (fun b q hb z=>(sb.2 b hb).trans z) hd ?_
 refine ⟨by rw [zG O.ne]; exact ho,?_,O.ne,O'.obj,_,O'.ns,fun g=>?_,fun g hg=>?_⟩
 ·have:=zbH f y fs; omega
 ·show RelO ((zaC f y fs).lookup g) (if g=f then some u else mA g)
  rw [zO]
  by_cases q:g=f
  ·rw [if_pos q,if_pos q]; exact ry
  ·rw [if_neg q,if_neg q]; exact r g
 ·by_cases q:g=f
  ·rw [q]; exact (zdn f y fs).1
  ·refine (zdn f y fs).2 g (wi g fun z=>hg ?_)
   show (if g=f then some u else mA g)=none
   rw [if_neg q]; exact z
theorem Inv.made (I:Inv X pins σ H s):Inv X pins σ (upd (upd H s.heap.objs.size (.own (s.heap.objs.size + 1))) (s.heap.objs.size + 1) (.ins C s.heap.objs.size []))
  { s with heap:=(s.heap.push PySem.W.emptyDict).push (PySem.W.instObj C s.heap.objs.size) }:=by
 have e1:(s.heap.push PySem.W.emptyDict).get? s.heap.objs.size=some PySem.W.emptyDict:=Heap.get?_push_size s.heap rfl
 have e2:((s.heap.push PySem.W.emptyDict).push (PySem.W.instObj C s.heap.objs.size)).get? (s.heap.objs.size + 1)=some (PySem.W.instObj C s.heap.objs.size):=by
  have:=Heap.get?_push_size (s.heap.push PySem.W.emptyDict) (o:=PySem.W.instObj C s.heap.objs.size) rfl
  rwa [Heap.size_push] at this
 have e3:(s.heap.push PySem.W.emptyDict).Ns s.heap.objs.size (fun _=>none):=⟨PySem.W.emptyDict,#[],_,e1,rfl,(fun e he=>absurd he (by simp)),fun _=>rfl⟩
 have I1:=I.laid (a:=s.heap.objs.size) (o:=.own (s.heap.objs.size + 1)) (h':=s.heap.push PySem.W.emptyDict) (t':=s.toks) (fun b u q=>Heap.get?_push_of_some _ q) (Nat.le_refl _) ⟨_,e1⟩
 refine I1.laid (a:=s.heap.objs.size + 1) (o:=.ins C s.heap.objs.size []) (t':=s.toks) (fun b u q=>Heap.get?_push_of_some _ q) (Nat.le_of_eq (Heap.size_push _ _)) ?_
 have ne:s.heap.objs.size ≠ s.heap.objs.size + 1:=Nat.ne_of_lt (Nat.lt_succ_self _)
 refine ⟨by rw [zG ne,zK],Nat.zero_le _,ne,e2,fun _=>none,(Heap.Ns1.of_empty e3).at fun o q=>Heap.get?_push_of_some _ q,fun _=>True.intro,fun y hy=>absurd rfl hy⟩
theorem zjV {prog:Program} {w:World} {env:Env} {e:Expr} {f:Str} {pos:Pos} {s:Shared} {Q:Value->Shared->Prop} (hb:attributeBase e f env (eval e env)=eval e env)
  (h:wpAny (model prog w) A (eval e env) (fun o s₁=>wpAny (model prog w) A (getAttr o f true) Q E s₁) E s):wpAny (model prog w) A (eval (.Attribute e f pos) env) Q E s:=
 Attribute_any_ h (by rw [arm_eval_Attribute,hb])
end
noncomputable def za3 (K:PySem.W.Frag) (ta:TE) (f:Str):TE:=fun σ H Q=>ta σ H fun x H1=>∃ a C dx fs v,x=.ref a/\H1 a=some (.ins C dx fs)/\Cls K C/\NoAttr K C f/\fs.lookup f=some v/\Q v H1
noncomputable def zeF (K:PySem.W.Frag) (ta tv:TE) (f:Str):TS:=fun D σ H=>tv σ H fun y H1=>ta σ H1 fun x H2=>∃ a C dx fs,x=.ref a/\H2 a=some (.ins C dx fs)/\Cls K C/\NoAttr K C f/\fs.length < 1000 /\
 D.nx σ (upd H2 a (.ins C dx (zaC f y fs)))
noncomputable def zlu (X:Cx) (op:Operator) (rd:V->V->Hp->VK->Prop):Prop:=
 ∀ (pins:List (Addr × Obj)) (s:Shared) (σ:St) (H:Hp) (x y:V) (u v:Value) (Q:VK),Inv X pins σ H s->RelV x u->RelV y v->rd x y H Q->wpAny (model X.prog X.w) X.A (inplaceOp op u v) (EP X pins σ Q) X.xe s
noncomputable def zeJ (K:PySem.W.Frag) (ta tv:TE) (rd:V->V->Hp->VK->Prop) (f:Str):TS:=fun D σ H=>ta σ H fun x H1=>∃ a C dx fs v,x=.ref a/\H1 a=some (.ins C dx fs)/\Cls K C/\NoAttr K C f/\fs.lookup f=some v /\
 tv σ H1 fun y H2=>rd v y H2 fun z H3=>∃ dx' fs',H3 a=some (.ins C dx' fs')/\fs'.length < 1000/\D.nx σ (upd H3 a (.ins C dx' (zaC f z fs')))
section
variable {X:Cx} {o e value:Expr} {f:Str} {pos pos' tpos:Pos} {ta tv:TE}
theorem zaj (he:PE X e ta) (hb:attributeBase e f X.env (eval e X.env)=eval e X.env):PE X (.Attribute e f pos) (za3 X.K ta f):=by
 intro pins s σ H Q I h
 refine zjV hb (thn (he pins s σ H _ I h) fun u s1 zz=>?_)
 obtain ⟨x,H1,I1,rx,a,C,dx,fs,v,ex,ea,c,n,l,q⟩:=zz
 subst ex
 obtain rfl:u=Value.ref a:=rx
 exact zer I1 ea c n l fun u' s2 I2 ru=>⟨v,H1,I2,ru,q⟩
theorem zep (ha:PE X o ta) (hv:PE X value tv) (hs:swapsWith value (some (.Attribute o f pos')) pos.line X.env=pure false):PS X (.Assign [.Attribute o f pos'] value pos) (zeF X.K ta tv f):=by
 intro pins s σ H D I h
 refine plainObj_wpAny_Assign_Attribute (thn (hv pins s σ H _ I h) fun u s1 ⟨y,H1,I1,ry,q⟩=>thn (ha pins s1 σ H1 _ I1 q) fun ov s2 zz=>?_) hs
 obtain ⟨x,H2,I2,rx,a,C,dx,fs,ex,ea,c,n,l,q2⟩:=zz
 subst ex
 obtain rfl:ov=Value.ref a:=rx
 exact zen I2 ea c n l ry fun s3 I3=>⟨σ,_,I3,q2⟩
theorem zhz {op:Operator} {rd:V->V->Hp->VK->Prop} (ha:PE X o ta) (hv:PE X value tv) (hop:zlu X op rd):PS X (.AugAssign (.Attribute o f tpos) op value pos) (zeJ X.K ta tv rd f):=by
 intro pins s σ H D I h
 refine wpAny_AugAssign_AttributeAny (thn (ha pins s σ H _ I h) fun ov s1 zz=>?_)
 obtain ⟨x,H1,I1,rx,a,C,dx,fs,v,ex,ea,c,n,l,q⟩:=zz
 subst ex
 obtain rfl:ov=Value.ref a:=rx
 refine zer I1 ea c n l fun u s2 I2 ru=>thn (hv pins s2 σ H1 _ I2 q) fun w3 s3 ⟨y,H2,I3,ry,q3⟩=>thn (hop pins s3 σ H2 v y u w3 _ I3 ru ry q3) fun w4 s4 zz=>?_
 obtain ⟨z,H3,I4,rz,dx',fs',ea',l',q4⟩:=zz
 exact zen I4 ea' c n l' rz fun s5 I5=>⟨σ,_,I5,q4⟩
noncomputable def zmD:V->V->Hp->VK->Prop:=fun x y H Q=>∃ i j,x=.int i/\y=.int j/\Q (.int (i + j)) H
theorem zlM:zlu X .Add zmD:=by
 rintro pins s σ H x y u v Q I rx ry ⟨i,j,rfl,rfl,q⟩
 obtain ⟨t,rfl⟩:=(show ∃ t,u=Value.int i t from rx)
 obtain ⟨t',rfl⟩:=(show ∃ t',v=Value.int j t' from ry)
 exact PyProof.Rows.iadd_int ⟨.int (i + j),H,I.tok _,⟨_,rfl⟩,q⟩
end
section
variable {X:Cx} {pins:List (Addr × Obj)} {σ:St} {H:Hp} {s:Shared} {A:Around} {E:Value->Shared->Prop} {Q:Value->Shared->Prop} {c:Value} {b:Bool}
inductive TyOf (K:PySem.W.Frag) (H:Hp):V->Value->Prop where
 | non:TyOf K H .non (.type "NoneType")
 | bl (x:Bool):TyOf K H (.bl x) (.type "bool")
 | int (i:Int):TyOf K H (.int i) (.type "int")
 | str (x:Str):TyOf K H (.str x) (.type "str")
 | flt (x:UInt64):TyOf K H (.flt x) (.type "float")
 | lst {a:Addr} {xs:List V} (e:H a=some (.lst xs)):TyOf K H (.ref a) (.type "list")
 | frz {a:Addr} {o:Obj} {xs:List V} (e:H a=some (.frz o (.lst xs))):TyOf K H (.ref a) (.type "list")
 | tup {a:Addr} {xs:List V} (e:H a=some (.tup xs)):TyOf K H (.ref a) (.type "tuple")
 | dK {a:Addr} {kvs:List (Key × V)} (e:H a=some (.dK kvs)):TyOf K H (.ref a) (.type "dict")
 | dT {a:Addr} {kvs:List (List Key × V)} (e:H a=some (.dT kvs)):TyOf K H (.ref a) (.type "dict")
 | ins {a C dx:Addr} {fs:List (Str × V)} (e:H a=some (.ins C dx fs)) (cl:Cls K C) (ha:PySem.W.findIn K (.ref C) "__class__" = some (some (.builtin "object.__class__")))
   (hn:PySem.W.specialIn K (.builtin "object.__class__") "__get__" = some (some (.builtin "getset_descriptor.__get__"))) (htk:PySem.W.takesIn K (.builtin "object.__class__")=some true)
   (hm:PySem.W.mroIn K C (.type "object")=some true):TyOf K H (.ref a) (.ref C)
theorem zhV {x:V} {u t:Value} (I:Inv X pins σ H s) (rx:RelV x u) (ty:TyOf X.K H x t) (e:PySem.W.kitOne X.K t c=some b) (h:∀ tk,Q (.bool b) { s with toks:=tk }) :
  wpAny (model X.prog X.w) A (call (.builtin "isinstance") [u,c]) Q E s:=by
 cases ty with
 | non=>cases (show u=Value.none from rx); exact PySem.W.kia_one PySem.W.kitx_none I.kIn True.intro e (fun z=>nomatch z) h
 | bl y=>cases (show u=Value.bool y from rx); exact PySem.W.kia_one PySem.W.kitx_bool I.kIn True.intro e (fun z=>nomatch z) h
 | int i=>obtain ⟨t,q⟩:=(show ∃ t,u=Value.int i t from rx); cases q; exact PySem.W.kia_one PySem.W.kitx_int I.kIn True.intro e (fun z=>nomatch z) h
 | str y=>obtain ⟨t,q⟩:=(show ∃ t,u=Value.str y t from rx); cases q; exact PySem.W.kia_one PySem.W.kitx_str I.kIn True.intro e (fun z=>nomatch z) h
 | flt y=>obtain ⟨t,q⟩:=(show ∃ t,u=Value.float y t from rx); cases q; exact PySem.W.kia_one PySem.W.kitx_float I.kIn True.intro e (fun z=>nomatch z) h
 | @lst a xs ea=>
  cases (show u=Value.ref a from rx)
  obtain ⟨_,_,n,_,h1⟩:=(show ObjOk X.prog X.w H s.heap a (.lst xs) from I.hok a _ ea)
  exact PySem.W.kia_one PySem.W.kitx_list I.kIn ⟨_,h1,rfl⟩ e (fun z=>nomatch z) h
 | @frz a ob xs ea=>
  cases (show u=Value.ref a from rx)
  obtain ⟨_,_,_,n,_,h1⟩:=(show ObjOk X.prog X.w H s.heap a (.frz ob (.lst xs)) from I.hok a _ ea)
  exact PySem.W.kia_one PySem.W.kitx_list I.kIn ⟨_,h1,rfl⟩ e (fun z=>nomatch z) h
 | @tup a xs ea=>
  cases (show u=Value.ref a from rx)
  obtain ⟨_,_,_,p⟩:=(show ObjOk X.prog X.w H s.heap a (.tup xs) from I.hok a _ ea)
  obtain ⟨o,h1,h2,_⟩:=p
  exact PySem.W.kia_one PySem.W.kitx_tuple I.kIn ⟨o,h1,h2⟩ e (fun z=>nomatch z) h
 | @dK a kvs ea=>
  cases (show u=Value.ref a from rx)
  obtain ⟨_,_,vs,_,p⟩:=(show ObjOk X.prog X.w H s.heap a (.dK kvs) from I.hok a _ ea)
  obtain ⟨o,es,ep,h1,h2,_⟩:=p
  exact PySem.W.kia_one PySem.W.kitx_dict I.kIn ⟨o,h1,h2.1⟩ e (fun z=>nomatch z) h
 | @dT a kvs ea=>
  cases (show u=Value.ref a from rx)
  obtain ⟨_,_,xs,_,o,es,ep,h1,h2,_⟩:=(show ObjOk X.prog X.w H s.heap a (.dT kvs) from I.hok a _ ea)
  exact PySem.W.kia_one PySem.W.kitx_dict I.kIn ⟨o,h1,h2.1⟩ e (fun z=>nomatch z) h
 | @ins a C dx fs ea cl ha hn htk hm=>
  cases (show u=Value.ref a from rx)
  obtain ⟨mA,O,_⟩:=zdz I.hok ea
  obtain ⟨od,J,_⟩:=O.look
  exact PySem.W.kia_one (PySem.W.kitx_own (cl.get _) cl.hd ha hn htk hm) I.kIn J e (fun z=>nomatch z) h
end
end Internal
namespace Internal
open PySem PySem.Spec PyProof.Rows
set_option genInjectivity false in
set_option genSizeOf false in
structure Room (k:Nat) (A:Around):Prop where
 hd:A.handled=none
 dp:A.depth + 3 * k + 5 < recursionLimit
 un:A.units + 16 * k + 200 < cLine
theorem Room.mono {j k:Nat} {A:Around} (r:Room k A) (h:j<=k):Room j A:=⟨r.hd,by have:=r.dp; omega,by have:=r.un; omega⟩
theorem Room.deeper {k:Nat} {A:Around} (r:Room (k + 1) A) (env:Env):Room k (A.deeper env):=
 ⟨r.hd,by have:=r.dp; show A.depth + 1 + 3 * k + 5 < _; omega,by have:=r.un; show A.units + 3 + 16 * k + 200 < _; omega⟩
theorem zgN {A:Around} {C:Addr} {us:List Value} {kw:List (Str × Value)}:(A.under (.builtin "type.__call__" ⟨.ref C :: us,kw⟩)).depth=A.depth + 1:=by
 first | rfl | simp [Around.under,Code.weight,Code.isCreation,Code.isGuard,Code.isCaller,Code.frames,Code.isFrame,guardIds]
theorem zg1 {A:Around} {C:Addr} {us:List Value} {kw:List (Str × Value)}:(A.under (.builtin "type.__call__" ⟨.ref C :: us,kw⟩)).units=A.units + 1:=by
 first | rfl | simp [Around.under,Code.cUnits,Code.frames,Code.isFrame]
theorem Room.make {k:Nat} {A:Around} (r:Room (k + 1) A) (C:Addr) (us:List Value) (kw:List (Str × Value)):Room k (A.under (.builtin "type.__call__" ⟨.ref C :: us,kw⟩)):=
 ⟨r.hd,by have:=r.dp; rw [zgN]; omega,by have:=r.un; rw [zg1]; omega⟩
theorem Room.depth {k:Nat} {A:Around} (r:Room k A):A.depth < recursionLimit:=by have:=r.dp; omega
theorem Room.units {k:Nat} {A:Around} (r:Room k A):A.units + 64 < cLine:=by have:=r.un; omega
noncomputable abbrev ziy:TA:=fun _ H Q=>Q [] H
noncomputable abbrev zlZ (ta:TE) (tr:TA):TA:=fun σ H Q=>ta σ H fun x H1=>tr σ H1 fun xs H2=>Q (x :: xs) H2
section
variable {X:Cx} {e:Expr} {es:List Expr} {te:TE} {t:TA} {pos:Pos}
theorem zc:PA X [] ziy:=fun _ _ _ _ H Q I h=>Calls.spliced_nil ⟨[],H,I,.nil,h⟩
theorem za (ha:PE X e te) (hr:PA X es t) (hs:autoParam (starEach (e :: es) X.env=(false,eval e X.env) :: starEach es X.env) Internal.aut2._auto_1):PA X (e :: es) (zlZ te t):=by
 intro pos pins s σ H Q I h
 rw [hs]
 show wpAny _ _ (spliced ((false,eval e X.env) :: backTo pos (starEach es X.env))) _ _ s
 refine Calls.spliced_cons (thn (ha pins s σ H _ I h) fun u s1 zz=>?_)
 obtain ⟨x,H1,I1,r1,q1⟩:=zz
 exact thn (hr pos pins s1 σ H1 _ I1 q1) fun us s2 ⟨xs,H2,I2,r2,q2⟩=>⟨x :: xs,H2,I2,.cons r1 r2,q2⟩
noncomputable def zkT (t:TA):TE:=fun σ H Q=>t σ H fun xs H1=>xs.length<=sizeLine/\∀ p,H1 p=none->Q (.ref p) (upd H1 p (.tup xs))
noncomputable def zk8 (t:TA):TE:=fun σ H Q=>t σ H fun xs H1=>xs.length<=sizeLine/\∀ p,H1 p=none->Q (.ref p) (upd H1 p (.lst xs))
theorem zQ {x1} (h:PA X es t):PE X (.Tuple es x1 pos) (zkT t):=by
 intro pins s σ H Q I hq
 refine wpAny_Tuple_spliced (thn (h pos pins s σ H _ I hq) fun us s1 ⟨xs,H1,I1,r,z,q⟩=>⟨by rw [<- r.length]; exact z,?_⟩)
 have hf:H1 s1.heap.objs.size=none:=I1.hok.fresh (Nat.le_refl _)
 refine ⟨.ref s1.heap.objs.size,upd H1 s1.heap.objs.size (.tup xs),I1.laid (t':=s1.toks) (fun b u e=>Heap.get?_push_of_some _ e) (Nat.le_refl _) ?_,rfl,q _ hf⟩
 exact ⟨z,us,r,⟨_,Heap.get?_push_size _ rfl,rfl,_,rfl⟩⟩
theorem zas (h:PA X es t):PE X (.List es pos) (zk8 t):=by
 intro pins s σ H Q I hq
 refine wpAny_List_spliced (thn (h pos pins s σ H _ I hq) fun us s1 ⟨xs,H1,I1,r,z,q⟩=>⟨by rw [<- r.length]; exact z,?_⟩)
 have hf:H1 s1.heap.objs.size=none:=I1.hok.fresh (Nat.le_refl _)
 refine ⟨.ref s1.heap.objs.size,upd H1 s1.heap.objs.size (.lst xs),I1.laid (t':=s1.toks) (fun b u e=>Heap.get?_push_of_some _ e) (Nat.le_refl _) ?_,rfl,q _ hf⟩
 exact ⟨z,us,0,r,Heap.get?_push_size _ rfl⟩
end
noncomputable abbrev Sp:=List V->Hp->VK->XK->Prop
noncomputable abbrev CXT:=List Env->Hp->Shared->XK->Value->Shared->Prop
set_option genInjectivity false in
set_option genSizeOf false in
structure Env0 (P:Program) (w:World) (K:PySem.W.Frag) (mg:Str->Option Value) (base:Heap) (A:Around) (outer:List Env) (s:Shared) (H:Hp):Prop where
 frames:A.frames=some outer
 mod:Mod K mg base
 bs:∀ b o,base.get? b=some o->s.heap.get? b=some o/\H b=none
 bsz:base.objs.size<=s.heap.objs.size
 funs:s.heap.FunFrames base outer
 frf:∀ b ∈ frs outer,H b=none
 hok:HOk P w H s.heap
 bare:AllBare s.gens
noncomputable def CE (outer:List Env) (P:Program) (w:World) (H:Hp) (s:Shared) (Q:VK) (u:Value) (s':Shared):Prop:=
 ∃ v H',s'.os=s.os/\AllBare s'.gens/\Un (frs outer) [] H H' s.heap s'.heap/\HOk P w H' s'.heap/\RelV v u/\Q v H'
noncomputable def CR (CX:CXT) (outer:List Env) (P:Program) (w:World) (H:Hp) (s:Shared) (Q:VK) (E:XK) (r:Result) (s':Shared):Prop:=
 match r with
 | .ok (.ret u)=>CE outer P w H s Q u s'
 | .ok _=>False
 | .error e=>CX outer H s E e s'
set_option genInjectivity false in
set_option genSizeOf false in
structure FnOk (P:Program) (w:World) (K:PySem.W.Frag) (mg:Str->Option Value) (base:Heap) (CX:CXT) (k:Nat) (f:Addr) (fd:FuncData) (ps:List Str) (sp:Sp):Prop where
 len:∀ vs H Q E,sp vs H Q E->vs.length=ps.length
 run:∀ (A:Around) (outer:List Env) (s:Shared) (H:Hp) (args:Args) (us:List Value) (vs:List V) (Q:VK) (E:XK),Room k A->Env0 P w K mg base A outer s H->BindsTo s fd args (ps.zip us)->Vals vs us->sp vs H Q E ->
  codeAny (model P w) A (.call (.ref f) args) (CR CX outer P w H s Q E) s
theorem Env0.make {P:Program} {w:World} {K:PySem.W.Frag} {mg:Str->Option Value} {base:Heap} {A:Around} {outer:List Env} {s:Shared} {H:Hp} (e:Env0 P w K mg base A outer s H) (C:Addr) (us:List Value) (kw:List (Str × Value)) :
  Env0 P w K mg base (A.under (.builtin "type.__call__" ⟨.ref C :: us,kw⟩)) outer s H:=⟨by first | exact e.frames | (simpa [Around.under,Code.envs,Code.isFrame,pushEnvs] using e.frames),e.mod,e.bs,e.bsz,e.funs,e.frf,e.hok,e.bare⟩
section
variable {X:Cx} {pins:List (Addr × Obj)} {σ:St} {H:Hp} {s s':Shared}
theorem Inv.env0 (I:Inv X pins σ H s):Env0 X.prog X.w X.K X.mg X.base X.A X.stack s H:=
 ⟨I.ok.frames,I.ok.mod,I.bs,Nat.le_trans I.ok.bsz I.sz,I.stack,I.stkFree,I.hok,I.bare⟩
theorem Inv.after {Q:VK} {u:Value} (I:Inv X pins σ H s) (h:CE X.stack X.prog X.w H s Q u s'):EP X pins σ Q u s':=by
 obtain ⟨v,H',os,bare,un,hok,r,q⟩:=h
 obtain ⟨hh,g,d,t,os'⟩:=s'
 obtain rfl:os'=s.os:=os
 exact ⟨v,H',I.call (h':=hh) (g':=g) (d':=d) (t':=t) (ch:=[]) un hok bare (fun b z=>absurd z (by simp)),r,q⟩
end
noncomputable def zd8 (sp:Sp) (dvs:List V) (E:XK) (t:TA):TE:=fun σ H Q=>t σ H fun vs H1=>sp (vs ++ dvs) H1 Q E
noncomputable def zhe (C:Addr) (m:Str) (sp:Sp) (dvs:List V) (E:XK) (ta:TE) (t:TA):TE:=fun σ H Q=>ta σ H fun x H1=>∃ a dx fs,x=.ref a/\H1 a=some (.ins C dx fs)/\fs.lookup m=none /\
 t σ H1 fun vs H2=>sp (x :: (vs ++ dvs)) H2 Q E
noncomputable def zjl (C:Addr) (sp:Sp) (dvs:List V) (E:XK) (t:TA):TE:=fun σ H Q=>t σ H fun vs H1=>∀ x dx,H1 x=none->H1 dx=none->dx ≠ x ->
 sp (.ref x :: (vs ++ dvs)) (upd (upd H1 dx (.own x)) x (.ins C dx [])) (fun v H2=>v=.non/\Q (.ref x) H2) E
noncomputable def Binds (K:PySem.W.Frag) (fd:FuncData) (ps:List Str) (ds:List Value):Prop:=
 ∀ (s:Shared) (us:List Value),K.In s.heap->(us ++ ds).length=ps.length->BindsTo s fd ⟨us,[]⟩ (ps.zip (us ++ ds))
theorem Binds.all {K:PySem.W.Frag} {fd:FuncData} {ps:List Str} (h:∀ us:List Value,us.length=ps.length->bindArgs fd ⟨us,[]⟩=pure (ps.zip us)):Binds K fd ps []:=fun s us _ hl=>by
 rw [List.append_nil] at hl ⊢
 exact .of_eq (h us hl)
noncomputable def zcf (CX:CXT) (X:Cx) (E:XK):Prop:=∀ (pins:List (Addr × Obj)) (σ:St) (H:Hp) (s:Shared) (e:Value) (s':Shared),Inv X pins σ H s->CX X.stack H s E e s'->X.xe e s'
section
variable {X:Cx} {CX:CXT} {k:Nat} {f C:Addr} {fd:FuncData} {ps:List Str} {sp:Sp} {dvs:List V} {ds:List Value} {E:XK} {x m:Str} {p pos apos:Pos} {e o:Expr} {es:List Expr} {ta:TE} {t:TA}
theorem zfT {pins:List (Addr × Obj)} {σ:St} {H:Hp} {s:Shared} {Q:VK} {us:List Value} {vs:List V} (F:FnOk X.prog X.w X.K X.mg X.base CX k f fd ps sp) (hr:Room k X.A) (hb:Binds X.K fd ps ds) (hd:Vals dvs ds) (hx:zcf CX X E)
  (I:Inv X pins σ H s) (r:Vals vs us) (h:sp (vs ++ dvs) H Q E):wpAny (model X.prog X.w) X.A (call (.ref f) us) (EP X pins σ Q) X.xe s:=by
 have r2:Vals (vs ++ dvs) (us ++ ds):=r.append hd
 have hl:(us ++ ds).length=ps.length:=by rw [<- r2.length]; exact F.len _ _ _ _ h
 refine wpAny_call (codeAny_mono (F.run X.A X.stack s H ⟨us,[]⟩ (us ++ ds) (vs ++ dvs) Q E hr I.env0 (hb s us I.kIn hl) r2 h) fun r s' hq=>?_)
 cases r with
 | error e=>exact hx pins σ H s e s' I hq
 | ok fl=>
  cases fl with
  | ret u=>exact I.after hq
  | next=>exact False.elim hq
  | brk=>exact False.elim hq
  | cont=>exact False.elim hq
theorem zw (F:FnOk X.prog X.w X.K X.mg X.base CX k f fd ps sp) (hr:Room k X.A) (hg:Gl X x) (hm:X.mg x=some (.ref f)) (hk:PySem.W.keepIn X.K (.ref f)=true) (hb:Binds X.K fd ps ds) (hd:Vals dvs ds) (hx:zcf CX X E)
  (ha:PA X (e :: es) t) (hdb:autoParam ((x == ("__debug__" : Str))=false) Internal.aut1._auto_1) (he:autoParam (starEach (e :: es) X.env=(false,eval e X.env) :: starEach es X.env) Internal.aut2._auto_1) (hpl:autoParam ((backTo pos (starEach es X.env)).any (·.1)=false) Internal.aut2._auto_1) :
  PE X (.Call (.Name x p) (e :: es) [] pos) (zd8 sp dvs E t):=by
 intro pins s σ H Q I h
 refine wpAny_Call_Name_kw (zb7 I hg hm ?_ hdb)
 refine PySem.W.callWith_K (h₀:=X.base) I.ok.mod.kin hk (thn (ha pos pins s σ H _ I h) fun us s1 ⟨vs,H1,I1,r,q⟩=>⟨I1.kIn,?_⟩) he hpl
 exact zfT F hr hb hd hx I1 r q
theorem zV {pl:Sem Bool} (he:PE X o ta) (c:Cls X.K C) (hm:Meth X.K C m f) (F:FnOk X.prog X.w X.K X.mg X.base CX k f fd ps sp) (hr:Room k X.A) (hb:Binds X.K fd ps ds) (hd:Vals dvs ds) (hx:zcf CX X E) (ha:PA X (e :: es) t)
  (hst:autoParam (starEach (e :: es) X.env=(false,eval e X.env) :: starEach es X.env) Internal.aut2._auto_1) (hpl:autoParam ((backTo pos (starEach es X.env)).any (·.1)=false) Internal.aut2._auto_1)
  (ht:autoParam (eval (.Call (.Attribute o m apos) (e :: es) [] pos) X.env=(do
   let ov <- eval o X.env
   standAt apos.atName
   let (f,first) <- holding [ov] (getMethod ov m pl)
   callWith pos f first (backTo pos (starEach (e :: es) X.env)) (backToKw pos (keywordEach [] X.env)))) Internal.aut2._auto_1) :
  PE X (.Call (.Attribute o m apos) (e :: es) [] pos) (zhe C m sp dvs E ta t):=by
 intro pins s σ H Q I h
 refine PySem.W.methodCall_KW (pl:=pl) (thn (he pins s σ H _ I h) fun u s1 zz=>?_) ht
 obtain ⟨x,H1,I1,rx,a,dx,fs,ex,ea,l,q⟩:=zz
 subst ex
 obtain rfl:u=Value.ref a:=rx
 refine zet I1 ea c hm l ?_
 refine PySem.W.callWith_K (first:=[.ref a]) (h₀:=X.base) I.ok.mod.kin hm.kp (thn (ha pos pins s1 σ H1 _ I1 q) fun us s2 ⟨vs,H2,I2,r,q2⟩=>⟨I2.kIn,?_⟩) hst hpl
 exact zfT (us:=.ref a :: us) (vs:=.ref a :: vs) F hr hb hd hx I2 (.cons rfl r) q2
theorem zd5 {pl:Sem Bool} (he:PE X o ta) (c:Cls X.K C) (hm:Meth X.K C m f) (F:FnOk X.prog X.w X.K X.mg X.base CX k f fd ps sp) (hr:Room k X.A) (hb:Binds X.K fd ps ds) (hd:Vals dvs ds) (hx:zcf CX X E)
  (ht:autoParam (eval (.Call (.Attribute o m apos) [] [] pos) X.env=(do
   let ov <- eval o X.env
   standAt apos.atName
   let (f,first) <- holding [ov] (getMethod ov m pl)
   callWith pos f first (backTo pos (starEach [] X.env)) (backToKw pos (keywordEach [] X.env)))) Internal.aut2._auto_1) :
  PE X (.Call (.Attribute o m apos) [] [] pos) (zhe C m sp dvs E ta ziy):=by
 intro pins s σ H Q I h
 refine PySem.W.methodCall_KW (pl:=pl) (thn (he pins s σ H _ I h) fun u s1 zz=>?_) ht
 obtain ⟨x,H1,I1,rx,a,dx,fs,ex,ea,l,q⟩:=zz
 subst ex
 obtain rfl:u=Value.ref a:=rx
 refine zet I1 ea c hm l ?_
 exact PySem.W.callWith_K0 (first:=[.ref a]) I1.kIn hm.kp (zfT (us:=[.ref a]) (vs:=[.ref a]) F hr hb hd hx I1 (.cons rfl .nil) q)
set_option genInjectivity false in
set_option genSizeOf false in
structure Mk (K:PySem.W.Frag) (C f:Addr):Prop where
 makes:PySem.W.makesIn K C=true
 init:PySem.W.findIn K (.ref C) "__init__" = some (some (.ref f))
 fn:PySem.W.isFn K (.ref f)=true
 kp:PySem.W.keepIn K (.ref C)=true
theorem zil {pins:List (Addr × Obj)} {σ:St} {H:Hp} {s:Shared} {Q:VK} {us:List Value} {vs:List V} (M:Mk X.K C f) (F:FnOk X.prog X.w X.K X.mg X.base CX k f fd ps sp) (hr:Room (k + 1) X.A) (hb:Binds X.K fd ps ds) (hd:Vals dvs ds)
  (hx:zcf CX X E) (I:Inv X pins σ H s) (r:Vals vs us)
  (h:∀ x dx,H x=none->H dx=none->dx ≠ x->sp (.ref x :: (vs ++ dvs)) (upd (upd H dx (.own x)) x (.ins C dx [])) (fun v H2=>v=.non/\Q (.ref x) H2) E) :
  wpAny (model X.prog X.w) X.A (call (.ref C) us) (EP X pins σ Q) X.xe s:=by
 have hq:=h (s.heap.objs.size + 1) s.heap.objs.size (I.hok.fresh (Nat.le_succ _)) (I.hok.fresh (Nat.le_refl _)) (Nat.ne_of_lt (Nat.lt_succ_self _))
 have I2:=Inv.made (C:=C) I
 have r2:Vals (V.ref (s.heap.objs.size + 1) :: (vs ++ dvs)) (Value.ref (s.heap.objs.size + 1) :: (us ++ ds)):=.cons rfl (r.append hd)
 have hl:(Value.ref (s.heap.objs.size + 1) :: us ++ ds).length=ps.length:=by
  have e:=r2.length
  rw [F.len _ _ _ _ hq] at e
  exact e.symm
 refine wpAny_call (zjf (f:=f) I.kIn M.makes M.init (beq_iff_eq.mp M.fn) (codeAny_mono (F.run _ X.stack _ _ ⟨Value.ref (s.heap.objs.size + 1) :: us,[]⟩ (Value.ref (s.heap.objs.size + 1) :: (us ++ ds)) _ _ E (hr.make C us [])
  (I2.env0.make C us []) (hb _ (Value.ref (s.heap.objs.size + 1) :: us) I2.kIn hl) r2 hq) fun r s' hq'=>?_))
 cases r with
 | error e=>exact hx pins σ _ _ e s' I2 hq'
 | ok fl=>
  cases fl with
  | ret u=>
   obtain ⟨v,H',I3,rv,ev,q3⟩:=I2.after hq'
   subst ev
   exact ⟨rv,⟨V.ref (s.heap.objs.size + 1),H',I3,rfl,q3⟩⟩
  | next=>exact False.elim hq'
  | brk=>exact False.elim hq'
  | cont=>exact False.elim hq'
theorem zjR (M:Mk X.K C f) (F:FnOk X.prog X.w X.K X.mg X.base CX k f fd ps sp) (hr:Room (k + 1) X.A) (hg:Gl X x) (hm:X.mg x=some (.ref C)) (hb:Binds X.K fd ps ds) (hd:Vals dvs ds) (hx:zcf CX X E)
  (ha:PA X (e :: es) t) (hdb:autoParam ((x == ("__debug__" : Str))=false) Internal.aut1._auto_1) (he:autoParam (starEach (e :: es) X.env=(false,eval e X.env) :: starEach es X.env) Internal.aut2._auto_1) (hpl:autoParam ((backTo pos (starEach es X.env)).any (·.1)=false) Internal.aut2._auto_1) :
  PE X (.Call (.Name x p) (e :: es) [] pos) (zjl C sp dvs E t):=by
 intro pins s σ H Q I h
 refine wpAny_Call_Name_kw (zb7 I hg hm ?_ hdb)
 refine PySem.W.callWith_K (h₀:=X.base) I.ok.mod.kin M.kp (thn (ha pos pins s σ H _ I h) fun us s1 ⟨vs,H1,I1,r,q⟩=>⟨I1.kIn,?_⟩) he hpl
 exact zil M F hr hb hd hx I1 r q
end
section
variable {X:Cx} {CX:CXT} {k:Nat} {f C:Addr} {fd:FuncData} {ps ks:List Str} {sp:Sp} {E:XK} {x m:Str} {p pos apos kpos:Pos} {e o:Expr} {es:List Expr} {kws:List Keyword} {te ta:TE} {t tk:TA} {nm:Option Str}
set_option genInjectivity false in
set_option genSizeOf false in
structure KBinds (K:PySem.W.Frag) (fd:FuncData) (ps ks:List Str) (g:List Value->List Value->List Value) (gV:List V->List V->List V):Prop where
 to:∀ (s:Shared) (us ws:List Value),K.In s.heap->(g us ws).length=ps.length->BindsTo s fd ⟨us,ks.zip ws⟩ (ps.zip (g us ws))
 rel:∀ {vs:List V} {us:List Value} {zs:List V} {ws:List Value},Vals vs us->Vals zs ws->Vals (gV vs zs) (g us ws)
variable {g:List Value->List Value->List Value} {gV:List V->List V->List V}
end
set_option genInjectivity false in
set_option genSizeOf false in
structure FnScope (N P:List Str) (sc:Scope):Prop where
 kind:sc.kind=.function
 co:sc.isCoroutine=false
 gen:sc.isGenerator=false
 nd:N.Nodup
 pre:N.take P.length=P
 par:∀ x ∈ P,sc.names.lookup x=some .local\/sc.names.lookup x=some .cell
 nofree:∀ y ∈ sc.names,y.2 ≠ .free
theorem ze8 {kindOf:Str->Option NameKind} {x:Str}:∀ {binds:List (Str × Value)} {m:Str->Option Value},(∀ v,(x,v) ∉ binds)->bindL kindOf binds m x=m x
 | [],_,_=>rfl
 | (n,v) :: r,m,h=>by
  unfold bindL
  rw [ze8 fun w hw=>h w (List.mem_cons_of_mem _ hw)]
  split
  ·have:x ≠ n:=by rintro rfl; exact h v List.mem_cons_self
   simp [this]
  ·rfl
theorem zeY {kindOf:Str->Option NameKind} {x:Str}:∀ {binds:List (Str × Value)} {m:Str->Option Value},(∀ v,(x,v) ∉ binds)->bindC kindOf binds m x=m x
 | [],_,_=>rfl
 | (n,v) :: r,m,h=>by
  unfold bindC
  rw [zeY fun w hw=>h w (List.mem_cons_of_mem _ hw)]
  split
  ·rfl
  ·have:x ≠ n:=by rintro rfl; exact h v List.mem_cons_self
   simp [this]
theorem zfk {kindOf:Str->Option NameKind} {x:Str} {v:Value}:∀ {P:List Str} {vs:List Value} {i:Nat} {m:Str->Option Value},P.Nodup->P[i]?=some x->vs[i]?=some v->kindOf x=some .local ->
  bindL kindOf (P.zip vs) m x=some v
 | [],_,_,_,_,h,_,_=>by simp at h
 | _ :: _,[],_,_,_,_,h,_=>by simp at h
 | p :: P,w :: vs,0,m,nd,h1,h2,hk=>by
  simp at h1 h2; subst h1; subst h2
  show bindL kindOf ((p,w) :: P.zip vs) m p=_
  unfold bindL
  rw [ze8 fun v hv=>(List.nodup_cons.mp nd).1 (List.of_mem_zip hv).1,if_pos hk]
  simp
 | p :: P,w :: vs,i + 1,m,nd,h1,h2,hk=>by
  show bindL kindOf ((p,w) :: P.zip vs) m x=_
  unfold bindL
  exact zfk (i:=i) (List.nodup_cons.mp nd).2 (by simpa using h1) (by simpa using h2) hk
theorem ze5 {kindOf:Str->Option NameKind} {x:Str} {v:Value}:∀ {P:List Str} {vs:List Value} {i:Nat} {m:Str->Option Value},P.Nodup->P[i]?=some x->vs[i]?=some v->kindOf x ≠ some .local ->
  bindC kindOf (P.zip vs) m x=some v
 | [],_,_,_,_,h,_,_=>by simp at h
 | _ :: _,[],_,_,_,_,h,_=>by simp at h
 | p :: P,w :: vs,0,m,nd,h1,h2,hk=>by
  simp at h1 h2; subst h1; subst h2
  show bindC kindOf ((p,w) :: P.zip vs) m p=_
  unfold bindC
  rw [zeY fun v hv=>(List.nodup_cons.mp nd).1 (List.of_mem_zip hv).1,if_neg hk]
  simp
 | p :: P,w :: vs,i + 1,m,nd,h1,h2,hk=>by
  show bindC kindOf ((p,w) :: P.zip vs) m x=_
  unfold bindC
  exact ze5 (i:=i) (List.nodup_cons.mp nd).2 (by simpa using h1) (by simpa using h2) hk
noncomputable def start (N:List Str) (vs:List V):St:=vs.map some ++ List.replicate (N.length - vs.length) none
noncomputable def zaB (CX:CXT) (P:Program) (w:World) (K:PySem.W.Frag) (mg:Str->Option Value) (base:Heap) (N:List Str) (qual:Str) (scope:Scope) (f:Addr) (cd:Value) (A:Around) (outer:List Env) (s:Shared) (H:Hp) (E:XK):Cx where
 prog:=P
 w:=w
 K:=K
 mg:=mg
 base:=base
 A:=A.deeper (envOfC qual scope s.heap.objs.size f cd)
 N:=N
 s₀:=s
 H₀:=H
 env:=envOfC qual scope s.heap.objs.size f cd
 outer:=outer
 stack:=envOfC qual scope s.heap.objs.size f cd :: outer
 ex:=[]
 calm:=true
 fn:=fun _=>true
 pn:=[]
 xe:=fun e s'=>wpAny (model P w) (A.deeper (envOfC qual scope s.heap.objs.size f cd)) (leaving (envOfC qual scope s.heap.objs.size f cd) e) (fun _ s''=>CX outer H s E e s'') (fun e' s''=>CX outer H s E e' s'') s'
theorem zcZ {sc:Scope} {n:Nat} {x:Str} (h:sc.names.lookup x=some .cell):∃ c,(cellsFrom n sc.names []).lookup x=some c:=by
 have q:=PySem.W.cellsFrom_some sc.names n [] (.inl h)
 exact Option.isSome_iff_exists.mp q
theorem zff {CX:CXT} {P:Program} {w:World} {K:PySem.W.Frag} {mg:Str->Option Value} {base:Heap} {N ps:List Str} {qual:Str} {scope:Scope} {f:Addr} {cd:Value} {A:Around} {outer:List Env} {s s1:Shared} {H:Hp} {E:XK} {us:List Value} {vs:List V}
  (S:FnScope N ps scope) (hd:A.handled=none) (e0:Env0 P w K mg base A outer s H) (hl:vs.length=ps.length) (r:Vals vs us)
  (x:InCallC s s.heap.objs.size (bindL (envOfC qual scope s.heap.objs.size f cd).kindOf (ps.zip us) fun _=>none) (cellsFrom (s.heap.objs.size + 1) scope.names []) (bindC (envOfC qual scope s.heap.objs.size f cd).kindOf (ps.zip us) fun _=>none) s1) :
  Inv (zaB CX P w K mg base N qual scope f cd A outer s H E) [] (start N vs) H s1:=by
 have hpl:ps.length<=N.length:=by have:=congrArg List.length S.pre; rw [List.length_take] at this; omega
 obtain ⟨h1,tk,rfl,hk⟩:=x.done
 have noA:∀ b:Addr,b ∉ (zaB CX P w K mg base N qual scope f cd A outer s H E).ex:=fun b z=>absurd (show b ∈ ([]:List Addr) from z) (by simp)
 refine ⟨⟨e0.mod,S.kind,rfl,rfl,Nat.le_refl _,fun y z c h1 h2=>?_,fun y hy=>?_,fun y c _ h=>?_,fun _=>hd,Around.frames_deeper e0.frames,.inr ⟨rfl,rfl⟩,fun b z=>absurd z (noA b),e0.bs,e0.bsz,fun b _ _=>noA b,fun b z=>absurd z (noA b),e0.funs,e0.frf⟩,
  rfl,e0.bare,Un.kept hk,⟨_,x.toInCall.ns,fun i y v h1 h2 h3=>?_⟩,fun y c h=>⟨_,x.cell y c h⟩,e0.hok.fresh (Nat.le_refl _),fun y c h=>?_,fun p hp=>absurd (show p ∈ ([]:List (Addr × Obj)) from hp) (by simp),e0.hok.kept hk,?_⟩
 ·exact name_of_addr x.apart (PySem.mem_of_lookup h1) (PySem.mem_of_lookup h2)
 ·have hy:scope.names.lookup y=some .cell\/scope.names.lookup y=some .free:=hy
  rcases hy with hy | hy
  ·exact zcZ hy
  ·exact absurd rfl (S.nofree _ (PySem.mem_of_lookup hy))
 ·exact Nat.le_of_lt (x.above y c (PySem.mem_of_lookup h))
 ·have hi:i < vs.length:=by
   unfold start at h2
   by_cases hi:i < vs.length
   ·exact hi
   ·rw [List.getElem?_append_right (by simpa using hi)] at h2
    rw [List.getElem?_replicate] at h2
    split at h2 <;> cases h2
  have ha:vs[i]?=some v:=by
   unfold start at h2
   rw [List.getElem?_append_left (by simpa using hi),List.getElem?_map] at h2
   cases e:vs[i]? with
   | none=>rw [e] at h2; cases h2
   | some a=>rw [e] at h2; cases h2; rfl
  obtain ⟨u,hu,rv⟩:=r.get ha
  have hp:ps[i]?=some y:=by
   rw [<- S.pre,List.getElem?_take_of_lt (by omega)]; exact h1
  have ndP:ps.Nodup:=by rw [<- S.pre]; exact S.nd.sublist (List.take_sublist _ _)
  refine ⟨u,rv,?_⟩
  rcases S.par y (List.mem_of_getElem? hp) with k | k
  ·exact .inl ⟨k,zfk ndP hp hu k⟩
  ·obtain ⟨c,e⟩:=zcZ (n:=s.heap.objs.size + 1) k
   refine .inr ⟨.inl k,c,e,?_⟩
   have q:=x.cell y c e
   rw [ze5 ndP hp hu (by show scope.names.lookup y ≠ _; rw [k]; decide)] at q
   exact q
 ·exact e0.hok.fresh (Nat.le_of_lt (x.above y c (PySem.mem_of_lookup h)))
 ·unfold start
  show _=N.length
  rw [List.length_append,List.length_map,List.length_replicate]
  omega
theorem zjq {CX:CXT} {P:Program} {w:World} {K:PySem.W.Frag} {mg:Str->Option Value} {base:Heap} {k:Nat} {f:Addr} {name qual:Str} {params:Arguments} {body:List Stmt} {scope:Scope} {dV kV doc pm cdv ct oc:Value} {an od:Option Addr}
  {osl:Array (Option Value)} {N ps:List Str} {sp:Sp} (lk:K.lookup f=some ⟨oc,od,.func (PySem.W.fnOf name qual params body scope dV kV doc pm an cdv ct),osl⟩) (hcd:PySem.W.codeIn K cdv qual=true) (S:FnScope N ps scope)
  (len:∀ vs H Q E,sp vs H Q E->vs.length=ps.length)
  (hbody:∀ (A:Around) (outer:List Env) (s:Shared) (H:Hp) (vs:List V) (Q:VK) (E:XK),Room k (A.deeper (envOfC qual scope s.heap.objs.size f cdv))->sp vs H Q E ->
   ∃ t,PSs (zaB CX P w K mg base N qual scope f cdv A outer s H E) body t/\t { nx:=fun _ H'=>Q .non H',rt:=Q } (start N vs) H) :
  FnOk P w K mg base CX (k + 1) f (PySem.W.fnOf name qual params body scope dV kV doc pm an cdv ct) ps sp:=by
 refine ⟨len,fun A outer s H args us vs Q E hr e0 hb r hsp=>?_⟩
 have hl:=len _ _ _ _ hsp
 have KX:K.In s.heap:=e0.mod.kin.keeps fun b o e=>(e0.bs b o e).1
 have lim:s.heap.NoLimit:=e0.mod.nolimit.keeps fun b o e=>(e0.bs b o e).1
 have hkind:∀ y ∈ ps.zip us,scope.names.lookup y.1=some .local\/(scope.names.lookup y.1=some .cell/\((cellsFrom (s.heap.objs.size + 1) scope.names []).lookup y.1).isSome=true):=fun ⟨n,v⟩ hy=>by
  rcases S.par n (List.of_mem_zip hy).1 with q | q
  ·exact .inl q
  ·exact .inr ⟨q,PySem.W.cellsFrom_some _ _ _ (.inl q)⟩
 refine codeAny_call_function hr.depth (KX _ _ lk) rfl S.co S.gen rfl (PySem.W.codeRec_of KX hcd) (hb _ _ _ _ ?_)
 refine wpAny_newFunctionEnv_cells S.kind hkind fun env he s1 x=>?_
 subst he
 refine ⟨lim.keeps x.toInCall.keep,codeAny_func ?_⟩
 obtain ⟨t,ht,hq⟩:=hbody A outer s H vs Q E (hr.deeper _) hsp
 have I:Inv (zaB CX P w K mg base N qual scope f cdv A outer s H E) [] (start N vs) H s1:=zff S hr.hd e0 hl r x
 refine wpAny_mono (ht [] s1 (start N vs) H _ I hq) (fun fl s' hs=>?_) fun e s' hs=>hs
 have fin:∀ {σ':St} {H':Hp} {v:V} {u:Value},Inv (zaB CX P w K mg base N qual scope f cdv A outer s H E) [] σ' H' s'->RelV v u->Q v H'->CE outer P w H s Q u s':=
  fun {σ' H' v u} J rv q=>⟨v,H',J.os,J.bare,J.base,J.hok,rv,q⟩
 cases fl with
 | ret u=>
  obtain ⟨v,σ',H',J,rv,q⟩:=hs
  exact fin J rv q
 | next=>
  obtain ⟨σ',H',J,q⟩:=hs
  exact fin (v:=V.non) (u:=Value.none) J rfl q
 | brk=>
  obtain ⟨_,_,_,q⟩:=hs
  exact False.elim q
 | cont=>
  obtain ⟨_,_,_,q⟩:=hs
  exact False.elim q
end Internal
namespace Internal
open PySem PySem.Spec PyProof.Rows
section
variable {X:Cx} {x:Str} {p pos:Pos} {e:Expr} {es:List Expr} {t:TA} {id T:String} {r:List V->Hp->VK->Prop}
noncomputable abbrev tCB (r:List V->Hp->VK->Prop) (t:TA):TE:=fun σ H Q=>t σ H fun vs H1=>r vs H1 Q
theorem zF (hc:CallR X (.builtin id) r) (hg:Gl X x) (hm:X.mg x=none) (hv:bootBuiltins x=some (.builtin id)) (ha:PA X (e :: es) t) (hn:autoParam (x ≠ "__name__") Internal.aut1._auto_1) (hdb:autoParam ((x == ("__debug__" : Str))=false) Internal.aut1._auto_1)
  (he:autoParam (starEach (e :: es) X.env=(false,eval e X.env) :: starEach es X.env) Internal.aut2._auto_1) (hpl:autoParam ((backTo pos (starEach es X.env)).any (·.1)=false) Internal.aut2._auto_1):PE X (.Call (.Name x p) (e :: es) [] pos) (tCB r t):=by
 intro pins s σ H Q I h
 refine wpAny_Call_Name_kw (zde I hg hm hv ?_ hn hdb)
 exact PyProof.Rows.callWith_builtin1 (thn (ha pos pins s σ H _ I h) fun us s1 ⟨vs,H1,I1,r1,q1⟩=>hc pins s1 σ H1 vs us Q I1 r1 q1) he hpl
theorem zfc (hc:CallR X (.type T) r) (hg:Gl X x) (hm:X.mg x=none) (hv:bootBuiltins x=some (.type T)) (ha:PA X (e :: es) t) (hn:autoParam (x ≠ "__name__") Internal.aut1._auto_1) (hdb:autoParam ((x == ("__debug__" : Str))=false) Internal.aut1._auto_1)
  (he:autoParam (starEach (e :: es) X.env=(false,eval e X.env) :: starEach es X.env) Internal.aut2._auto_1) (hpl:autoParam ((backTo pos (starEach es X.env)).any (·.1)=false) Internal.aut2._auto_1):PE X (.Call (.Name x p) (e :: es) [] pos) (tCB r t):=by
 intro pins s σ H Q I h
 refine wpAny_Call_Name_kw (zde I hg hm hv ?_ hn hdb)
 exact PyProof.Rows.callWith_type1 (thn (ha pos pins s σ H _ I h) fun us s1 ⟨vs,H1,I1,r1,q1⟩=>hc pins s1 σ H1 vs us Q I1 r1 q1) he hpl
end
end Internal
namespace HT
open PySem PyProof.Rows
section
open PySem.SeqAt
open PySem.AutoSeq1 (wpAny_loadPart')
open PySem.MeetsSeq PySem.MeetsSeq2 PySem.MeetsSeq3
end
section
variable {prog:Program} {w:World} {A:Around} {E:Value->Shared->Prop} {s:Shared}
theorem cat_tup {t b:Addr} {vs ws:List Value} {Q:Value->Shared->Prop} (ht:IsTup s.heap t vs.toArray) (hb:IsTup s.heap b ws.toArray) (hv:vs ≠ [])
  (h1:ws=[]->Q (.ref t) s) (h2:ws ≠ []->Q (.ref s.heap.objs.size) { s with heap:=s.heap.push { cls:=.type "tuple",data:=.seq (vs ++ ws).toArray } })
  (hsz:vs.length + ws.length<=sizeLine):wpAny (model prog w) A (binaryOp .Add (.ref t) (.ref b)) Q E s:=by
 obtain ⟨⟨cls,dd,data,sl⟩,ho,hc,n,hd⟩:=id ht
 obtain ⟨⟨cls2,dd2,data2,sl2⟩,ho2,hc2,n2,hd2⟩:=id hb
 simp only at hc hd hc2 hd2
 subst hc hd hc2 hd2
 have e:vs.toArray ++ ws.toArray=(vs ++ ws).toArray:=by simp
 by_cases hw:ws=[]
 ·exact concat_meets ⟨_,ho,rfl⟩ ⟨_,ho2,rfl⟩ noFill_tuple_add seq_tuple_add PySem.F.slot_tuple_add PySem.F.entry_tuple_add (PySem.F.args_tuple_add_2 _ _)
   (tuple_addW1 t b vs.toArray ws.toArray n n2 dd dd2 sl sl2 (by simpa using hv) (by simp [hw])) ⟨ho,ho2,h1 hw⟩
 ·refine concat_meets ⟨_,ho,rfl⟩ ⟨_,ho2,rfl⟩ noFill_tuple_add seq_tuple_add PySem.F.slot_tuple_add PySem.F.entry_tuple_add (PySem.F.args_tuple_add_2 _ _)
   (tuple_addW2 t b vs.toArray ws.toArray n n2 dd dd2 sl sl2 (by simpa using hv) (by simpa using hw) (by rw [List.size_toArray,List.size_toArray]; exact hsz)) ⟨ho,ho2,?_⟩
  rw [e]
  exact h2 hw
noncomputable def sIx (n d:Nat):Option Int->Nat
 | none=>d
 | some v=>if v < 0 then (v + (n:Int)).toNat else min v.toNat n
theorem sIx_none (n d:Nat):sIx n d none=d:=rfl
theorem sIx_nat (n d k:Nat):sIx n d (some (k:Int))=min k n:=by
 show (if (k:Int) < 0 then ((k:Int) + (n:Int)).toNat else min (k:Int).toNat n)=min k n
 rw [if_neg (by omega),Int.toNat_natCast]
theorem zlB (n d:Nat) (hd:d<=n) (o:Option Int):sIx n d o<=n:=by
 cases o with
 | none=>exact hd
 | some v=>
  show (if v < 0 then (v + (n:Int)).toNat else min v.toNat n)<=n
  by_cases hv:v < 0
  ·rw [if_pos hv]; omega
  ·rw [if_neg hv]; exact Nat.min_le_right _ _
theorem zgA (v:Int) (n d:Nat):(if v < 0 then max (v + (n:Int)) 0 else min v (n:Int))=((sIx n d (some v):Nat):Int):=by
 show (if v < 0 then max (v + (n:Int)) 0 else min v (n:Int))=(((if v < 0 then (v + (n:Int)).toNat else min v.toNat n):Nat):Int)
 by_cases hv:v < 0
 ·simp only [if_pos hv]; omega
 ·simp only [if_neg hv]; omega
theorem zhb (lo hi:Option Int) (n:Nat):Builtin.Slice.sliceAdjust lo hi 1 (n:Int)=(((sIx n 0 lo:Nat):Int),((sIx n n hi:Nat):Int)):=by
 have h1:¬ ((1:Int) < 0):=by omega
 unfold Builtin.Slice.sliceAdjust
 simp only [h1,if_false]
 refine Prod.ext ?_ ?_
 ·cases lo with
  | none=>rfl
  | some v=>exact zgA v n 0
 ·cases hi with
  | none=>rfl
  | some v=>exact zgA v n n
theorem zgW (i j:Nat):Builtin.Slice.slicePlaces (i:Int) (j:Int) 1=j - i:=by
 unfold Builtin.Slice.slicePlaces
 have h1:(1:Int) > 0:=by omega
 simp only [h1,if_true,Int.ediv_one]
 split <;> omega
theorem zd7 {v:Value} {o:Option Int} {Q:Option Int->Shared->Prop} (p:IsPart v o) (h:Q o s):wpAny (model prog w) A (Builtin.Slice.slicePartIndex v) Q E s:=by
 cases p with
 | none=>exact slicePart_none h
 | int i t=>exact slicePart_int h
theorem zdM {sl:Addr} {vl vu:Value} {lo hi:Option Int} {n:Nat} {Q:Int × Int × Nat->Shared->Prop} (hs:s.heap.IsSliceOf sl vl vu .none) (pl:IsPart vl lo) (pu:IsPart vu hi)
  (h:Q (((sIx n 0 lo:Nat):Int),1,sIx n n hi - sIx n 0 lo) s):wpAny (model prog w) A (Builtin.Slice.sliceApplied (.ref sl) (pure (n:Int))) Q E s:=by
 obtain ⟨os,hos,hcs,hds⟩:=id hs
 unfold Builtin.Slice.sliceApplied Builtin.Slice.sliceFields
 refine wpAny_bind (wpAny_bind (wpAny_field hos hds (x:=vl) rfl (wpAny_bind (wpAny_field hos hds (x:=vu) rfl (wpAny_bind (wpAny_field hos hds (x:=.none) rfl (wpAny_pure ?_)))))))
 refine wpAny_bind (slicePart_none ?_)
 show wpAny _ _ (if ((1:Int) == 0)=true then _ else _) _ _ s
 rw [if_neg (by decide)]
 refine wpAny_bind (zd7 pl (wpAny_bind (zd7 pu (wpAny_bind (wpAny_pure ?_)))))
 show wpAny _ _ (match Builtin.Slice.sliceAdjust lo hi 1 (n:Int) with | (lo,hi)=>pure (lo,(1:Int),Builtin.Slice.slicePlaces lo hi 1)) _ _ s
 rw [zhb lo hi n]
 show wpAny _ _ (pure (((sIx n 0 lo:Nat):Int),(1:Int),Builtin.Slice.slicePlaces ((sIx n 0 lo:Nat):Int) ((sIx n n hi:Nat):Int) 1)) _ _ s
 rw [zgW]
 exact wpAny_pure h
theorem ziH (xs:Array Value) (i k:Nat):((List.range k).filterMap fun (m:Nat)=>xs[((i:Int) + (m:Int) * 1).toNat]?).toArray=((xs.toList.drop i).take k).toArray:=by
 have e:(fun (m:Nat)=>xs[((i:Int) + (m:Int) * 1).toNat]?)=fun m=>xs[i + m]?:=by
  funext m
  have:((i:Int) + (m:Int) * 1).toNat=i + m:=by omega
  rw [this]
 rw [e]
 have:=pick_run xs i k
 rw [List.filterMap_map] at this
 have e2:((fun x=>xs[x]?) ∘ fun x=>i + x)=fun m=>xs[i + m]?:=rfl
 rw [e2] at this
 rw [this]
theorem getItem_tuple_cut {t sl:Addr} {items:Array Value} {vl vu:Value} {lo hi:Option Int} {Q:Value->Shared->Prop} (ht:IsTup s.heap t items) (hs:s.heap.IsSliceOf sl vl vu .none) (pl:IsPart vl lo) (pu:IsPart vu hi)
  (hw:¬ (sIx items.size 0 lo=0/\sIx items.size items.size hi=items.size))
  (h:Q (.ref s.heap.objs.size) { s with heap:=s.heap.push { cls:=.type "tuple",data:=.seq ((items.toList.drop (sIx items.size 0 lo)).take (sIx items.size items.size hi - sIx items.size 0 lo)).toArray } })
  (hsz:items.size<=sizeLine):wpAny (model prog w) A (getItem (.ref t) (.ref sl)) Q E s:=by
 have htake:sizeOk (.seq ((items.toList.drop (sIx items.size 0 lo)).take (sIx items.size items.size hi - sIx items.size 0 lo)).toArray):=by
  show ((items.toList.drop (sIx items.size 0 lo)).take (sIx items.size items.size hi - sIx items.size 0 lo)).toArray.size<=sizeLine
  rw [List.size_toArray,List.length_take,List.length_drop,Array.length_toList]
  omega
 have hj:sIx items.size items.size hi<=items.size:=zlB _ _ (Nat.le_refl _) hi
 obtain ⟨os,hos,hcs,hds⟩:=id hs
 have hTs:s.TypeIs (.ref sl) "slice" := ⟨os,hos,hcs⟩
 unfold getItem
 try with_reducible refine wpAny_holding ?_
 first | refine wpAny_bind (wpAny_pure ?_) | skip
 refine wpAny_bind (wpAny_sequenceKey ht.typeIs (by decide) ?_)
 refine wpAny_bind (wpAny_callSpecial?_slot (name:=Str.ofString "__getitem__") ht.typeIs PyProof.Rows.slot_tuple_getitem
  (wpAny_call_entry PyProof.Rows.slot_tuple_getitem ht.typeIs entry_tuple_getitem ?_ (args_tuple_getitem _ _)))
 show wpAny _ _ (Builtin.Tuple.tupleItemsOf (.ref t) >>= _) _ _ s
 refine wpAny_bind (tupleItemsOf_ ht ?_)
 refine wpAny_bind (wpAny_typeOf hTs ?_)
 rw [if_pos (by decide)]
 refine wpAny_bind (zdM hs pl pu ?_)
 have hno:¬ ((((sIx items.size 0 lo:Nat):Int) == 0 && (1:Int) == 1 && (sIx items.size items.size hi - sIx items.size 0 lo) == items.size)=true):=by
  intro q
  rw [Bool.and_eq_true,Bool.and_eq_true] at q
  have q1:((sIx items.size 0 lo:Nat):Int)=0:=eq_of_beq q.1.1
  have q2:sIx items.size items.size hi - sIx items.size 0 lo=items.size:=eq_of_beq q.2
  exact hw ⟨by omega,by omega⟩
 show wpAny _ _ (if (((sIx items.size 0 lo:Nat):Int) == 0 && (1:Int) == 1 && (sIx items.size items.size hi - sIx items.size 0 lo) == items.size)=true then _ else _) _ _ s
 rw [if_neg hno,ziH]
 first
  | exact wpAny_bind (m:=Builtin.Tuple.tupleExact _) (wpAny_newObj_type (wpAny_pure ⟨_,rfl,wpAny_pure h⟩) htake)
  | exact wpAny_bind (m:=Builtin.Tuple.tupleExact _) (wpAny_newObj_type (wpAny_bind (wpAny_pure (wpAny_pure ⟨_,rfl,wpAny_pure h⟩))) htake)
  | exact wpAny_bind (wpAny_bind (m:=Builtin.Tuple.tupleExact _) (wpAny_newObj_type (wpAny_pure (wpAny_pure ⟨_,rfl,wpAny_pure h⟩)) htake))
  | exact wpAny_bind (wpAny_bind (m:=Builtin.Tuple.tupleExact _) (wpAny_newObj_type (wpAny_pure ⟨_,rfl,wpAny_pure h⟩) htake))
end
end HT
namespace Internal
open PySem PySem.Spec PyProof.Rows
noncomputable abbrev TO:=St->Hp->(Option Int->Hp->Prop)->Prop
noncomputable def PO (X:Cx) (e:Option Expr) (t:TO):Prop:=
 ∀ (pins:List (Addr × Obj)) (s:Shared) (σ:St) (H:Hp) (Q:Option Int->Hp->Prop),Inv X pins σ H s->t σ H Q ->
  wpAny (model X.prog X.w) X.A (evalPart e X.env) (fun u s'=>∃ o H',Inv X pins σ H' s'/\IsPart u o/\Q o H') X.xe s
noncomputable abbrev zjS:TO:=fun _ H Q=>Q none H
noncomputable def zjo (t:TE):TO:=fun σ H Q=>t σ H fun x H1=>∃ i,x=.int i/\Q (some i) H1
section
variable {X:Cx} {e:Expr} {te:TE} {lo hi:Option Expr} {tl th:TO} {pos p2:Pos}
theorem zb5:PO X none zjS:=by
 intro pins s σ H Q I h
 rw [evalPart_none]
 exact wpAny_pure ⟨none,H,I,.none,h⟩
theorem zca (h:PE X e te):PO X (some e) (zjo te):=by
 intro pins s σ H Q I hw
 rw [evalPart_some]
 refine thn (h pins s σ H _ I hw) fun u s1 zz=>?_
 obtain ⟨x,H1,I1,r1,q1⟩:=zz
 obtain ⟨i,rfl,q⟩:=q1
 obtain ⟨t,rfl⟩:=r1
 exact ⟨some i,H1,I1,.int i t,q⟩
noncomputable def SlR (X:Cx) (r:V->Option Int->Option Int->Hp->VK->Prop):Prop:=
 ∀ (pins:List (Addr × Obj)) (s:Shared) (σ:St) (H:Hp) (x:V) (v vl vu:Value) (lo hi:Option Int) (sl:Addr) (Q:VK),Inv X pins σ H s->RelV x v->s.heap.IsSliceOf sl vl vu .none->IsPart vl lo->IsPart vu hi->r x lo hi H Q ->
  ∃ T id,typeLookup (.type T) "__getitem__" = pure (some (.builtin id))/\s.TypeIs v T/\wpAny (model X.prog X.w) X.A (getItem v (.ref sl)) (EP X pins σ Q) X.xe s
noncomputable abbrev tSl (r:V->Option Int->Option Int->Hp->VK->Prop) (te:TE) (tl th:TO):TE:=fun σ H Q=>te σ H fun x H1=>tl σ H1 fun l H2=>th σ H2 fun u H3=>r x l u H3 Q
theorem zbO {r:V->Option Int->Option Int->Hp->VK->Prop} (hr:SlR X r) (he:PE X e te) (hl:PO X lo tl) (hu:PO X hi th):PE X (.Subscript e (.Slice lo hi none p2) pos) (tSl r te tl th):=by
 intro pins s σ H Q I h
 refine Subscript_ (thn (he pins s σ H _ I h) fun v s1 zz=>?_)
 obtain ⟨x,H1,I1,r1,q1⟩:=zz
 refine wpAny_Slice (thn (hl pins s1 σ H1 _ I1 q1) fun vl s2 ⟨l,H2,I2,pl,q2⟩=>thn (hu pins s2 σ H2 _ I2 q2) fun vu s3 zz=>?_)
 obtain ⟨u,H3,I3,pu,q3⟩:=zz
 rw [evalPart_none]
 refine wpAny_pure ?_
 have I4:Inv X pins σ H3 { s3 with heap:=s3.heap.push { cls:=.type "slice",data:=.fields #[vl,vu,.none] } }:=I3.kept (t':=s3.toks) fun b ob q=>Heap.get?_push_of_some _ q
 obtain ⟨T,id,hT,ht,hg⟩:=hr pins { s3 with heap:=s3.heap.push { cls:=.type "slice",data:=.fields #[vl,vu,.none] } } σ H3 x v vl vu l u s3.heap.objs.size Q I4 r1 (Heap.IsSliceOf.new ..) pl pu q3
 show wpAny (model X.prog X.w) X.A (subscriptTail e (.Slice lo hi none p2) v (.ref s3.heap.objs.size)) (EP X pins σ Q) X.xe { s3 with heap:=s3.heap.push { cls:=.type "slice",data:=.fields #[vl,vu,.none] } }
 exact tail_any (ops:=[.ref s3.heap.objs.size,v]) ht hT hg (by with_unfolding_all rfl)
noncomputable def zb9 (xs:List V) (lo hi:Option Int):List V:=(xs.drop (HT.sIx xs.length 0 lo)).take (HT.sIx xs.length xs.length hi - HT.sIx xs.length 0 lo)
theorem zdJ (xs:List V) (lo hi:Option Int):(zb9 xs lo hi).length<=xs.length:=by
 unfold zb9
 rw [List.length_take,List.length_drop]
 omega
noncomputable def zeE (K:PySem.W.Frag):V->Option Int->Option Int->Hp->VK->Prop:=fun x lo hi H Q=>∃ a xs,x=.ref a/\SqT K H a xs /\
 ¬ (HT.sIx xs.length 0 lo=0/\HT.sIx xs.length xs.length hi=xs.length)/\∀ p,H p=none->Q (.ref p) (upd H p (.tup (zb9 xs lo hi)))
theorem zd6:SlR X (zeE X.K):=by
 intro pins s σ H x v vl vu lo hi sl Q I rx hs pl pu h
 obtain ⟨a,xs,rfl,hx,hw,q⟩:=h
 cases rx
 obtain ⟨its,r,ht,hz⟩:=I.tuple hx
 have hlen:its.toArray.size=xs.length:=by rw [List.size_toArray]; exact r.length.symm
 refine ⟨"tuple",_,PyProof.Rows.slot_tuple_getitem.lookup,ht.typeIs,?_⟩
 refine HT.getItem_tuple_cut ht hs pl pu (by rw [hlen]; exact hw) ?_ (by rw [hlen]; exact hz)
 rw [hlen]
 refine ⟨.ref s.heap.objs.size,_,I.laid (t':=s.toks) (o:=.tup (zb9 xs lo hi)) (fun b ob q=>Heap.get?_push_of_some _ q) (Nat.le_refl _) ?_,rfl,q _ (I.hok.fresh (Nat.le_refl _))⟩
 exact ⟨Nat.le_trans (zdJ xs lo hi) hz,_,(r.drop (HT.sIx xs.length 0 lo)).take (HT.sIx xs.length xs.length hi - HT.sIx xs.length 0 lo),IsTup.new _ _⟩
noncomputable def zju (K:PySem.W.Frag):R2:=fun x y H Q=>∃ a b xs ys,x=.ref a/\y=.ref b/\SqT K H a xs/\SqT K H b ys/\xs ≠ []/\xs.length + ys.length<=sizeLine /\
 (ys=[]->Q (.ref a) H)/\(ys ≠ []->∀ p,H p=none->Q (.ref p) (upd H p (.tup (xs ++ ys))))
theorem Vals.nil_iff {xs:List V} {us:List Value} (r:Vals xs us):us=[] ↔ xs=[]:=by
 cases r with
 | nil=>simp
 | cons _ _=>simp
theorem zks:OpR X (binaryOp .Add) (zju X.K):=by
 intro pins s σ H x y v u Q I rx ry h
 obtain ⟨a,b,xs,ys,rfl,rfl,ha,hb,hx,hz,q1,q2⟩:=h
 cases rx
 cases ry
 obtain ⟨its,r1,p1,_⟩:=I.tuple ha
 obtain ⟨its2,r2,p2,_⟩:=I.tuple hb
 refine HT.cat_tup p1 p2 (fun z=>hx (r1.nil_iff.mp z)) (fun z=>⟨.ref a,H,I,rfl,q1 (r2.nil_iff.mp z)⟩) (fun z=>?_) (by rw [<- r1.length,<- r2.length]; exact hz)
 refine ⟨.ref s.heap.objs.size,_,I.laid (t':=s.toks) (o:=.tup (xs ++ ys)) (fun b ob q=>Heap.get?_push_of_some _ q) (Nat.le_refl _) ?_,rfl,q2 (fun w=>z (r2.nil_iff.mpr w)) _ (I.hok.fresh (Nat.le_refl _))⟩
 exact ⟨by rw [List.length_append]; exact hz,_,r1.append r2,IsTup.new _ _⟩
end
end Internal
namespace Internal
open PySem PySem.Spec PyProof.Rows
noncomputable def ixN (n:Nat) (i:Int):Option Nat:=if 0<=i then (if i < n then some i.toNat else none) else if -(n:Int)<=i then some (i + n).toNat else none
noncomputable def atI {α:Type} (xs:List α) (i:Int):Option α:=(ixN xs.length i).bind fun j=>xs[j]?
theorem zgo {n:Nat} {i:Int} {j:Nat} (h:ixN n i=some j):seqIndex? i n=some j/\j < n/\-(n:Int)<=i/\i < n:=by
 unfold ixN at h
 by_cases h0:0<=i
 ·rw [if_pos h0] at h
  by_cases h1:i < n
  ·rw [if_pos h1] at h
   have e:i.toNat=j:=Option.some.inj h
   exact ⟨by rw [seqIndex_of h0 h1,e],by omega,by omega,h1⟩
  ·rw [if_neg h1] at h; cases h
 ·rw [if_neg h0] at h
  by_cases h1:-(n:Int)<=i
  ·rw [if_pos h1] at h
   have e:(i + n).toNat=j:=Option.some.inj h
   exact ⟨by rw [seqIndex_neg (by omega) h1,e],by omega,h1,by omega⟩
  ·rw [if_neg h1] at h; cases h
theorem zdv {α:Type} {xs:List α} {i:Int} {v:α} (h:atI xs i=some v):∃ j,seqIndex? i xs.length=some j/\xs[j]?=some v/\j < xs.length/\-(xs.length:Int)<=i/\i < xs.length:=by
 unfold atI at h
 cases e:ixN xs.length i with
 | none=>rw [e] at h; cases h
 | some j=>
  rw [e] at h
  obtain ⟨h1,h2,h3,h4⟩:=zgo e
  exact ⟨j,h1,h,h2,h3,h4⟩
theorem zbA {α:Type} {xs:List α} {j:Nat} {v:α} (h:xs[j]?=some v):atI xs (j:Int)=some v:=by
 have hj:j < xs.length:=(List.getElem?_eq_some_iff.mp h).1
 have e:ixN xs.length (j:Int)=some j:=by
  unfold ixN
  rw [if_pos (by omega),if_pos (by omega)]; simp
 unfold atI; rw [e]; exact h
noncomputable def zj4 (b:Expr):Prop:=∀ o i,subscripted b false o i=operate [o,i] (getItem o i)
noncomputable def IxR (X:Cx) (r:R2):Prop:=
 ∀ (value slice:Expr) (pins:List (Addr × Obj)) (s:Shared) (σ:St) (H:Hp) (x y:V) (v u:Value) (Q:VK),Inv X pins σ H s->RelV x v->RelV y u->r x y H Q ->
  subscripted slice false v u=operate [v,u] (getItem v u)->wpAny (model X.prog X.w) X.A (subscriptTail value slice v u) (EP X pins σ Q) X.xe s
noncomputable def MtR (X:Cx) (id:String) (r:V->List V->Hp->VK->Prop):Prop:=
 ∀ (pins:List (Addr × Obj)) (s:Shared) (σ:St) (H:Hp) (x:V) (xs:List V) (v:Value) (us:List Value) (Q:VK),Inv X pins σ H s->RelV x v->Vals xs us->r x xs H Q ->
  wpAny (model X.prog X.w) X.A (call (.builtin id) (v :: us)) (EP X pins σ Q) X.xe s
section
variable {X:Cx} {a b:Expr} {ta tb:TE} {pos:Pos}
theorem IxR.or {r r':R2} (h:IxR X r) (h':IxR X r'):IxR X (fun x y H Q=>r x y H Q\/r' x y H Q):=by
 intro value slice pins s σ H x y v u Q I rx ry q hs
 rcases q with q | q
 ·exact h value slice pins s σ H x y v u Q I rx ry q hs
 ·exact h' value slice pins s σ H x y v u Q I rx ry q hs
theorem zg {r:R2} (hr:IxR X r) (ha:PE X a ta) (hb:PE X b tb) (hs:zj4 b):PE X (.Subscript a b pos) (tOp r ta tb):=by
 intro pins s σ H Q I h
 exact Subscript_ (ziC ha hb I h fun v u s2 x y H2 I2 rx ry q=>hr a b pins s2 σ H2 x y v u Q I2 rx ry q (hs _ _))
noncomputable def zdg (K:PySem.W.Frag):R2:=fun x y H Q=>∃ p xs i v,x=.ref p/\y=.int i/\SqL K H p xs/\atI xs i=some v/\Q v H
noncomputable def zlg (K:PySem.W.Frag):R2:=fun x y H Q=>∃ p xs i v,x=.ref p/\y=.int i/\SqT K H p xs/\atI xs i=some v/\Q v H
noncomputable def zlc:R2:=fun x y H Q=>∃ z i c,x=.str z/\y=.int i/\z.length<=sizeLine/\atI z.cps.toList i=some c/\Q (.str ⟨#[c]⟩) H
theorem ix_list:IxR X (zdg X.K):=by
 intro value slice pins s σ H x y v u Q I rx ry h hs
 obtain ⟨p,xs,i,z,rfl,rfl,hq,he,q⟩:=h
 cases rx
 obtain ⟨t,rfl⟩:=ry
 obtain ⟨its,r,pl,hz⟩:=I.list hq
 obtain ⟨j,h1,h2,h3,h4,h5⟩:=zdv he
 obtain ⟨w,ew,rw'⟩:=r.get h2
 have hl:=r.length
 have hn:=line63
 have fin:EP X pins σ Q w s:=⟨z,H,I,rw',q⟩
 by_cases h0:0<=i
 ·have hj:i.toNat=j:=by
   rw [seqIndex_of h0 h5] at h1
   exact Option.some.inj h1
  exact item_listR pl.isList h0 (by omega) (by rw [hj]; simpa using ew) fin hs
 ·have hj:(i + (its.toArray.size:Int)).toNat=j:=by
   rw [seqIndex_neg (by omega) h4] at h1
   rw [List.size_toArray,<- hl]
   exact Option.some.inj h1
  exact subscriptTail_builtinR (x:=w) pl.isList.typeIs slot_list_getitem.lookup
   (wpAny_getItem_list_neg (Q:=fun r s'=>r=w/\EP X pins σ Q r s') pl.isList (by omega) (by rw [List.size_toArray] <;> omega) (by omega) (by rw [hj]; simpa using ew) ⟨rfl,fin⟩) hs
theorem ix_tup:IxR X (zlg X.K):=by
 intro value slice pins s σ H x y v u Q I rx ry h hs
 obtain ⟨p,xs,i,z,rfl,rfl,hq,he,q⟩:=h
 cases rx
 obtain ⟨t,rfl⟩:=ry
 obtain ⟨its,r,pl,hz⟩:=I.tuple hq
 obtain ⟨j,h1,h2,h3,h4,h5⟩:=zdv he
 obtain ⟨w,ew,rw'⟩:=r.get h2
 have hl:=r.length
 have hn:=line63
 have fin:EP X pins σ Q w s:=⟨z,H,I,rw',q⟩
 exact subscriptTail_builtinR (x:=w) pl.typeIs slot_tuple_getitem.lookup
  (getItem_tuple (j:=j) (Q:=fun r s'=>r=w/\EP X pins σ Q r s') pl (by omega) (by omega) (by rw [List.size_toArray,<- hl]; exact h1) (by simpa using ew) ⟨rfl,fin⟩) hs
theorem zk4:IxR X zlc:=by
 intro value slice pins s σ H x y v u Q I rx ry h hs
 obtain ⟨z,i,c,rfl,rfl,hz,he,q⟩:=h
 obtain ⟨t,rfl⟩:=rx
 obtain ⟨t',rfl⟩:=ry
 obtain ⟨j,h1,h2,h3,h4,h5⟩:=zdv he
 have hl:z.cps.toList.length=z.length:=by simp [Str.length]
 rw [hl] at h1 h4 h5
 have hn:=line63
 exact tail_any (typeIs_str s z t) slot_str_getitem.lookup (getItem_str (c:=c) (by
  have e1:decide (i < -(2 ^ 63:Int))=false:=decide_eq_false (by omega)
  have e2:decide (i ≥ 2 ^ 63)=false:=decide_eq_false (by omega)
  rw [e1,e2,Bool.or_false]) (by rw [h1]; simpa using h2) ⟨.str ⟨#[c]⟩,H,I.tok _,⟨_,rfl⟩,q⟩) hs
noncomputable def rIx (K:PySem.W.Frag):R2:=fun x y H Q=>zdg K x y H Q\/zlg K x y H Q\/zlc x y H Q
theorem zd:IxR X (rIx X.K):=ix_list.or (ix_tup.or zk4)
theorem zgP (its:List Value) (n j:Nat) (u:Value):Obj.mapSeq (·.setIfInBounds j u) { cls:=.type "list",data:=.seq its.toArray n }={ cls:=.type "list",data:=.seq (its.set j u).toArray n }:=by
 simp [Obj.mapSeq]
theorem Inv.lst {pins:List (Addr × Obj)} {σ:St} {H:Hp} {s:Shared} {p:Addr} {xs:List V} (I:Inv X pins σ H s) (h:H p=some (.lst xs)) :
  ∃ (its:List Value) (n:Nat),Vals xs its/\s.heap.get? p=some { cls:=.type "list",data:=.seq its.toArray n }/\xs.length<=sizeLine:=by
 obtain ⟨z,its,n,r,e⟩:=I.hok p _ h
 exact ⟨its,n,r,e,z⟩
theorem Inv.lstUpd {pins:List (Addr × Obj)} {σ:St} {H:Hp} {s:Shared} {p:Addr} {xs ys:List V} {its its':List Value} {n n':Nat} {f:Obj->Obj} (I:Inv X pins σ H s) (h:H p=some (.lst xs))
  (ho:s.heap.get? p=some { cls:=.type "list",data:=.seq its.toArray n }) (hf:f { cls:=.type "list",data:=.seq its.toArray n }={ cls:=.type "list",data:=.seq its'.toArray n' }) (r:Vals ys its') (hz:ys.length<=sizeLine) (t:Nat) :
  Inv X pins σ (upd H p (.lst ys)) { s with heap:=s.heap.update p f,toks:=t }:=by
 have e:(s.heap.update p f).get? p=some { cls:=.type "list",data:=.seq its'.toArray n' }:=by
  rw [Heap.get?_update_self f ho (by rw [hf] <;> rfl),hf]
 refine I.write (x:=p) (e:=p) (by rw [h]; trivial) (.inl rfl) (fun b u hb q=>(Heap.get?_update_other _ _ (Ne.symm hb)).trans q) ⟨_,e⟩ ?_
 exact ⟨hz,its',n',r,e⟩
noncomputable def zcy:V->V->V->Hp->(Hp->Prop)->Prop:=fun o i v H Q=>∃ p xs k j,o=.ref p/\i=.int k/\H p=some (.lst xs)/\ixN xs.length k=some j/\Q (upd H p (.lst (xs.set j v)))
theorem zbe:zja X zcy:=by
 intro pins s σ H o i v ov iv u Q I ro ri rv h
 obtain ⟨p,xs,k,j,rfl,rfl,hp,hj,q⟩:=h
 cases ro
 obtain ⟨t,rfl⟩:=ri
 obtain ⟨its,n,r,ho,hz⟩:=I.lst hp
 obtain ⟨h1,h2,h3,h4⟩:=zgo hj
 have hl:=r.length
 have hn:=line63
 have I':Inv X pins σ (upd H p (.lst (xs.set j v))) { s with heap:=s.heap.update p (Obj.mapSeq (·.setIfInBounds j u)) }:=
  I.lstUpd hp ho (zgP its n j u) (r.set rv j) (by rw [List.length_set]; exact hz) s.toks
 by_cases h0:0<=k
 ·have hk:k.toNat=j:=by
   rw [seqIndex_of h0 h4] at h1
   exact Option.some.inj h1
  exact PySem.W.ki_setAt ho h0 (by omega) (by rw [List.size_toArray,<- hl]; exact h4) (by rw [hk]; exact ⟨_,I',q⟩)
 ·have hk:(k + (its.toArray.size:Int)).toNat=j:=by
   rw [seqIndex_neg (by omega) h3] at h1
   rw [List.size_toArray,<- hl]
   exact Option.some.inj h1
  exact PySem.W.ki_setBack ho (by omega) (by rw [List.size_toArray,<- hl]; exact h3) (by omega) (by rw [hk]; exact ⟨_,I',q⟩)
theorem zf1 (lo hi:Option Int) (n:Nat):(sliceBounds lo hi none n).1=((HT.sIx n 0 lo:Nat):Int)/\(sliceBounds lo hi none n).2.1=((HT.sIx n n hi:Nat):Int)/\(sliceBounds lo hi none n).2.2=1:=by
 refine ⟨?_,?_,rfl⟩
 ·cases lo with
  | none=>simp [sliceBounds,HT.sIx]
  | some i=>
   simp only [sliceBounds,HT.sIx,Option.getD_none,show (1:Int) > 0 by decide,if_true]
   by_cases h:i < 0
   ·simp only [h,if_true] <;> omega
   ·simp only [h,if_false] <;> omega
 ·cases hi with
  | none=>simp [sliceBounds,HT.sIx]
  | some i=>
   simp only [sliceBounds,HT.sIx,Option.getD_none,show (1:Int) > 0 by decide,if_true]
   by_cases h:i < 0
   ·simp only [h,if_true] <;> omega
   ·simp only [h,if_false] <;> omega
theorem zfl (its:List Value) (lo hi:Option Int):slicePick its.toArray lo hi none=((its.drop (HT.sIx its.length 0 lo)).take (HT.sIx its.length its.length hi - HT.sIx its.length 0 lo)).toArray:=by
 obtain ⟨h1,h2,h3⟩:=zf1 lo hi its.toArray.size
 unfold slicePick
 rw [h1,h2,h3]
 simp only [sliceRange_one,pick_run,List.size_toArray] <;> rfl
noncomputable def zdZ (K:PySem.W.Frag):V->Option Int->Option Int->Hp->VK->Prop:=fun x lo hi H Q=>∃ a xs,x=.ref a/\SqL K H a xs/\∀ p,H p=none->Q (.ref p) (upd H p (.lst (zb9 xs lo hi)))
theorem zeP:SlR X (zdZ X.K):=by
 intro pins s σ H x v vl vu lo hi sl Q I rx hs pl pu h
 obtain ⟨a,xs,rfl,hx,q⟩:=h
 cases rx
 obtain ⟨its,r,ht,hz⟩:=I.list hx
 have hlen:=r.length
 refine ⟨"list",_,slot_list_getitem.lookup,ht.isList.typeIs,?_⟩
 refine wpAny_getItem_list_slice ht.isList hs pl pu .none (by simp) ?_ (by rw [List.size_toArray] <;> omega)
 rw [zfl,<- hlen]
 refine ⟨.ref s.heap.objs.size,_,I.laid (t':=s.toks) (o:=.lst (zb9 xs lo hi)) (fun b ob q=>Heap.get?_push_of_some _ q) (Nat.le_refl _) ?_,rfl,q _ (I.hok.fresh (Nat.le_refl _))⟩
 exact ⟨Nat.le_trans (zdJ xs lo hi) hz,_,0,(r.drop (HT.sIx xs.length 0 lo)).take (HT.sIx xs.length xs.length hi - HT.sIx xs.length 0 lo),Heap.get?_push_size _ rfl⟩
noncomputable def zcm:V->Bool
 | .non=>true
 | .bl _=>true
 | .int _=>true
 | .str _=>true
 | _=>false
noncomputable def eqV:V->V->Bool
 | .non,.non=>true
 | .bl a,.bl b=>a == b
 | .bl a,.int b=>(if a then 1 else 0) == b
 | .int a,.bl b=>a == (if b then 1 else 0)
 | .int a,.int b=>a == b
 | .str a,.str b=>a == b
 | _,_=>false
theorem zly {A:Around} {s:Shared} {y x:V} {u v:Value} (ry:RelV y u) (rx:RelV x v) (fy:zcm y=true) (fx:zcm x=true):SeqAt.EqAt A s u v (eqV y x):=by
 cases y with
 | non=>
  cases ry
  cases x with
  | non=>cases rx; exact SeqAt.EqAt.same _
  | bl b=>cases rx; exact SeqAt.EqAt.none_bool b
  | int b=>obtain ⟨t,rfl⟩:=rx; exact SeqAt.EqAt.none_int b t
  | str b=>obtain ⟨t,rfl⟩:=rx; exact SeqAt.EqAt.none_str b t
  | _=>exact absurd (show false=true from fx) Bool.false_ne_true
 | bl a=>
  cases ry
  cases x with
  | non=>cases rx; exact SeqAt.EqAt.bool_none a
  | bl b=>cases rx; exact SeqAt.EqAt.bool_bool a b
  | int b=>obtain ⟨t,rfl⟩:=rx; exact SeqAt.EqAt.bool_int a b t
  | str b=>obtain ⟨t,rfl⟩:=rx; exact SeqAt.EqAt.bool_str a b t
  | _=>exact absurd (show false=true from fx) Bool.false_ne_true
 | int a=>
  obtain ⟨t',rfl⟩:=ry
  cases x with
  | non=>cases rx; exact SeqAt.EqAt.int_none a t'
  | bl b=>cases rx; exact SeqAt.EqAt.int_bool a t' b
  | int b=>obtain ⟨t,rfl⟩:=rx; exact SeqAt.EqAt.int_int a t' b t
  | str b=>obtain ⟨t,rfl⟩:=rx; exact SeqAt.EqAt.int_str a t' b t
  | _=>exact absurd (show false=true from fx) Bool.false_ne_true
 | str a=>
  obtain ⟨t',rfl⟩:=ry
  cases x with
  | non=>cases rx; exact SeqAt.EqAt.str_none a t'
  | bl b=>cases rx; exact SeqAt.EqAt.str_bool a t' b
  | int b=>obtain ⟨t,rfl⟩:=rx; exact SeqAt.EqAt.str_int a t' b t
  | str b=>obtain ⟨t,rfl⟩:=rx; exact SeqAt.EqAt.str_str a t' b t
  | _=>exact absurd (show false=true from fx) Bool.false_ne_true
 | _=>exact absurd (show false=true from fy) Bool.false_ne_true
noncomputable def eqU (x:V) (u:Value):Bool:=match u with
 | .none=>eqV .non x
 | .bool b=>eqV (.bl b) x
 | .int i _=>eqV (.int i) x
 | .str z _=>eqV (.str z) x
 | _=>false
theorem zhH {x y:V} {u:Value} (r:RelV y u) (f:zcm y=true):eqU x u=eqV y x:=by
 cases y with
 | non=>cases r; rfl
 | bl b=>cases r; rfl
 | int i=>obtain ⟨t,rfl⟩:=r; rfl
 | str z=>obtain ⟨t,rfl⟩:=r; rfl
 | _=>exact absurd (show false=true from f) Bool.false_ne_true
theorem zeG {x:V}:∀ {xs:List V} {us:List Value},Vals xs us->xs.all zcm=true->us.any (eqU x)=xs.any fun y=>eqV y x
 | _,_,.nil,_=>rfl
 | y :: xs,u :: us,.cons r t,f=>by
  rw [List.all_cons,Bool.and_eq_true] at f
  rw [List.any_cons,List.any_cons,zhH r f.1,zeG t f.2]
theorem zdS {A:Around} {s:Shared} {x:V} {v:Value} (rx:RelV x v) (fx:zcm x=true):∀ {xs:List V} {us:List Value},Vals xs us->xs.all zcm=true->∀ u ∈ us,SeqAt.EqAt A s u v (eqU x u)
 | _,_,.nil,_=>fun u hu=>by cases hu
 | y :: xs,u :: us,.cons r t,f=>fun u' hu=>by
  rw [List.all_cons,Bool.and_eq_true] at f
  rcases List.mem_cons.mp hu with rfl | hu
  ·rw [zhH r f.1]; exact zly r rx f.1 fx
  ·exact zdS rx fx t f.2 u' hu
noncomputable def inV (x:V) (xs:List V):Bool:=xs.any fun y=>eqV y x
noncomputable def rIn (K:PySem.W.Frag) (neg:Bool):R2:=fun x y H Q=>∃ p xs,y=.ref p/\(SqL K H p xs\/SqT K H p xs)/\zcm x=true/\xs.all zcm=true/\Q (.bl (if neg then !inV x xs else inV x xs)) H
theorem ze9:OpR X (compareOp .In) (rIn X.K false):=by
 intro pins s σ H x y v u Q I rx ry h
 obtain ⟨p,xs,rfl,hq,fx,fs,q⟩:=h
 cases ry
 rcases hq with hq | hq
 ·obtain ⟨its,r,pl,hz⟩:=I.list hq
  refine SeqAt.in_listAt (eqU x) pl.isList (fun w hw=>zdS rx fx r fs w (by simpa using hw)) ⟨.bl _,H,I,rfl,?_⟩
  rw [show its.toArray.any (eqU x)=its.any (eqU x) by simp,zeG r fs]
  exact q
 ·obtain ⟨its,r,pl,hz⟩:=I.tuple hq
  refine SeqAt.in_tupleAt (eqU x) pl (fun w hw=>zdS rx fx r fs w (by simpa using hw)) ⟨.bl _,H,I,rfl,?_⟩
  rw [show its.toArray.any (eqU x)=its.any (eqU x) by simp,zeG r fs]
  exact q
theorem zfD:CallR X (.builtin "len") (fun xs H Q=>∃ p ys,xs=[.ref p]/\(SqL X.K H p ys\/SqT X.K H p ys)/\Q (.int ys.length) H):=by
 intro pins s σ H xs us Q I r h
 obtain ⟨p,ys,rfl,hq,q⟩:=h
 obtain ⟨u,rfl,rx⟩:=vals1 r
 cases rx
 have hn:=line63
 rcases hq with hq | hq
 ·obtain ⟨its,r',pl,hz⟩:=I.list hq
  have hlen:=r'.length
  exact Calls.call_len_list pl.isList (by simp only [List.size_toArray] <;> omega) ⟨.int ys.length,H,I.tok _,⟨s.toks + 1,by rw [List.size_toArray,hlen]⟩,q⟩
 ·obtain ⟨its,r',pl,hz⟩:=I.tuple hq
  have hlen:=r'.length
  exact len_tuple pl (by simp only [List.size_toArray] <;> omega) ⟨.int ys.length,H,I.tok _,⟨s.toks + 1,by rw [List.size_toArray,hlen]⟩,q⟩
theorem CallR.or {f:Value} {r r':List V->Hp->VK->Prop} (h:CallR X f r) (h':CallR X f r'):CallR X f (fun xs H Q=>r xs H Q\/r' xs H Q):=by
 intro pins s σ H xs us Q I rs q
 rcases q with q | q
 ·exact h pins s σ H xs us Q I rs q
 ·exact h' pins s σ H xs us Q I rs q
theorem zf2:CallR X (.type "list") (fun xs H Q=>∃ p ys,xs=[.ref p]/\(SqL X.K H p ys\/SqT X.K H p ys)/\∀ l,H l=none->Q (.ref l) (upd H l (.lst ys))):=by
 intro pins s σ H xs us Q I r h
 obtain ⟨p,ys,rfl,hq,q⟩:=h
 obtain ⟨u,rfl,rx⟩:=vals1 r
 cases rx
 have fin:∀ (its:List Value),Vals ys its->ys.length<=sizeLine->∀ (h':Heap) (c':Nat),(∀ b o',s.heap.get? b=some o'->h'.get? b=some o') ->
   h'.get? s.heap.objs.size=some { cls:=.type "list",dict:=none,data:=.seq its.toArray c',slots:=#[] }->EP X pins σ Q (.ref s.heap.objs.size) { s with heap:=h' }:=fun its r' hz h' c' kp e=>
  ⟨.ref s.heap.objs.size,_,I.laid (t':=s.toks) kp (Nat.le_refl _) (show ObjOk X.prog X.w _ h' _ (.lst ys) from ⟨hz,its,c',r',e⟩),rfl,q _ (I.hok.fresh (Nat.le_refl _))⟩
 rcases hq with hq | hq
 ·obtain ⟨its,r',pl,hz⟩:=I.list hq
  have hlen:=r'.length
  obtain ⟨o,ho,hc,n,hd⟩:=pl.isList
  exact call_list_seq p (.inl rfl) ho hc hd (fun h' c' kp e=>fin its r' hz h' c' kp e) (by simp only [List.size_toArray] <;> omega)
 ·obtain ⟨its,r',pl,hz⟩:=I.tuple hq
  have hlen:=r'.length
  obtain ⟨o,ho,hc,n,hd⟩:=pl
  exact call_list_seq p (.inr rfl) ho hc hd (fun h' c' kp e=>fin its r' hz h' c' kp e) (by simp only [List.size_toArray] <;> omega)
theorem zfp:CallR X (.type "tuple") (fun xs H Q=>∃ p ys,xs=[.ref p]/\((SqL X.K H p ys/\∀ l,H l=none->Q (.ref l) (upd H l (.tup ys)))\/(SqT X.K H p ys/\Q (.ref p) H))):=by
 intro pins s σ H xs us Q I r h
 obtain ⟨p,ys,rfl,h⟩:=h
 obtain ⟨u,rfl,rx⟩:=vals1 r
 cases rx
 rcases h with ⟨hq,q⟩ | ⟨hq,q⟩
 ·obtain ⟨its,r',pl,hz⟩:=I.list hq
  have hlen:=r'.length
  refine call_tuple_list pl.isList (fun h' kp=>?_) (by simp only [List.size_toArray] <;> omega)
  have I1:Inv X pins σ H { s with heap:=h' }:=I.kept (t':=s.toks) kp
  have I2:Inv X pins σ (upd H h'.objs.size (.tup ys)) { s with heap:=h'.push { cls:=.type "tuple",data:=.seq its.toArray } }:=
   I1.laid (t':=s.toks) (fun b o e=>Heap.get?_push_of_some _ e) (Nat.le_refl _) (show ObjOk X.prog X.w _ _ _ (.tup ys) from ⟨hz,its,r',IsTup.new _ _⟩)
  exact ⟨.ref h'.objs.size,_,I2,rfl,q _ (I1.hok.fresh (Nat.le_refl _))⟩
 ·obtain ⟨its,r',pl,hz⟩:=I.tuple hq
  exact call_tuple_same pl ⟨.ref p,H,I,rfl,q⟩
noncomputable def tyV (K:PySem.W.Frag) (T:String) (x:V) (H:Hp):Prop:=match x with
 | .str _=>T = "str"
 | .int _=>T = "int"
 | .ref p=>(T = "list" /\ ∃ xs,SqL K H p xs)\/(T = "tuple" /\ ∃ o,K.lookup p=some o/\o.cls=.type "tuple" /\ o.dict=none) \/
   (T = "dict" /\ ((∃ kvs,H p=some (.dK kvs))\/∃ kvs,H p=some (.dT kvs)))\/(T = "set" /\ ∃ S n,H p=some (.set S n))
 | _=>False
theorem zlO {pins:List (Addr × Obj)} {σ:St} {H:Hp} {s:Shared} {T:String} {x:V} {v:Value} (I:Inv X pins σ H s) (r:RelV x v) (ty:tyV X.K T x H) :
  s.TypeIs v T/\∀ a,v=.ref a->∃ ob,s.heap.get? a=some ob/\ob.dict=none:=by
 cases x with
 | str z=>
  obtain ⟨t,rfl⟩:=r
  cases (show T = "str" from ty)
  exact ⟨typeIs_str s z t,fun _ e=>nomatch e⟩
 | int i=>
  obtain ⟨t,rfl⟩:=r
  cases (show T = "int" from ty)
  exact ⟨typeIs_int s i t,fun _ e=>nomatch e⟩
 | ref p=>
  cases r
  rcases ty with ⟨rfl,xs,hq⟩ | ⟨rfl,o,hk,hc,hd⟩ | ⟨rfl,hk⟩ | ⟨rfl,S,n,hk⟩
  ·obtain ⟨its,_,pl,_⟩:=I.list hq
   refine ⟨pl.isList.typeIs,fun a e=>?_⟩
   cases e
   obtain ⟨o,n,e,c,hd,_⟩:=pl
   exact ⟨o,e,hd⟩
  ·refine ⟨⟨o,I.kIn p o hk,hc⟩,fun a e=>?_⟩
   cases e
   exact ⟨o,I.kIn _ o hk,hd⟩
  ·have z:∃ o,s.heap.get? p=some o/\o.ExactDict:=by
    rcases hk with ⟨kvs,hk⟩ | ⟨kvs,hk⟩
    ·obtain ⟨_,_,_,_,o,_,_,e,ex,_⟩:=I.hok p _ hk
     exact ⟨o,e,ex⟩
    ·obtain ⟨_,_,_,_,o,_,_,e,ex,_⟩:=I.hok p _ hk
     exact ⟨o,e,ex⟩
   obtain ⟨o,e,ex⟩:=z
   refine ⟨⟨o,e,ex.1⟩,fun a e2=>?_⟩
   cases e2
   exact ⟨o,e,ex.2.1⟩
  ·obtain ⟨o,_,_,_,e,ex,_⟩:=I.hok p _ hk
   refine ⟨⟨o,e,ex.1⟩,fun a e2=>?_⟩
   cases e2
   exact ⟨o,e,ex.2.1⟩
 | _=>exact False.elim ty
noncomputable def tBM (K:PySem.W.Frag) (T:String) (r:V->List V->Hp->VK->Prop) (to:TE) (t:TA):TE:=fun σ H Q=>to σ H fun x H1=>tyV K T x H1/\t σ H1 fun xs H2=>r x xs H2 Q
variable {o e:Expr} {es:List Expr} {to:TE} {t:TA} {name:Str} {apos cpos:Pos} {T id:String} {r:V->List V->Hp->VK->Prop}
theorem za2 (pa:PlainAttrs T) (slot:Slot T name id) (hty:typeOf (.builtin id)=pure (.type "method_descriptor")) (hm:MtR X id r) (ho:PE X o to) (ha:PA X (e :: es) t)
  (hbase:autoParam (attributeBase o name X.env (eval o X.env)=eval o X.env) Internal.aut2._auto_1)
  (hfew:autoParam (((backTo cpos (starEach (e :: es) X.env)).all (fun x=>!x.1) && (backToKw cpos (keywordEach [] X.env)).all (fun x=>x.1.isSome)
   && decide ((e :: es).length + ([]:List Keyword).length + (if ([]:List Keyword).isEmpty then 0 else 1) < 30))=true) Internal.aut2._auto_1)
  (hline:autoParam ((apos.endLine == cpos.line)=true) Internal.aut2._auto_1) (hs:autoParam (starEach (e :: es) X.env=(false,eval e X.env) :: starEach es X.env) Internal.aut2._auto_1) (hplain:autoParam ((backTo cpos (starEach es X.env)).any (·.1)=false) Internal.aut2._auto_1) :
  PE X (.Call (.Attribute o name apos) (e :: es) [] cpos) (tBM X.K T r to t):=by
 intro pins s σ H Q I h
 refine wpAny_Call_method_late hbase hfew hline rfl (thn (ho pins s σ H _ I h) fun v s1 zz=>?_)
 obtain ⟨x,H1,I1,r1,ty,q1⟩:=zz
 obtain ⟨h1,h2⟩:=zlO I1 r1 ty
 refine ⟨T,id,pa,slot,hty,h1,h2,?_⟩
 have hA:=ha cpos pins s1 σ H1 _ I1 q1
 rw [hs] at hA ⊢
 refine Calls.callWith_builtin (by show (false || (backTo cpos (starEach es X.env)).any (·.1))=false; rw [hplain] <;> rfl) (Calls.evalArgs_plain ?_)
 exact thn hA fun us s2 ⟨vs,H2,I2,r2,q2⟩=>hm pins s2 σ H2 x vs v us Q I2 r1 r2 q2
/- xs.append(e),list.index on a module's tuple .. are MtR facts of 06m -/
end
end Internal
namespace Internal
open PySem PySem.Spec PyProof.Rows
noncomputable def MtM (X:Cx) (id:String) (r:V->List V->Hp->VK->Prop):Prop:=
 ∀ (pins:List (Addr × Obj)) (s:Shared) (σ:St) (H:Hp) (x:V) (xs:List V) (v:Value) (us:List Value) (Q:VK),Inv X pins σ H s->RelV x v->Vals xs us->r x xs H Q ->
  wpAny (model X.prog X.w) X.A (call (.builtin id) (v :: us)) (EP X pins σ Q) X.xe s
theorem Vals.one:∀ {x:V} {us:List Value},Vals [x] us->∃ u,us=[u]/\RelV x u
 | _,_,h=>by
  cases h with
  | cons r t=>cases t; exact ⟨_,rfl,r⟩
theorem Vals.rep {xs:List V} {us:List Value} (h:Vals xs us):∀ k:Nat,Vals (List.replicate k xs).flatten (List.replicate k us).flatten
 | 0=>.nil
 | k + 1=>by
  rw [List.replicate_succ,List.replicate_succ,List.flatten_cons,List.flatten_cons]
  exact Vals.append h (Vals.rep h k)
theorem zeW (its:List Value):∀ (k:Nat) (acc:List Value),
  List.foldl (fun x1 x2=>x1 ++ x2) acc.toArray (List.replicate k its.toArray)=(acc ++ (List.replicate k its).flatten).toArray
 | 0,acc=>by simp
 | k + 1,acc=>by
  have e:acc.toArray ++ its.toArray=(acc ++ its).toArray:=by simp
  have e2:(acc ++ its) ++ (List.replicate k its).flatten=acc ++ (List.replicate (k + 1) its).flatten:=by
   rw [List.replicate_succ,List.flatten_cons,List.append_assoc]
  rw [<- e2,<- zeW its k (acc ++ its),<- e,List.replicate_succ,List.foldl_cons]
section
variable {X:Cx} {pins:List (Addr × Obj)} {σ:St} {H:Hp} {s:Shared} {l b:Addr} {xs ys zs:List V}
theorem Inv.lset {its its':List Value} {n:Nat} {f:Array Value->Array Value} {t':Nat} (I:Inv X pins σ H s) (hH:H l=some (.lst xs))
  (e:s.heap.get? l=some { cls:=.type "list",data:=.seq its.toArray n }) (hf:f its.toArray=its'.toArray) (hv:Vals ys its') (hz:ys.length<=sizeLine) :
  Inv X pins σ (upd H l (.lst ys)) { s with heap:=s.heap.update l (Obj.mapSeq f),toks:=t' }:=by
 have q:=PySem.IsL.update e f
 rw [hf] at q
 refine I.write (x:=l) (e:=l) (by rw [hH]; exact trivial) (.inl rfl) (fun b' u hb hu=>(Heap.get?_update_other s.heap (Obj.mapSeq f) (Ne.symm hb)).trans hu) ⟨_,q⟩ ?_
 exact ⟨hz,its',_,hv,q⟩
theorem Inv.lnew {its:List Value} {t':Nat} (I:Inv X pins σ H s) (hv:Vals ys its) (hz:ys.length<=sizeLine) :
  Inv X pins σ (upd H s.heap.objs.size (.lst ys)) { s with heap:=s.heap.push { cls:=.type "list",data:=.seq its.toArray },toks:=t' }:=
 I.laid (fun _ _ q=>Heap.get?_push_of_some _ q) (Nat.le_refl _) ⟨hz,its,0,hv,Heap.get?_push_size _ rfl⟩
theorem Inv.fresh (I:Inv X pins σ H s):H s.heap.objs.size=none:=I.hok.fresh (Nat.le_refl _)
theorem Inv.lstM (I:Inv X pins σ H s) (hH:H l=some (.lst xs)):xs.length<=sizeLine/\∃ (its:List Value) (n:Nat),Vals xs its/\xs.length=its.length/\s.heap.get? l=some { cls:=.type "list",data:=.seq its.toArray n }:=by
 obtain ⟨z,its,n,r,e⟩:=I.hok l _ hH
 exact ⟨z,its,n,r,r.length,e⟩
theorem zis {n:Nat} (h:n<=sizeLine):Builtin.List.listTooLong n=false:=by
 unfold Builtin.List.listTooLong
 exact decide_eq_false (by omega)
end
section
variable {X:Cx}
noncomputable def zbx:V->List V->Hp->VK->Prop:=fun x vs H Q=>∃ l xs y,x=.ref l/\vs=[y]/\H l=some (.lst xs)/\xs.length < sizeLine/\Q .non (upd H l (.lst (xs ++ [y])))
theorem zT:MtM X "list.append" zbx:=by
 intro pins s σ H x vs v us Q I rx rv h
 obtain ⟨l,xs,y,rfl,rfl,hH,hz,q⟩:=h
 cases rx
 obtain ⟨u,rfl,ru⟩:=rv.one
 obtain ⟨z,its,n,r,hl,e⟩:=I.lstM hH
 refine call_meets F.slot_list_append ⟨_,e,rfl⟩ F.entry_list_append (F.args_list_append_2 _ _) (PySem.list_append l its.toArray n u (by rw [List.size_toArray]; omega)) ⟨e,?_⟩
 refine ⟨.non,_,I.lset (its':=its ++ [u]) hH e (by simp) (r.append (.cons ru .nil)) ?_,rfl,q⟩
 rw [List.length_append,List.length_singleton]
 omega
noncomputable def zlf:R2:=fun x y H Q=>∃ l b xs zs,x=.ref l/\y=.ref b/\H l=some (.lst xs)/\H b=some (.lst zs)/\xs.length + zs.length<=sizeLine/\∀ p,H p=none->Q (.ref p) (upd H p (.lst (xs ++ zs)))
theorem op_cat:OpR X (binaryOp .Add) zlf:=by
 intro pins s σ H x y v u Q I rx ry h
 obtain ⟨l,b,xs,zs,rfl,rfl,hH,hB,hz,q⟩:=h
 cases rx
 cases ry
 obtain ⟨z,its,n,r,hl,e⟩:=I.lstM hH
 obtain ⟨z2,its2,n2,r2,hl2,e2⟩:=I.lstM hB
 refine PySem.P.add_list e e2 ?_ (by rw [List.size_toArray,List.size_toArray]; omega)
 have ea:its.toArray ++ its2.toArray=(its ++ its2).toArray:=by simp
 rw [ea]
 exact ⟨.ref _,_,I.lnew (t':=s.toks) (r.append r2) (by rw [List.length_append]; omega),rfl,q _ I.fresh⟩
noncomputable def zk2:R2:=fun x y H Q=>∃ l k xs,x=.ref l/\y=.int k/\H l=some (.lst xs)/\-(2 ^ 63)<=k/\k < 2 ^ 63/\xs.length * k.toNat<=sizeLine /\
 ∀ p,H p=none->Q (.ref p) (upd H p (.lst (List.replicate k.toNat xs).flatten))
theorem zkm {α:Type} (xs:List α) (k:Nat):(List.replicate k xs).flatten.length=k * xs.length:=by
 induction k with
 | zero=>simp
 | succ k ih=>rw [List.replicate_succ,List.flatten_cons,List.length_append,ih,Nat.succ_mul,Nat.add_comm]
theorem zlk:OpR X (binaryOp .Mult) zk2:=by
 intro pins s σ H x y v u Q I rx ry h
 obtain ⟨l,k,xs,rfl,rfl,hH,h1,h2,hz,q⟩:=h
 cases rx
 obtain ⟨t,rfl⟩:=ry
 obtain ⟨z,its,n,r,hl,e⟩:=I.lstM hH
 have hlen:its.toArray.size * k.toNat<=sizeLine:=by rw [List.size_toArray,<- hl]; exact hz
 have hcap:¬ its.toArray.size * k.toNat > (2 ^ 63 - 1) / 8:=by
  have:(sizeLine:Nat)<=(2 ^ 63 - 1) / 8:=by decide
  omega
 have hfit:¬ (!Builtin.List.listFitsIndex k)=true:=by
  rw [fitsIndex_both h1 h2]
  exact Bool.false_ne_true
 have hlong:¬ Builtin.List.listTooLong (its.toArray.size * k.toNat)=true:=by
  rw [zis hlen]
  exact Bool.false_ne_true
 have hnew:List.foldl (fun x1 x2=>x1 ++ x2) #[] (List.replicate (if its.toArray.isEmpty=true then 0 else k.toNat) its.toArray)=(List.replicate k.toNat its).flatten.toArray:=by
  have f0:∀ m:Nat,List.foldl (fun x1 x2=>x1 ++ x2) #[] (List.replicate m its.toArray)=(List.replicate m its).flatten.toArray:=fun m=>by
   have:=zeW its m []
   rw [List.nil_append] at this
   exact this
  rw [f0]
  cases its with
  | nil=>simp
  | cons a r'=>rw [if_neg (by simp)]
 refine wpAny_binaryOp_repeat_ref (T := "list") (U := "int") (by decide) ⟨_,e,rfl⟩ (fun s'=>typeIs_int s' k t) noFill_list_mul F.fills_int_mul F.slot_int_rmul repeat_list F.slot_int_index.lookup
  (call_meets F.slot_int_rmul (typeIs_int s k t) F.entry_int_rmul (F.args_int_rmul_2 _ _) (int___rmul___int_list k t l its.toArray n)
   ⟨e,rfl,⟨_,e,rfl⟩,call_meets F.slot_list_mul ⟨_,e,rfl⟩ F.entry_list_mul (F.args_list_mul_2 _ _) (AutoListH.list___mul___list_int_3 l its.toArray n k t hfit hcap hlong) ⟨e,?_⟩⟩)
 rw [hnew]
 exact ⟨.ref _,_,I.lnew (t':=s.toks) (r.rep k.toNat) (by rw [zkm,Nat.mul_comm]; exact hz),rfl,q _ I.fresh⟩
end
section
variable {prog:Program} {w:World} {A:Around} {E:Value->Shared->Prop} {s:Shared}
end
section
variable {X:Cx}
end
end Internal
namespace Att
open PySem PySem.W PySem.Calls PyProof.Rows
theorem zem {P:Params} {h:Heap}:∀ (ns:List Int) (vs:List Value),WellAll P h vs (ns.map WData.int)->IntsAre vs ns:=by
 intro ns
 induction ns with
 | nil=>
  intro vs w
  rw [List.map_nil] at w
  cases w
  exact .nil
 | cons n ns ih=>
  intro vs w
  rw [List.map_cons] at w
  cases w with
  | cons a b=>
   cases a
   exact .cons _ _ (ih _ b)
theorem zhN {l:OpenLaw} {n:Nat} (hn:l.most=some n) {P:Params} {h:Heap} {args:List WData} {vals:List Value}
  (hpre:l.row.toRowW.claim.pre args=true) (hwl:WellAll P h vals args) :
  ∃ a vs ns,vals=[Value.ref a]/\args=[WData.list (ns.map WData.int)]/\h.get? a=some { cls:=.type "list",data:=.seq vs.toArray }/\IntsAre vs ns/\ns.length<=n:=by
 have hsh:WShape.hasAll [] args [.list .int]=true:=(pre_splitW hpre).1
 have hc:l.pre.holds [] { args:=args }=true:=(pre_splitW hpre).2
 obtain ⟨d,r,rfl,h1,h2⟩:=hasAllW_cons hsh
 obtain rfl:=hasAllW_nil h2
 obtain ⟨xs,rfl,h3⟩:=hasW_list h1
 obtain ⟨ns,rfl⟩:=items_int h3
 have hlen:ns.length<=n:=by
  unfold OpenLaw.pre at hc
  have h4:(WTm.not (.lt (.lit (.int (n:Int))) (.len (.arg 0)))).holds [] { args:=[.list (ns.map .int)] }=true:=by
   have h4:=(holds_andW hc).1
   rw [hn] at h4
   exact h4
  have h5:=condW_of h4 (w_not (w_lt w_lit (w_len_list (w_arg rfl))))
  rw [List.length_map] at h5
  refine Nat.le_of_not_lt fun q=>?_
  have q':(n:Int) < ((ns.length:Nat):Int):=by omega
  first
   | (rw [decide_eq_true q'] at h5; exact absurd h5 (by decide))
   | (simp at h5; omega)
 cases hwl with
 | cons w1 w2=>
  cases w2
  cases w1 with
  | list ho hall=>exact ⟨_,_,ns,rfl,rfl,ho,zem ns _ hall,hlen⟩
theorem zhA (l:OpenLaw) (args:List WData):l.row.toRowW.claim.post args (.bool true) args=true:=
 postW_of (r:=l.row.toRowW) (X:=(true == true))
  (show WShape.has [] (.bool true) .bool=true by first | rfl | decide | simp [WShape.has,WShape.arms,WShape.armsAll])
  (show (WTm.eq .res (.lit (.bool true))).value [] { args:=args,res:=some (.bool true),after:=args }=some (.bool (true == true)) from w_eq_bool (w_res rfl) w_lit) rfl
theorem attach_call {l:OpenLaw} {n:Nat} {q:Program} {loose:List Str} {XP:(Str->Option Value)->Heap->Prop} {YP:World->Heap->Prop} {d:DefRec}
  (hn:l.most=some n) (hdf:d.params.defaults=[])
  (call:∀ (w:World) (s₀ s₁:Shared) (mg mb:Str->Option Value) (fa:Addr) (o:Obj) (pm cd doc:Value) (a:Addr) (vs:List Value) (ns:List Int),
   Ground q loose [] XP w s₀ mg mb s₁.heap->YP w s₁.heap ->
   s₁.heap.get? fa=some o->o.data=.func (docDef d.name d.params d.body d.scope pm cd doc)->s₁.heap.CodeRec cd d.name->mg d.name=some (.ref fa) ->
   s₁.heap.get? a=some { cls:=.type "list",data:=.seq vs.toArray }->IntsAre vs ns->ns.length<=n->s₁.gens=#[] ->
   codeAny (model l.prog w) callerA (.call (.ref fa) ⟨[.ref a],[]⟩) (fun r s'=>r=.ok (.ret (.bool true))/\OldK s₁.heap s'.heap/\s'.os=s₁.os/\AllBare s'.gens) s₁) :
  WalkO q loose XP YP l.row.toRowW d [] (fun f vs=>PySem.call f vs):=by
 intro w s₀ s₁ mg mb G Y fa o pm cd doc dV kV ho hd hcd hD hmg hg args vals as hpre hlay hrd hwl hlo
 obtain rfl:dV=.none:=Dflts.none hD hdf
 obtain rfl:kV=.none:=Dflts.noKw hD
 obtain ⟨a,vs,ns,rfl,rfl,hobj,hints,hlen⟩:=zhN hn hpre hwl
 refine enter_call (codeAny_mono (call w s₀ s₁ mg mb fa o pm cd doc a vs ns G Y ho (fd_plain hd) hcd hmg hobj hints hlen hg) fun r s' hq=>?_)
 obtain ⟨rfl,h2,h3,h4⟩:=hq
 exact ⟨.inl ⟨.bool true,.bool true,[],rfl,fun _=>rfl,.bool true,zhA l _,fun _=>⟨List.Pairwise.nil,fun _ hm=>(nomatch hm)⟩⟩,h2,h3,h4⟩
section
variable {prog:Program} {w:World} {A:Around} {E:Value->Shared->Prop} {s:Shared} {K:Frag}
noncomputable def ledger (h:Heap) (L d:Addr):List (Addr × Obj):=(List.range h.objs.size).filterMap fun a=>if a=L\/a=d then none else (h.get? a).map fun o=>(a,o)
end
end Att
namespace Internal
open PySem PySem.Spec PyProof.Rows
theorem zfe:∀ {vs:List Value} {ns:List Int},IntsAre vs ns->Vals (ns.map V.int) vs
 | _,_,.nil=>.nil
 | _,_,.cons n t h=>.cons ⟨t,rfl⟩ (zfe h)
noncomputable def ziV (H:Hp):Prop:=∀ b,H b=none\/∃ o xs,H b=some (.frz o (.lst xs))
theorem zi8 {P:Program} {w:World} {K:PySem.W.Frag} {mg mb:Str->Option Value} {CX:CXT} {k:Nat} {fa a:Addr} {fd:FuncData} {x:Str} {sp:Sp} {s₁:Shared} {vs:List Value} {ns:List Int}
  (KX:K.In s₁.heap) (hns:s₁.heap.Ns mainGlobals mg) (hb:s₁.heap.Ns builtinsNs mb) (hbb:∀ x:Str,x ≠ "__name__" -> mb x=bootBuiltins x) (hlim:s₁.heap.NoLimit) (hg:s₁.gens=#[])
  (ha:s₁.heap.get? a=some { cls:=.type "list",data:=.seq vs.toArray }) (hi:IntsAre vs ns) (hl:ns.length<=sizeLine) (hr:Room k callerA)
  (F:∀ base:Heap,K.In base->base.Ns mainGlobals mg->FnOk P w K mg base CX k fa fd [x] sp) (hbind:∀ (s:Shared) (u:Value),BindsTo s fd ⟨[u],[]⟩ [(x,u)])
  (hsp:∀ H:Hp,ziV H->SqL K H a (ns.map V.int)->sp [.ref a] H (fun v _=>v=.bl true) fun _ _ _=>False)
  (hCX:∀ H e s',CX [] H s₁ (fun _ _ _=>False) e s'->False) :
  codeAny (model P w) callerA (.call (.ref fa) ⟨[.ref a],[]⟩) (fun r s'=>r=.ok (.ret (.bool true))/\OldK s₁.heap s'.heap/\s'.os=s₁.os/\AllBare s'.gens) s₁:=by
 have rv:=zfe hi
 have lenV:=hi.length
 -- from an abstract heap in which nothing but the script may be tracked
 have core:∀ H:Hp,ziV H->SqL K H a (ns.map V.int)->HOk P w H s₁.heap->(∀ b,H b ≠ none->b=a)->(H a ≠ none->K.lookup a=none) ->
   codeAny (model P w) callerA (.call (.ref fa) ⟨[.ref a],[]⟩) (fun r s'=>r=.ok (.ret (.bool true))/\OldK s₁.heap s'.heap/\s'.os=s₁.os/\AllBare s'.gens) s₁:=by
  intro H hO hS hok hA hK
  have base_of:∀ {b:Addr} {o:Obj},s₁.heap.get? b=some o->H b=none->(zc7 s₁.heap H).get? b=some o:=fun e n=>zi6 e n
  have noA:∀ {b:Addr} {o:Obj} {es:Array DictEntry} {ep:Nat},s₁.heap.get? b=some o->o.data=.dict es ep->H b=none:=fun {b o es ep} e d=>by
   cases q:H b with
   | none=>rfl
   | some u=>
    have e':b=a:=hA b (by rw [q]; simp)
    subst e'
    rw [ha] at e; cases e
    have d':Data.seq vs.toArray _=Data.dict es ep:=d
    cases d'
  have nsK:∀ {b:Addr} {m:Str->Option Value},s₁.heap.Ns b m->(zc7 s₁.heap H).Ns b m:=fun {b m} ⟨o,es,ep,e,d,r⟩=>⟨o,es,ep,base_of e (noA e d),d,r⟩
  have hKb:K.In (zc7 s₁.heap H):=fun b o e=>base_of (KX b o e) (by
   cases q:H b with
   | none=>rfl
   | some u=>
    have e':b=a:=hA b (by rw [q]; simp)
    subst e'
    rw [hK (by rw [q]; simp)] at e; cases e)
  have hM:Mod K mg (zc7 s₁.heap H):=⟨hKb,nsK hns,⟨mb,nsK hb,hbb⟩,let ⟨mc,h1,h2⟩:=hlim; ⟨mc,nsK h1,h2⟩⟩
  have e0:Env0 P w K mg (zc7 s₁.heap H) callerA [] s₁ H:=⟨rfl,hM,fun b o e=>zka e,Nat.le_of_eq (zhL _ _),trivial,fun b hb=>absurd (show b ∈ ([]:List Addr) from hb) (by simp),hok,.of_eq hg⟩
  refine codeAny_mono ((F _ hKb (nsK hns)).run callerA [] s₁ H ⟨[.ref a],[]⟩ [.ref a] [.ref a] _ _ hr e0 (hbind s₁ (.ref a)) (.cons rfl .nil) (hsp H hO hS)) fun r s' h=>?_
  cases r with
  | error e=>exact (hCX H e s' h).elim
  | ok fl=>
   cases fl with
   | next=>exact False.elim h
   | brk=>exact False.elim h
   | cont=>exact False.elim h
   | ret u=>
    obtain ⟨v,H',os,bare,un,hok',r',q⟩:=h
    have q':v=.bl true:=q
    subst q'
    obtain rfl:u=Value.bool true:=r'
    refine ⟨rfl,OldK.of_keep fun b o e=>?_,os,bare⟩
    cases q:H b with
    | none=>exact un.keep b o e q (by intro z; exact absurd (show b ∈ ([]:List Addr) from z) (by simp)) (by simp)
    | some u=>
     rcases hO b with z | ⟨ob,xs,z⟩
     ·rw [q] at z; cases z
     ·have z2:=un.frzs b ob _ z
      obtain ⟨e1,_⟩:=hok b _ z
      obtain ⟨e2,_⟩:=hok' b _ z2
      rw [e] at e1; cases e1
      exact e2
 cases hk:K.lookup a with
 | some o=>
  -- the script is one of the module's own objects
  have e:=KX a o hk
  rw [ha] at e
  cases e
  refine core (fun _=>none) (fun _=>.inl rfl) (.inr ⟨_,vs.toArray,_,hk,rfl,rfl,rfl,by rw [List.size_toArray,lenV]; exact hl,by simpa using rv⟩) (fun b u z=>by have z':(none:Option HO)=some u:=z; cases z') (fun b z=>absurd rfl z) fun z=>absurd rfl z
 | none=>
  refine core (fun b=>if b=a then some (.frz { cls:=.type "list",data:=.seq vs.toArray } (.lst (ns.map V.int))) else none) (fun b=>?_) (.inl (.inr ⟨{ cls:=.type "list",data:=.seq vs.toArray },if_pos rfl⟩)) (fun b u z=>?_) (fun b z=>?_) fun _=>hk
  ·by_cases hb:b=a
   ·exact .inr ⟨_,_,if_pos hb⟩
   ·exact .inl (if_neg hb)
  ·by_cases hb:b=a
   ·have z':=(if_pos hb).symm.trans z
    cases z'
    subst hb
    exact ⟨ha,by rw [List.length_map]; exact hl,vs,_,rv,ha⟩
   ·have z':=(if_neg hb).symm.trans z
    cases z'
  ·by_cases hb:b=a
   ·exact hb
   ·exact absurd (if_neg hb) z
end Internal
namespace Internal
open PySem PySem.Spec PyProof.Rows
noncomputable abbrev KOf {K:PySem.W.Frag} {h:Heap} (_:K.In h):PySem.W.Frag:=K
theorem walk_of {l:PySem.W.OpenLaw} {n k:Nat} {q:Program} {loose:List Str} {XP:(Str->Option Value)->Heap->Prop} {YP:World->Heap->Prop} {d:DefRec} {K:Params->PySem.W.Frag} {CX:World->CXT} {sp:World->Sp} {x:Str}
  (hn:l.most=some n) (hn2:n<=sizeLine) (hdf:d.params.defaults=[]) (hr:Room k callerA)
  (hY:∀ (w:World) (h:Heap),YP w h->(K w.params).In h)
  (F:∀ (w:World) (mg:Str->Option Value) (fa:Addr) (h:Heap),(K w.params).In h->h.Ns mainGlobals mg->mg d.name=some (.ref fa) ->
   ∃ fd:FuncData,(∀ (s:Shared) (u:Value),BindsTo s fd ⟨[u],[]⟩ [(x,u)]) /\
    ∀ base:Heap,(K w.params).In base->base.Ns mainGlobals mg->FnOk l.prog w (K w.params) mg base (CX w) k fa fd [x] (sp w))
  (hsp:∀ (w:World) (H:Hp) (a:Addr) (ns:List Int),ns.length<=n->ziV H->SqL (K w.params) H a (ns.map V.int)->sp w [.ref a] H (fun v _=>v=.bl true) fun _ _ _=>False)
  (hCX:∀ (w:World) (H:Hp) (s:Shared) (e:Value) (s':Shared),CX w [] H s (fun _ _ _=>False) e s'->False) :
  PySem.W.WalkO q loose XP YP l.row.toRowW d [] (fun f vs=>PySem.call f vs):=by
 refine Att.attach_call hn hdf fun w s₀ s₁ mg mb fa o pm cd doc a vs ns G Y ho hd hcd hmg hobj hints hlen hg=>?_
 have KX:=hY w _ Y
 obtain ⟨fd,hb,hF⟩:=F w mg fa _ KX G.T.g hmg
 exact zi8 KX G.T.g G.T.b G.T.builtins G.T.nolimit hg hobj hints (Nat.le_trans hlen hn2) hr hF hb (fun H hO hS=>hsp w H a ns hlen hO hS) fun H e s'=>hCX w H s₁ e s'
end Internal
namespace Internal
open PySem PySem.Spec PyProof.Rows
noncomputable def zaa (s:Stmt) (j:Nat):Stmt:=match s with
 | .ClassDef _ _ _ body _ _ _ _ _ _ _=>body.getD j (.Pass ⟨0,0,0,0⟩)
 | _=>.Pass ⟨0,0,0,0⟩
noncomputable def zB (s:Stmt):Arguments:=match s with
 | .FunctionDef _ a _ _ _ _ _ _ _ _=>a
 | _=>{ posonlyargs:=[],args:=[],vararg:=none,kwonlyargs:=[],kw_defaults:=[],kwarg:=none,defaults:=[] }
noncomputable def zA (s:Stmt):List Stmt:=match s with
 | .FunctionDef _ _ b _ _ _ _ _ _ _=>b
 | _=>[]
noncomputable def zi (s:Stmt):Scope:=match s with
 | .FunctionDef _ _ _ _ _ _ sc _ _ _=>sc
 | _=>{ kind:=.function,names:=[],isGenerator:=false,isCoroutine:=false }
noncomputable abbrev CX0:CXT:=fun _ _ _ _ _ _=>False
noncomputable abbrev E0:XK:=fun _ _ _=>False
set_option genInjectivity false in
set_option genSizeOf false in
structure Fun (K:PySem.W.Frag) (x qual:Str) (st:Stmt) (f:Addr) (fd:FuncData):Prop where
 ex:∃ (oc:Value) (od:Option Addr) (kV doc pm:Value) (an:Option Addr) (cdv ct:Value) (osl:Array (Option Value)),
  fd=PySem.W.fnOf x qual (zB st) (zA st) (zi st) .none kV doc pm an cdv ct/\K.lookup f=some ⟨oc,od,.func fd,osl⟩/\PySem.W.codeIn K cdv qual=true
 kp:PySem.W.keepIn K (.ref f)=true
section
variable {P:Program} {w:World} {K:PySem.W.Frag} {mg:Str->Option Value} {base:Heap}
theorem Fun.binds {x qual:Str} {st:Stmt} {f:Addr} {fd:FuncData} {ps:List Str} (F:Fun K x qual st f fd)
  (h:∀ (kV doc pm:Value) (an:Option Addr) (cdv ct:Value) (us:List Value),us.length=ps.length->bindArgs (PySem.W.fnOf x qual (zB st) (zA st) (zi st) .none kV doc pm an cdv ct) ⟨us,[]⟩=pure (ps.zip us)):Binds K fd ps []:=by
 obtain ⟨oc,od,kV,doc,pm,an,cdv,ct,osl,rfl,lk,hcd⟩:=F.ex
 exact .all (h kV doc pm an cdv ct)
theorem zo {x qual:Str} {st:Stmt} {f:Addr} {oc:Value} {od an:Option Addr} {osl:Array (Option Value)} {kV doc pm cdv ct:Value} (l:K.lookup f=some ⟨oc,od,.func (PySem.W.fnOf x qual (zB st) (zA st) (zi st) .none kV doc pm an cdv ct),osl⟩)
  (c:PySem.W.codeIn K cdv qual=true) (k:PySem.W.keepIn K (.ref f)=true):Fun K x qual st f (PySem.W.fnOf x qual (zB st) (zA st) (zi st) .none kV doc pm an cdv ct):=⟨⟨oc,od,kV,doc,pm,an,cdv,ct,osl,rfl,l,c⟩,k⟩
end
section
variable {X:Cx}
theorem pv (i:Nat) {x:Str} {pos:Pos} (hN:autoParam (X.N[i]?=some x) Internal.aut2._auto_1) (hv:Vis X.env.scope x:=by first | exact Or.inl rfl | exact Or.inr (Or.inl rfl) | exact Or.inr (Or.inr rfl)) (hd:autoParam ((x == ("__debug__" : Str))=false) Internal.aut1._auto_1)
  (hcd:autoParam ((x == ("__classdict__" : Str))=false) Internal.aut1._auto_1):PE X (.Name x pos) (zg2 i):=zlE hN hv hd hcd
end
noncomputable def Same (H H':Hp):Prop:=∀ b o,H b=some o->H' b=some o
theorem Same.refl (H:Hp):Same H H:=fun _ _ h=>h
theorem Same.trans {H H1 H2:Hp} (a:Same H H1) (b:Same H1 H2):Same H H2:=fun c o h=>b c o (a c o h)
theorem Same.seq {K:PySem.W.Frag} {H H':Hp} {a:Addr} {xs:List V} (e:Same H H') (h:SqL K H a xs):SqL K H' a xs:=by
 rcases h with (h | ⟨o,h⟩) | h
 ·exact .inl (.inl (e _ _ h))
 ·exact .inl (.inr ⟨o,e _ _ h⟩)
 ·exact .inr h
end Internal
set_option Elab.async false
set_option linter.all false
set_option maxRecDepth 100000
namespace Internal
open PySem PySem.Spec PyProof.Rows
namespace BT
theorem len:bootBuiltins "len" = some (.builtin "len"):=by decide +kernel
theorem max:bootBuiltins "max" = some (.builtin "max"):=by decide +kernel
theorem min:bootBuiltins "min" = some (.builtin "min"):=by decide +kernel
theorem sorted:bootBuiltins "sorted" = some (.builtin "sorted"):=by decide +kernel
theorem isinstance:bootBuiltins "isinstance" = some (.builtin "isinstance"):=by decide +kernel
theorem bool:bootBuiltins "bool" = some (.type "bool"):=by decide +kernel
theorem list:bootBuiltins "list" = some (.type "list"):=by decide +kernel
theorem tuple:bootBuiltins "tuple" = some (.type "tuple"):=by decide +kernel
theorem ValueError:bootBuiltins "ValueError" = some (.type "ValueError"):=by decide +kernel
end BT
noncomputable def sz (i:Int):Nat:=Builtin.Int.intBits i
theorem sz_le {i:Int} {n:Nat}:sz i<=n ↔ i.natAbs < 2 ^ n:=by
 unfold sz Builtin.Int.intBits
 by_cases h:i=0
 ·subst h; simp; exact Nat.two_pow_pos n
 ·have h':(i == 0)=false:=by simp [h]
  rw [h',if_neg (by decide)]
  have hn:i.natAbs ≠ 0:=by omega
  rw [<- Nat.log2_lt hn]; omega
theorem zmd {i:Int} {n:Nat} (h:i.natAbs < 2 ^ n):sz i<=n:=sz_le.mpr h
theorem sz200 {i:Int} (h1:-1606938044258990275541962092341162602522202993782792835301376 < i) (h2:i < 1606938044258990275541962092341162602522202993782792835301376):sz i<=200:=zmd (by
 have:(2:Nat) ^ 200=1606938044258990275541962092341162602522202993782792835301376:=by decide
 omega)
section
variable {X:Cx}
noncomputable def CMulS (i j:Int):Prop:=sz i + sz j<=134217728
theorem CMulS.ok {i j:Int} (h:CMulS i j):IntMulOk i j:=by
 unfold IntMulOk
 have e:Builtin.Int.intTooBig (((Builtin.Int.intBits i:Nat):Int) + ((Builtin.Int.intBits j:Nat):Int))=false:=by
  unfold Builtin.Int.intTooBig
  have hb:bitsLine=134217728:=by decide
  rw [decide_eq_false]
  rw [hb]
  unfold CMulS sz at h
  omega
 rw [e]; simp
theorem CMulS.of {i j:Int} {n m:Nat} (h1:sz i<=n) (h2:sz j<=m) (h:n + m<=134217728):CMulS i j:=by unfold CMulS; omega
theorem op_mulS:OpR X (binaryOp .Mult) (rI CMulS fun i j=>.int (i * j)):=opI fun _ _ _ _ _ _ _ hc q=>mul_int q hc.ok
noncomputable def zds:R2:=fun x y H Q=>rI CMulS (fun i j=>.int (i * j)) x y H Q\/zk2 x y H Q
theorem zcb:OpR X (binaryOp .Mult) zds:=op_mulS.or zlk
noncomputable def zE (K:PySem.W.Frag):R2:=fun x y H Q=>rI0 (fun i j=>.int (i + j)) x y H Q\/zlf x y H Q\/zju K x y H Q
theorem zt:OpR X (binaryOp .Add) (zE X.K):=op_add.or (op_cat.or zks)
noncomputable def zgJ:R2:=rI (fun _ j=>j ≠ 0) fun i j=>.int (i.fmod j)
theorem zaQ:OpR X (binaryOp .Mod) zgJ:=zjT
mutual
inductive RepD (K:PySem.W.Frag) (H:Hp):V->PyData->Prop
 | non:RepD K H .non .none
 | bl (b:Bool):RepD K H (.bl b) (.bool b)
 | int (i:Int):RepD K H (.int i) (.int i)
 | str (x:Str) (ok:PyData.canLay0 (.str x)=true):RepD K H (.str x) (.str x)
 | lst {a:Addr} {vs:List V} {ds:List PyData}:SqL K H a vs->RepAll K H vs ds->RepD K H (.ref a) (.list ds)
 | tup {a:Addr} {vs:List V} {ds:List PyData}:SqT K H a vs->RepAll K H vs ds->RepD K H (.ref a) (.tuple ds)
inductive RepAll (K:PySem.W.Frag) (H:Hp):List V->List PyData->Prop
 | nil:RepAll K H [] []
 | cons {v:V} {d:PyData} {vs:List V} {ds:List PyData}:RepD K H v d->RepAll K H vs ds->RepAll K H (v :: vs) (d :: ds)
end
mutual
theorem RepD.reads {pins:List (Addr × Obj)} {σ:St} {H:Hp} {s:Shared} (I:Inv X pins σ H s):∀ {v:V} {d:PyData} {u:Value},RepD X.K H v d->RelV v u->∃ as,Reads s.heap u d as
 | _,_,_,.non,r=>by cases (show _=Value.none from r); exact ⟨_,.none⟩
 | _,_,_,.bl b,r=>by cases (show _=Value.bool b from r); exact ⟨_,.bool b⟩
 | _,_,_,.int i,r=>by obtain ⟨t,rfl⟩:=(show ∃ t,_=Value.int i t from r); exact ⟨_,.int i t⟩
 | _,_,_,.str x _,r=>by obtain ⟨t,rfl⟩:=(show ∃ t,_=Value.str x t from r); exact ⟨_,.str x t⟩
 | _,_,_,.lst h k,r=>by
  cases (show _=Value.ref _ from r)
  obtain ⟨its,rv,⟨o,n,h1,h2,_,h3⟩,_⟩:=I.list h
  obtain ⟨as,q⟩:=RepAll.reads I k rv
  exact ⟨_,.list h1 h2 h3 (by simpa using q)⟩
 | _,_,_,.tup h k,r=>by
  cases (show _=Value.ref _ from r)
  obtain ⟨its,rv,⟨o,h1,h2,n,h3⟩,_⟩:=I.tuple h
  obtain ⟨as,q⟩:=RepAll.reads I k rv
  exact ⟨_,.tuple h1 h2 h3 (by simpa using q)⟩
theorem RepAll.reads {pins:List (Addr × Obj)} {σ:St} {H:Hp} {s:Shared} (I:Inv X pins σ H s):∀ {vs:List V} {ds:List PyData} {us:List Value},RepAll X.K H vs ds->Vals vs us->∃ as,ReadsAll s.heap us ds as
 | _,_,_,.nil,.nil=>⟨_,.nil⟩
 | _,_,_,.cons h k,.cons r t=>by
  obtain ⟨as,q⟩:=RepD.reads I h r
  obtain ⟨bs,p⟩:=RepAll.reads I k t
  exact ⟨_,.cons q p⟩
end
mutual
theorem RepD.lay {K:PySem.W.Frag} {H:Hp}:∀ {v:V} {d:PyData},RepD K H v d->d.canLay0=true
 | _,_,.non=>rfl
 | _,_,.bl _=>rfl
 | _,_,.int _=>rfl
 | _,_,.str _ ok=>ok
 | _,_,.lst _ k=>by rw [PyData.canLay0]; exact RepAll.lay k
 | _,_,.tup _ k=>by rw [PyData.canLay0]; exact RepAll.lay k
theorem RepAll.lay {K:PySem.W.Frag} {H:Hp}:∀ {vs:List V} {ds:List PyData},RepAll K H vs ds->PyData.canLayAll0 ds=true
 | _,_,.nil=>rfl
 | _,_,.cons h k=>by rw [PyData.canLayAll0,RepD.lay h,RepAll.lay k]; rfl
end
theorem Same.seqT {K:PySem.W.Frag} {H H':Hp} {a:Addr} {xs:List V} (e:Same H H') (h:SqT K H a xs):SqT K H' a xs:=by
 rcases h with (h | ⟨o,h⟩) | h
 ·exact .inl (.inl (e _ _ h))
 ·exact .inl (.inr ⟨o,e _ _ h⟩)
 ·exact .inr h
mutual
theorem Same.rep {K:PySem.W.Frag} {H H':Hp} (e:Same H H'):∀ {v:V} {d:PyData},RepD K H v d->RepD K H' v d
 | _,_,.non=>.non
 | _,_,.bl b=>.bl b
 | _,_,.int i=>.int i
 | _,_,.str x ok=>.str x ok
 | _,_,.lst h k=>.lst (e.seq h) (e.repAll k)
 | _,_,.tup h k=>.tup (e.seqT h) (e.repAll k)
theorem Same.repAll {K:PySem.W.Frag} {H H':Hp} (e:Same H H'):∀ {vs:List V} {ds:List PyData},RepAll K H vs ds->RepAll K H' vs ds
 | _,_,.nil=>.nil
 | _,_,.cons h k=>.cons (e.rep h) (e.repAll k)
end
noncomputable def zC (K:PySem.W.Frag):R2:=fun x y H Q=>(∃ d e,RepD K H x d/\RepD K H y e/\min d.depth e.depth<=60/\Q (.bl (PyData.eqv d e)) H)\/rEq x y H Q
noncomputable def zbD (K:PySem.W.Frag):R2:=fun x y H Q=>(∃ d e,RepD K H x d/\RepD K H y e/\min d.depth e.depth<=60/\Q (.bl (!PyData.eqv d e)) H)\/rNe x y H Q
theorem zp (hu:X.A.units + 64 < cLine):OpR X (compareOp .Eq) (zC X.K):=by
 refine OpR.or ?_ zl1
 intro pins s σ H x y v u Q I rx ry h
 obtain ⟨d,e,h1,h2,hd,q⟩:=h
 obtain ⟨as,r1⟩:=h1.reads I rx
 obtain ⟨bs,r2⟩:=h2.reads I ry
 exact PySem.SeqAt.compareEq_reads r1 r2 h1.lay h2.lay (by omega) ⟨.bl _,H,I,rfl,q⟩
theorem zbG (hu:X.A.units + 64 < cLine):OpR X (compareOp .NotEq) (zbD X.K):=by
 refine OpR.or ?_ zmt
 intro pins s σ H x y v u Q I rx ry h
 obtain ⟨d,e,h1,h2,hd,q⟩:=h
 obtain ⟨as,r1⟩:=h1.reads I rx
 obtain ⟨bs,r2⟩:=h2.reads I ry
 exact PySem.SeqAt.compareNe_reads r1 r2 h1.lay h2.lay (by omega) ⟨.bl _,H,I,rfl,q⟩
noncomputable def zf4 (K:PySem.W.Frag):List V->Hp->VK->Prop:=fun xs H Q=>∃ x c t b cv,xs=[x,c]/\RelV c cv/\TyOf K H x t/\PySem.W.kitOne K t cv=some b/\Q (.bl b) H
theorem zgc:CallR X (.builtin "isinstance") (zf4 X.K):=by
 intro pins s σ H xs us Q I r h
 obtain ⟨x,c,t,b,cv,rfl,rc,ty,e,q⟩:=h
 obtain ⟨u,w',rfl,r1,r2⟩:=vals2 r
 have ec:w'=cv:=by
  cases c with
  | ty n=>exact (show w'=_ from r2).trans (show cv=_ from rc).symm
  | ref a=>exact (show w'=_ from r2).trans (show cv=_ from rc).symm
  | non=>exact (show w'=_ from r2).trans (show cv=_ from rc).symm
  | bl b=>exact (show w'=_ from r2).trans (show cv=_ from rc).symm
  | _=>obtain ⟨_,rfl⟩:=rc; simp [PySem.W.kitOne,PySem.W.kitCls] at e; cases ty <;> simp at e
 subst ec
 exact zhV I r1 ty e fun tk=>⟨.bl b,H,I.tok tk,rfl,q⟩
end
noncomputable def za4 (K:PySem.W.Frag):List V->Hp->VK->Prop:=fun xs H Q=>∃ p ys,xs=[.ref p]/\(SqL K H p ys\/SqT K H p ys)/\Q (.int ys.length) H
noncomputable def zjm:List V->Hp->VK->Prop:=fun xs H Q=>∃ i j,xs=[.int i,.int j]/\Q (.int (if j > i then j else i)) H
noncomputable def zjx:List V->Hp->VK->Prop:=fun xs H Q=>∃ i j,xs=[.int i,.int j]/\Q (.int (if j < i then j else i)) H
noncomputable def zcN (K:PySem.W.Frag):List V->Hp->VK->Prop:=fun xs H Q=>∃ p ys,xs=[.ref p]/\(SqL K H p ys\/SqT K H p ys)/\∀ l,H l=none->Q (.ref l) (upd H l (.lst ys))
noncomputable def zdP (K:PySem.W.Frag):List V->Hp->VK->Prop:=fun xs H Q=>∃ p ys,xs=[.ref p]/\((SqL K H p ys/\∀ l,H l=none->Q (.ref l) (upd H l (.tup ys)))\/(SqT K H p ys/\Q (.ref p) H))
section
variable {X:Cx}
theorem zU:CallR X (.builtin "len") (za4 X.K):=zfD
theorem zcz (hc:X.calm=true):CallR X (.builtin "max") zjm:=zih hc
theorem zid (hc:X.calm=true):CallR X (.builtin "min") zjx:=zhW hc
theorem zgU:CallR X (.type "list") (zcN X.K):=zf2
theorem zgg:CallR X (.type "tuple") (zdP X.K):=zfp
noncomputable abbrev zb4 (K:PySem.W.Frag) (ta:TE):TT:=fun σ H Q=>ta σ H fun x H'=>∃ k,zgC K x H' k/\Q k H'
theorem zau {a:Expr} {ta:TE} (ha:PE X a ta) (he:∀ whole,isTrue a X.env whole=(do let v <- whole; standAt a.pos; holding [v] (truthy v))):PT X a (zb4 X.K ta):=ziS ha he
end
noncomputable def zkZ (t u:TS):TS:=fun D σ H=>∃ M:St->Hp->Prop,t { D with nx:=M } σ H/\∀ σ' H',M σ' H'->u D σ' H'
theorem zbm {X:Cx} {st:Stmt} {rest:List Stmt} {t u:TS} (h1:PS X st t) (h2:PSs X rest u):PSs X (st :: rest) (zkZ t u):=by
 intro pins s σ H D I h
 obtain ⟨M,ht,hM⟩:=h
 refine wpAny_execs_cons (thn (h1 pins s σ H _ I ht) fun f s1 q=>?_)
 cases f with
 | next=>
  obtain ⟨σ',H',I',q'⟩:=q
  exact h2 pins s1 σ' H' D I' (hM σ' H' q')
 | brk=>exact q
 | cont=>exact q
 | ret u=>exact q
noncomputable def NoX (CX:CXT):Prop:=∀ (outer:List Env) (H:Hp) (s:Shared) (e:Value) (s':Shared),CX outer H s E0 e s'->False
theorem zy {CX:CXT} {X:Cx} (h:NoX CX):zcf CX X E0:=fun _ _ H s e s' _ q=>(h _ H s e s' q).elim
theorem Fun.okN {P:Program} {w:World} {K:PySem.W.Frag} {mg:Str->Option Value} {base:Heap} {CX:CXT} {x qual:Str} {st:Stmt} {f:Addr} {fd:FuncData} {N ps:List Str} {k:Nat} {sp:Sp} (F:Fun K x qual st f fd) (S:FnScope N ps (zi st)) (len:∀ vs H Q E,sp vs H Q E->vs.length=ps.length)
  (hbody:∀ (cdv:Value) (A:Around) (outer:List Env) (s:Shared) (H:Hp) (vs:List V) (Q:VK) (E:XK),Room k (A.deeper (envOfC qual (zi st) s.heap.objs.size f cdv))->sp vs H Q E ->
   ∃ t,PSs (zaB CX P w K mg base N qual (zi st) f cdv A outer s H E).nox (zA st) t/\t { nx:=fun _ H'=>Q .non H',rt:=Q } (start N vs) H):FnOk P w K mg base CX (k + 1) f fd ps sp:=by
 obtain ⟨oc,od,kV,doc,pm,an,cdv,ct,osl,rfl,lk,hcd⟩:=F.ex
 refine zjq lk hcd S len fun A outer s H vs Q E hr hsp=>?_
 obtain ⟨t,h,q⟩:=hbody cdv A outer s H vs Q E hr hsp
 exact ⟨t,h.nox,q⟩
section
variable {σ:St} {H:Hp} {Q:VK} {D:Ends} {ta tb tc te:TE} {t u:TS} {K:PySem.W.Frag}
theorem zmh {i:Nat} {v:V} (e:σ[i]?=some (some v)) (q:Q v H):zg2 i σ H Q:=⟨v,e,q⟩
theorem x_c {v:V} (q:Q v H):tC v σ H Q:=q
theorem zmC {g:Int->Int->V} {i j:Int} (q:Q (g i j) H):rI0 g (.int i) (.int j) H Q:=⟨i,j,rfl,rfl,q⟩
theorem zlV {i j:Int} (q:Q (.int (i + j)) H):zE K (.int i) (.int j) H Q:=.inl ⟨i,j,rfl,rfl,q⟩
theorem zl2 {i j:Int} (c:CMulS i j) (q:Q (.int (i * j)) H):zds (.int i) (.int j) H Q:=.inl ⟨i,j,rfl,rfl,c,q⟩
theorem zmz {i j:Int} (h0:0 < j) (q:Q (.int (i % j)) H):zgJ (.int i) (.int j) H Q:=
 ⟨i,j,rfl,rfl,by omega,by show Q (.int (i.fmod j)) H; rw [Int.fmod_eq_emod_of_nonneg _ (Int.le_of_lt h0)]; exact q⟩
theorem zme {i j k:Int} (c:zgQ i j) (e:i ^ j.toNat=k) (q:Q (.int k) H):rI zgQ (fun i j=>.int (i ^ j.toNat)) (.int i) (.int j) H Q:=⟨i,j,rfl,rfl,c,by show Q (.int (i ^ j.toNat)) H; rw [e]; exact q⟩
theorem zmn {i:Int} (q:Q (.int (-i)) H):rU (fun i=>.int (-i)) (.int i) H Q:=⟨i,rfl,q⟩
theorem dI {i j:Int}:decide (V.int i=V.int j)=decide (i=j):=by simp
theorem zl7 {i j:Int} (q:Q (.bl (decide (i=j))) H):zC K (.int i) (.int j) H Q:=.inr ⟨rfl,by rw [dI]; exact q⟩
theorem zmf {i j:Int} (q:Q (.bl (!decide (i=j))) H):zbD K (.int i) (.int j) H Q:=.inr ⟨rfl,by rw [dI]; exact q⟩
theorem zfv {x y:V} {d e:PyData} (h1:RepD K H x d) (h2:RepD K H y e) (hd:min d.depth e.depth<=60) (q:Q (.bl (PyData.eqv d e)) H):zC K x y H Q:=.inl ⟨d,e,h1,h2,hd,q⟩
theorem zl5 {x y:V} {d e:PyData} (h1:RepD K H x d) (h2:RepD K H y e) (hd:min d.depth e.depth<=60) (q:Q (.bl (!PyData.eqv d e)) H):zbD K x y H Q:=.inl ⟨d,e,h1,h2,hd,q⟩
theorem zha {a:Addr} {xs:List V} {i:Int} {v:V} (h:SqL K H a xs) (e:atI xs i=some v) (q:Q v H):rIx K (.ref a) (.int i) H Q:=.inl ⟨a,xs,i,v,rfl,rfl,h,e,q⟩
theorem zms {a:Addr} {xs:List V} {i:Int} {v:V} (h:SqT K H a xs) (e:atI xs i=some v) (q:Q v H):rIx K (.ref a) (.int i) H Q:=.inr (.inl ⟨a,xs,i,v,rfl,rfl,h,e,q⟩)
theorem zmP {T:Bool->Prop} {b:Bool} (q:T b):∃ k,V.bl b=.bl k/\T k:=⟨b,rfl,q⟩
theorem zls {T:Bool->Prop} {b:Bool} (q:T b):∃ k,zgC K (.bl b) H k/\T k:=⟨b,rfl,q⟩
theorem zlh (q:ta σ H fun x H1=>∃ c,x=.bl c/\if c=true then tb σ H1 Q else Q (.bl false) H1):zjA ta tb σ H Q:=q
theorem zl8 (q:ta σ H fun x H1=>∃ c,x=.bl c/\if c=true then Q (.bl true) H1 else tb σ H1 Q):zk5 ta tb σ H Q:=q
theorem zl4 {p:Prop} [Decidable p] {A B:Prop} (h1:p->A) (h2:¬ p->B):if decide p=true then A else B:=by
 by_cases h:p
 ·rw [if_pos (decide_eq_true h)]; exact h1 h
 ·rw [if_neg (by rw [decide_eq_false h]; exact Bool.false_ne_true)]; exact h2 h
theorem zlT {p:Prop} [Decidable p] {A B:Prop} (h1:¬ p->A) (h2:p->B):if (!decide p)=true then A else B:=by
 by_cases h:p
 ·rw [if_neg (by rw [decide_eq_true h]; exact Bool.false_ne_true)]; exact h2 h
 ·rw [if_pos (by rw [decide_eq_false h]; rfl)]; exact h1 h
theorem zeg {A B:Prop} (h:A):if true=true then A else B:=by rw [if_pos rfl]; exact h
theorem zec {A B:Prop} (h:B):if false=true then A else B:=by rw [if_neg Bool.false_ne_true]; exact h
theorem zku {A B:Prop} (h:B):if (!true)=true then A else B:=zec h
theorem zb0 (M:St->Hp->Prop) (q:t { D with nx:=M } σ H) (r:∀ σ' H',M σ' H'->u D σ' H'):zkZ t u D σ H:=⟨M,q,r⟩
theorem zM {R:List V->Hp->Prop} (q:R [] H):ziy σ H R:=q
theorem zlF {sp:Sp} {E:XK} {tr:TA} (q:tr σ H fun vs H1=>sp vs H1 Q E):zd8 sp [] E tr σ H Q:=by unfold zd8; simp only [List.append_nil]; exact q
noncomputable def zeD (Q:VK) (xs:List V) (H:Hp):Prop:=xs.length<=sizeLine/\∀ p,H p=none->Q (.ref p) (upd H p (.tup xs))
noncomputable def ziK (Q:VK) (xs:List V) (H:Hp):Prop:=xs.length<=sizeLine/\∀ p,H p=none->Q (.ref p) (upd H p (.lst xs))
theorem zmx {tr:TA} (q:tr σ H (zeD Q)):zkT tr σ H Q:=q
theorem zma {tr:TA} (q:tr σ H (ziK Q)):zk8 tr σ H Q:=q
theorem zle {a:Addr} {xs:List V} (h:SqL K H a xs) (q:Q (.int xs.length) H):za4 K [.ref a] H Q:=⟨a,xs,rfl,.inl h,q⟩
theorem zmi {i j:Int} (q:Q (.int (if j > i then j else i)) H):zjm [.int i,.int j] H Q:=⟨i,j,rfl,q⟩
theorem zmy {i j:Int} (q:Q (.int (if j < i then j else i)) H):zjx [.int i,.int j] H Q:=⟨i,j,rfl,q⟩
theorem zI {N:List Str} {vs:List V} {σ0:St} (e:start N vs=σ0) (q:t D σ0 H):t D (start N vs) H:=by rw [e]; exact q
theorem zfz {x c:V} {t' cv:Value} {b:Bool} (rc:RelV c cv) (ty:TyOf K H x t') (e:PySem.W.kitOne K t' cv=some b) (q:Q (.bl b) H):zf4 K [x,c] H Q:=⟨x,c,t',b,cv,rfl,rc,ty,e,q⟩
end
theorem Same.new {H:Hp} {p:Addr} (h:H p=none) (o:HO):Same H (upd H p o):=fun b u q=>by rw [zG (zJ q h)]; exact q
end Internal
set_option Elab.async false
set_option linter.all false
set_option maxRecDepth 100000
namespace Internal
open PySem PySem.Spec PyProof.Rows
theorem zeB {env:Env} {scope:Scope} (h:∀ y ∈ scope.names,y.2=.free->∃ c,env.cells.lookup y.1=some c) :
  ∃ cl,closureFor scope env=pure cl/\(∀ x c,cl.lookup x=some c->env.cells.lookup x=some c)/\∀ y ∈ scope.names,y.2=.free->cl.lookup y.1=env.cells.lookup y.1:=by
 unfold closureFor
 have key:∀ (names:List (Str × NameKind)) (acc:List (Str × Addr)),(∀ y ∈ names,y.2=.free->∃ c,env.cells.lookup y.1=some c)->(∀ x c,acc.lookup x=some c->env.cells.lookup x=some c) ->
   ∃ cl,(forIn (m:=Sem) names acc fun (x:Str × NameKind) r=>if (x.2 == .free)=true then (do let a <- cellOf env x.1; pure (ForInStep.yield ((x.1,a) :: r))) else pure (ForInStep.yield r))=pure cl /\
    (∀ x c,cl.lookup x=some c->env.cells.lookup x=some c)/\(∀ y ∈ names,y.2=.free->cl.lookup y.1=env.cells.lookup y.1)/\(∀ x,(∃ c,acc.lookup x=some c)->cl.lookup x=env.cells.lookup x):=by
  intro names
  induction names with
  | nil=>intro acc _ ha; exact ⟨acc,rfl,ha,fun _ hy=>(nomatch hy),fun x ⟨c,e⟩=>by rw [e,ha x c e]⟩
  | cons y r ih=>
   intro acc hn ha
   obtain ⟨n,k⟩:=y
   have hr:∀ y ∈ r,y.2=.free->∃ c,env.cells.lookup y.1=some c:=fun y hy=>hn y (List.mem_cons_of_mem _ hy)
   by_cases hk:k=.free
   ·subst hk
    obtain ⟨c,hc⟩:=hn (n,.free) List.mem_cons_self rfl
    have ha':∀ x c',List.lookup x ((n,c) :: acc)=some c'->env.cells.lookup x=some c':=fun x c' e=>by
     rw [List.lookup_cons] at e
     cases hb:x == n with
     | true=>rw [hb] at e; cases e; rw [beq_iff_eq.mp hb]; exact hc
     | false=>rw [hb] at e; exact ha x c' e
    obtain ⟨cl,e,h1,h2,h3⟩:=ih ((n,c) :: acc) hr ha'
    refine ⟨cl,?_,h1,fun y hy hf=>?_,fun x hx=>?_⟩
    ·rw [List.forIn_cons]
     simp only [cellOf,hc,beq_self_eq_true,if_true]
     exact e
    ·rcases List.mem_cons.mp hy with rfl | hy
     ·exact h3 n ⟨c,by rw [List.lookup_cons]; simp⟩
     ·exact h2 y hy hf
    ·refine h3 x ?_
     obtain ⟨c',e'⟩:=hx
     rw [List.lookup_cons]
     cases hb:x == n with
     | true=>exact ⟨c,rfl⟩
     | false=>exact ⟨c',e'⟩
   ·obtain ⟨cl,e,h1,h2,h3⟩:=ih acc hr ha
    refine ⟨cl,?_,h1,fun y hy hf=>?_,h3⟩
    ·rw [List.forIn_cons]
     have hb:(k == NameKind.free)=false:=by simpa using hk
     simp only [hb,Bool.false_eq_true,if_false]
     exact e
    ·rcases List.mem_cons.mp hy with rfl | hy
     ·exact absurd hf hk
     ·exact h2 y hy hf
 obtain ⟨cl,e,h1,h2,_⟩:=key scope.names [] h (fun _ _ z=>by simp at z)
 refine ⟨cl,?_,h1,h2⟩
 show (forIn scope.names [] _ >>= fun r=>pure r)=pure cl
 have e':(forIn (m:=Sem) scope.names [] fun (x:Str × NameKind) (r:List (Str × Addr))=>match x with | (name,kind)=>if (kind == .free)=true then (do let a <- cellOf env name; pure (ForInStep.yield ((name,a) :: r))) else pure (ForInStep.yield r))=pure cl:=e
 first
  | (rw [e']; rfl)
  | (simp only [e']; rfl)
theorem zbJ:∀ (names:List (Str × NameKind)) (n:Nat) (acc:List (Str × Addr)),cellsFrom n names acc=cellsFrom n names [] ++ acc
 | [],_,_=>rfl
 | (name,kind) :: r,n,acc=>by
  unfold cellsFrom
  split
  ·rw [zbJ r (n + 1) ((name,n) :: acc),zbJ r (n + 1) [(name,n)],List.append_assoc]; rfl
  ·exact zbJ r n acc
theorem zbW {α:Type} {x:Str}:∀ {l r:List (Str × α)},(l ++ r).lookup x=match l.lookup x with | some c=>some c | none=>r.lookup x
 | [],_=>rfl
 | (k,v) :: l,r=>by
  rw [List.cons_append,List.lookup_cons,List.lookup_cons]
  cases x == k with
  | true=>rfl
  | false=>exact zbW (l:=l)
noncomputable def zj8 (scope:Scope) (cs:List (Str × Addr)) (C:Addr) (env:Env):Env:=
 { scope:=relabel scope env,locals:=C,globals:=env.globals,cells:=cs,qual:=env.qual,func:=none,code:=env.code,frame:=env.frame,builtins:=env.builtins }
theorem zfn {M:Model} {A:Around} {E:Value->Shared->Prop} {s:Shared} {scope:Scope} {globals:Addr} {cl:List (Str × Addr)} {qual:Str} {env:Env} {Q:Env->Shared->Prop}
  (hQ:∀ (own:List (Str × Addr)) (s':Shared),own=cellsFrom (s.heap.objs.size + 1) scope.names []->s'={ s with heap:=s'.heap }->(∀ b o,s.heap.get? b=some o->s'.heap.get? b=some o) ->
   s'.heap.Ns s.heap.objs.size (fun _=>none)->(∀ n c,(n,c) ∈ own->s'.heap.IsCell c none/\s.heap.objs.size + 1<=c)->(own.Pairwise fun x y=>x.2 ≠ y.2) ->
   Q { scope:=scope,locals:=s.heap.objs.size,globals:=globals,cells:=own ++ cl,qual:=qual,func:=none,code:=env.code,frame:=env.frame,builtins:=env.builtins } s') :
  wpAny M A (newFunctionEnv scope globals cl [] qual none .none (some env)) Q E s:=by
 simp only [newFunctionEnv,Option.isSome_some,if_true]
 refine wpAny_bind (wpAny_alloc ?_)
 refine wpAny_bind (wpAny_layCells _ (fun name kind cells=>by cases hkc:kind == NameKind.cell <;> simp [hkc]) _ _ _ _ ?_)
 have ok:=cellsFrom_ok scope.names (s.heap.push { cls:=.type "dict",data:=.dict #[] }) (s.heap.objs.size + 1) [] ⟨fun _ _ hm=>(nomatch hm),List.Pairwise.nil⟩ (by rw [Heap.size_push]; exact Nat.le_refl _)
 rw [Heap.size_push] at ok
 rw [show ({ s with heap:=s.heap.push { cls:=.type "dict",data:=.dict #[] } }:Shared).heap.objs.size=s.heap.objs.size + 1 from Heap.size_push ..]
 rw [zbJ]
 have fin:=hQ _ { s with heap:=pushCells (s.heap.push { cls:=.type "dict",data:=.dict #[] }) scope.names } rfl rfl (fun b o e=>pushCells_keeps _ _ b o (Heap.get?_push_of_some _ e))
  ((Heap.Ns.new s.heap (.type "dict")).keeps (pushCells_keeps _ _)) ok.empty ok.apart
 exact wpAny_bind (wpAny_pure (wpAny_pure fin))
theorem zb1 {env:Env}:∀ {names:List (Str × NameKind)} {x:Str},names.lookup x=some .free ->
  (names.map fun (n,k)=>if (k == NameKind.free && env.scope.kind == .function && env.kindOf n == some .cell) then (n,NameKind.cell) else (n,k)).lookup x=some .cell \/
  (names.map fun (n,k)=>if (k == NameKind.free && env.scope.kind == .function && env.kindOf n == some .cell) then (n,NameKind.cell) else (n,k)).lookup x=some .free
 | [],_,h=>by simp at h
 | (n,k) :: r,x,h=>by
  have ih:=@zb1 env r x
  show List.lookup x ((if (k == NameKind.free && env.scope.kind == .function && env.kindOf n == some .cell)=true then (n,NameKind.cell) else (n,k)) :: _)=_\/List.lookup x ((if (k == NameKind.free && env.scope.kind == .function && env.kindOf n == some .cell)=true then (n,NameKind.cell) else (n,k)) :: _)=_
  by_cases hc:(k == NameKind.free && env.scope.kind == .function && env.kindOf n == some .cell)=true
  ·rw [if_pos hc]
   cases hx:x == n with
   | true=>left; simp [List.lookup_cons,hx]
   | false=>simp only [List.lookup_cons,hx] at h ⊢; exact ih h
  ·rw [if_neg hc]
   cases hx:x == n with
   | true=>simp only [List.lookup_cons,hx] at h ⊢; exact .inr h
   | false=>simp only [List.lookup_cons,hx] at h ⊢; exact ih h
theorem zb2 {env:Env}:∀ {names:List (Str × NameKind)} {x:Str},(names.map fun (n,k)=>if (k == NameKind.free && env.scope.kind == .function && env.kindOf n == some .cell) then (n,NameKind.cell) else (n,k)).lookup x=some .cell \/
  (names.map fun (n,k)=>if (k == NameKind.free && env.scope.kind == .function && env.kindOf n == some .cell) then (n,NameKind.cell) else (n,k)).lookup x=some .free->names.lookup x=some .cell\/names.lookup x=some .free
 | [],_,h=>by simp at h
 | (n,k) :: r,x,h=>by
  have ih:=@zb2 env r x
  have h':List.lookup x ((if (k == NameKind.free && env.scope.kind == .function && env.kindOf n == some .cell)=true then (n,NameKind.cell) else (n,k)) :: (r.map fun (n,k)=>if (k == NameKind.free && env.scope.kind == .function && env.kindOf n == some .cell) then (n,NameKind.cell) else (n,k)))=some .cell \/
   List.lookup x ((if (k == NameKind.free && env.scope.kind == .function && env.kindOf n == some .cell)=true then (n,NameKind.cell) else (n,k)) :: (r.map fun (n,k)=>if (k == NameKind.free && env.scope.kind == .function && env.kindOf n == some .cell) then (n,NameKind.cell) else (n,k)))=some .free:=h
  clear h
  by_cases hc:(k == NameKind.free && env.scope.kind == .function && env.kindOf n == some .cell)=true
  ·have hk:k=.free:=by
    rw [Bool.and_eq_true,Bool.and_eq_true] at hc
    exact beq_iff_eq.mp hc.1.1
   subst hk
   rw [if_pos hc] at h'
   cases hx:x == n with
   | true=>right; simp [List.lookup_cons,hx]
   | false=>simp only [List.lookup_cons,hx] at h' ⊢; exact ih h'
  ·rw [if_neg hc] at h'
   cases hx:x == n with
   | true=>simp only [List.lookup_cons,hx] at h' ⊢; exact h'
   | false=>simp only [List.lookup_cons,hx] at h' ⊢; exact ih h'
theorem zch {env:Env}:∀ {names:List (Str × NameKind)} {x:Str},names.lookup x=some .cell ->
  (names.map fun (n,k)=>if (k == NameKind.free && env.scope.kind == .function && env.kindOf n == some .cell) then (n,NameKind.cell) else (n,k)).lookup x=some .cell
 | [],_,h=>by simp at h
 | (n,k) :: r,x,h=>by
  have ih:=@zch env r x
  show List.lookup x ((if (k == NameKind.free && env.scope.kind == .function && env.kindOf n == some .cell)=true then (n,NameKind.cell) else (n,k)) :: _)=_
  by_cases hc:(k == NameKind.free && env.scope.kind == .function && env.kindOf n == some .cell)=true
  ·rw [if_pos hc]
   cases hx:x == n with
   | true=>simp [List.lookup_cons,hx]
   | false=>simp only [List.lookup_cons,hx] at h ⊢; exact ih h
  ·rw [if_neg hc]
   cases hx:x == n with
   | true=>simp only [List.lookup_cons,hx] at h ⊢; exact h
   | false=>simp only [List.lookup_cons,hx] at h ⊢; exact ih h
theorem zjG {names:List (Str × NameKind)}:∀ {n:Nat} {acc:List (Str × Addr)} {x:Str} {c:Addr},(x,c) ∈ cellsFrom n names acc->(x,.cell) ∈ names\/(x,c) ∈ acc:=by
 induction names with
 | nil=>intro n acc x c h; exact .inr h
 | cons y r ih=>
  intro n acc x c h
  obtain ⟨nm,k⟩:=y
  unfold cellsFrom at h
  split at h
  ·rename_i hk
   rcases ih h with h | h
   ·exact .inl (List.mem_cons_of_mem _ h)
   ·rcases List.mem_cons.mp h with e | h
    ·cases e
     rw [beq_iff_eq.mp hk]; exact .inl List.mem_cons_self
    ·exact .inr h
  ·rcases ih h with h | h
   ·exact .inl (List.mem_cons_of_mem _ h)
   ·exact .inr h
theorem zdm {names:List (Str × NameKind)} (nd:(names.map (·.1)).Nodup) {x:Str} {k:NameKind} (h:(x,k) ∈ names):names.lookup x=some k:=by
 induction names with
 | nil=>cases h
 | cons y r ih=>
  obtain ⟨n,k'⟩:=y
  rw [List.map_cons,List.nodup_cons] at nd
  rw [List.lookup_cons]
  rcases List.mem_cons.mp h with e | hm
  ·cases e; simp
  ·have hne:x ≠ n:=fun e=>nd.1 (List.mem_map.mpr ⟨(x,k),hm,e⟩)
   have hb:(x == n)=false:=by simpa using hne
   rw [hb]; exact ih nd.2 hm
noncomputable def zaV (X:Cx) (scope:Scope) (Ni:List Str) (cs:List (Str × Addr)) (s₃:Shared) (H₃:Hp) (fp:List Addr) (pins:List (Addr × Obj)):Cx:=
 { X with N:=Ni,s₀:=s₃,H₀:=H₃,env:=zj8 scope cs s₃.heap.objs.size X.env,outer:=X.stack,stack:=X.stack,ex:=fp,fn:=fun y=>decide (scope.names.lookup y=some .cell),pn:=X.pn ++ pins,xe:=fun _ _=>False }
set_option genInjectivity false in
set_option genSizeOf false in
structure CompScope (X:Cx) (scope:Scope) (Ni:List Str) (caps:List (Option Nat)):Prop where
 kind:scope.kind=.function
 ndn:(scope.names.map (·.1)).Nodup
 free:∀ y ∈ scope.names,y.2=.free->X.env.kindOf y.1=some .cell\/X.env.kindOf y.1=some .free
 nd:Ni.Nodup
 len:caps.length=Ni.length
 cap:∀ (i:Nat) (y:Str) (j:Nat),Ni[i]?=some y->caps[i]?=some (some j)->X.N[j]?=some y/\scope.names.lookup y=some .free
noncomputable def zgs (so:Scope) (No:List Str) (scope:Scope) (Ni:List Str) (caps:List (Option Nat)):Bool:=
 (scope.kind == .function) && decide ((scope.names.map (·.1)).Nodup) && (scope.names.all fun y=>y.2 != .free || so.names.lookup y.1 == some .cell || so.names.lookup y.1 == some .free) &&
 decide Ni.Nodup && (caps.length == Ni.length) && ((Ni.zip caps).all fun p=>match p.2 with | none=>true | some j=>No[j]? == some p.1 && scope.names.lookup p.1 == some .free)
theorem zae {X:Cx} {scope:Scope} {Ni:List Str} {caps:List (Option Nat)} (h:zgs X.env.scope X.N scope Ni caps=true):CompScope X scope Ni caps:=by
 unfold zgs at h
 simp only [Bool.and_eq_true] at h
 obtain ⟨⟨⟨⟨⟨h1,h2⟩,h3⟩,h4⟩,h5⟩,h6⟩:=h
 refine ⟨beq_iff_eq.mp h1,of_decide_eq_true h2,fun y hy hf=>?_,of_decide_eq_true h4,beq_iff_eq.mp h5,fun i y j e1 e2=>?_⟩
 ·have q:=List.all_eq_true.mp h3 y hy
  rw [Bool.or_eq_true,Bool.or_eq_true] at q
  rcases q with (q | q) | q
  ·rw [hf] at q; simp at q
  ·exact .inl (beq_iff_eq.mp q)
  ·exact .inr (beq_iff_eq.mp q)
 ·have hm:(y,some j) ∈ Ni.zip caps:=by
   refine List.mem_of_getElem? (i:=i) ?_
   rw [List.getElem?_zip_eq_some]; exact ⟨e1,e2⟩
  have q:=List.all_eq_true.mp h6 _ hm
  simp only [Bool.and_eq_true] at q
  exact ⟨beq_iff_eq.mp q.1,beq_iff_eq.mp q.2⟩
noncomputable def zbY (caps:List (Option Nat)) (σ:St):St:=caps.map fun o=>match o with | some j=>(σ[j]?).getD none | none=>none
section
variable {X:Cx}
set_option genInjectivity false in
set_option genSizeOf false in
structure CompAt (X:Cx) (scope:Scope) (own cl:List (Str × Addr)) (s₃:Shared):Prop where
 oeq:own=cellsFrom (s₃.heap.objs.size + 1) scope.names []
 apart:own.Pairwise fun x y=>x.2 ≠ y.2
 above:∀ n c,(n,c) ∈ own->s₃.heap.objs.size + 1<=c
 sub:∀ x c,cl.lookup x=some c->X.env.cells.lookup x=some c
 all:∀ y ∈ scope.names,y.2=.free->cl.lookup y.1=X.env.cells.lookup y.1
theorem CompAt.look {scope:Scope} {own cl:List (Str × Addr)} {s₃:Shared} (T:CompAt X scope own cl s₃) {x:Str} {c:Addr} (h:(own ++ cl).lookup x=some c):(x,c) ∈ own\/X.env.cells.lookup x=some c:=by
 rw [zbW] at h
 cases e:own.lookup x with
 | some c'=>rw [e] at h; cases h; exact .inl (mem_of_lookup e)
 | none=>rw [e] at h; exact .inr (T.sub x c h)
theorem zdY {pins:List (Addr × Obj)} {σ:St} {H:Hp} {s:Shared} (I:Inv X pins σ H s) {x:Str} {c:Addr} (h:X.env.cells.lookup x=some c):c < s.heap.objs.size:=by
 obtain ⟨v,o,ho,_⟩:=I.cell x c h
 exact Heap.lt_size ho
theorem zkk {scope:Scope} {Ni:List Str} {caps:List (Option Nat)} {own cl:List (Str × Addr)} {pins:List (Addr × Obj)} {σ:St} {H₃:Hp} {s₃:Shared} {fp:List Addr}
  (S:CompScope X scope Ni caps) (T:CompAt X scope own cl s₃) (I:Inv X pins σ H₃ s₃) (f:∀ b ∈ fp,zbX X pins H₃ b) (hf:∀ b ∈ fp,b < s₃.heap.objs.size):(zaV X scope Ni (own ++ cl) s₃ H₃ fp pins).Ok where
 mod:=I.ok.mod
 kind:=S.kind
 glob:=I.ok.glob
 blt:=I.ok.blt
 above:=Nat.le_refl _
 inj:=fun x y c h1 h2=>by
  rcases T.look h1 with a | a
  ·rcases T.look h2 with b | b
   ·exact name_of_addr T.apart a b
   ·exact absurd (Nat.lt_of_lt_of_le (zdY I b) (Nat.le_of_succ_le (T.above x c a))) (Nat.lt_irrefl _)
  ·rcases T.look h2 with b | b
   ·exact absurd (Nat.lt_of_lt_of_le (zdY I a) (Nat.le_of_succ_le (T.above y c b))) (Nat.lt_irrefl _)
   ·exact I.ok.inj x y c a b
 has:=fun x h=>by
  have h':=zb2 (env:=X.env) (names:=scope.names) (x:=x) h
  show ∃ c,(own ++ cl).lookup x=some c
  rw [zbW]
  cases e:own.lookup x with
  | some c=>exact ⟨c,rfl⟩
  | none=>
   rcases h' with h' | h'
   ·obtain ⟨c,ec⟩:=zcZ (n:=s₃.heap.objs.size + 1) h'
    rw [<- T.oeq,e] at ec; cases ec
   ·have hm:=mem_of_lookup h'
    obtain ⟨c,ec⟩:=I.ok.has x (S.free _ hm rfl)
    exact ⟨c,(T.all _ hm rfl).trans ec⟩
 cab:=fun x c h1 h2=>by
  have hk:scope.names.lookup x=some .cell:=of_decide_eq_true h1
  obtain ⟨c',ec⟩:=zcZ (n:=s₃.heap.objs.size + 1) hk
  rw [<- T.oeq] at ec
  have h2':(own ++ cl).lookup x=some c:=h2
  rw [zbW,ec] at h2'
  cases h2'
  have:=T.above x _ (mem_of_lookup ec)
  show s₃.heap.objs.size<=_
  omega
 hd:=I.ok.hd
 frames:=I.ok.frames
 stk:=.inl rfl
 exf:=fun b hb=>⟨Nat.ne_of_lt (hf b hb),fun x c h=>by
  rcases T.look h with a | a
  ·exact fun e=>absurd (Nat.lt_of_lt_of_le (hf b hb) (Nat.le_of_succ_le (e ▸ T.above x c a))) (Nat.lt_irrefl _)
  ·exact (f b hb).2.2.2.2.1 x c a⟩
 bs:=I.bs
 bsz:=Nat.le_trans I.ok.bsz I.sz
 noex:=fun b o e hb=>by
  rcases (f b hb).2.2.2.1 with z | z
  ·exact I.ok.noex b o e z
  ·have h1:b < X.base.objs.size:=Heap.lt_size e
   have h2:=I.ok.bsz
   exact absurd (Nat.lt_of_lt_of_le h1 (Nat.le_trans h2 z)) (Nat.lt_irrefl _)
 exfs:=fun b hb hm=>by
  rcases List.mem_cons.mp (I.stkSub b hm) with z | z
  ·exact (f b hb).2.1 z
  ·exact (f b hb).2.2.1 z
 funs:=I.stack
 frf:=I.stkFree
theorem zg8 {scope:Scope} {Ni:List Str} {caps:List (Option Nat)} {own cl:List (Str × Addr)} {pins:List (Addr × Obj)} {σ:St} {H₃:Hp} {s₃ s₄:Shared} {fp:List Addr}
  (S:CompScope X scope Ni caps) (T:CompAt X scope own cl s₃) (I:Inv X pins σ H₃ s₃) (f:∀ b ∈ fp,zbX X pins H₃ b) (hf:∀ b ∈ fp,b < s₃.heap.objs.size)
  (e4:s₄={ s₃ with heap:=s₄.heap }) (k:∀ b o,s₃.heap.get? b=some o->s₄.heap.get? b=some o) (ns:s₄.heap.Ns s₃.heap.objs.size fun _=>none) (oc:∀ n c,(n,c) ∈ own->s₄.heap.IsCell c none) :
  Inv (zaV X scope Ni (own ++ cl) s₃ H₃ fp pins) [] (zbY caps σ) H₃ s₄ where
 ok:=zkk S T I f hf
 os:=by rw [e4]; rfl
 bare:=by rw [e4]; exact I.bare
 base:=Un.kept k
 loc:=by
  refine ⟨_,ns,fun i x v h1 h2 h3=>?_⟩
  have h2':(zbY caps σ)[i]?=some (some v):=h2
  unfold zbY at h2'
  rw [List.getElem?_map] at h2'
  cases ec:caps[i]? with
  | none=>rw [ec] at h2'; cases h2'
  | some o=>
   cases o with
   | none=>rw [ec] at h2'; cases h2'
   | some j=>
    rw [ec] at h2'
    have h2'':(σ[j]?).getD none=some v:=Option.some.inj h2'
    have hj:σ[j]?=some (some v):=by
     cases e:σ[j]? with
     | none=>rw [e] at h2''; cases h2''
     | some z=>rw [e] at h2''; exact congrArg some h2''
    obtain ⟨hN,hfr⟩:=S.cap i x j h1 ec
    have hm:=mem_of_lookup hfr
    have hk:=S.free _ hm rfl
    obtain ⟨m,_,hl⟩:=I.loc
    obtain ⟨u,r,l⟩:=hl j x v hN hj (by rcases hk with z | z; exact .inr (.inl z); exact .inr (.inr z))
    refine ⟨u,r,.inr ⟨zb1 hfr,?_⟩⟩
    rcases l with ⟨z,_⟩ | ⟨_,c,hc,q⟩
    ·have z':X.env.kindOf x=some .local:=z
     rcases hk with y | y <;> (have y':X.env.kindOf x=_:=y; rw [z'] at y'; cases y')
    ·refine ⟨c,?_,q.keeps k⟩
     show (own ++ cl).lookup x=some c
     rw [zbW]
     cases eo:own.lookup x with
     | some c'=>
      rw [T.oeq] at eo
      rcases zjG (mem_of_lookup eo) with y | y
      ·have:=zdm S.ndn y
       rw [hfr] at this; cases this
      ·cases y
     | none=>exact (T.all _ hm rfl).trans hc
 cell:=fun x c h=>by
  rcases T.look h with a | a
  ·exact ⟨_,oc x c a⟩
  ·obtain ⟨v,q⟩:=I.cell x c a
   exact ⟨v,q.keeps k⟩
 free:=I.hok.fresh (Nat.le_refl _)
 freeC:=fun x c h=>by
  rcases T.look h with a | a
  ·exact I.hok.fresh (by have:=T.above x c a; omega)
  ·exact I.freeC x c a
 pin:=fun p hp=>by
  have hp':p ∈ X.pn ++ pins:=by
   have:p ∈ (X.pn ++ pins) ++ []:=hp
   simpa using this
  obtain ⟨h1,h2,h3,h4,h5⟩:=I.pin p hp'
  refine ⟨k _ _ h1,h2,Nat.ne_of_lt (Heap.lt_size h1),fun z=>?_,h5⟩
  rcases List.mem_cons.mp (I.stkSub _ z) with y | y
  ·exact h3 y
  ·exact h4 y
 hok:=I.hok.kept k
 len:=by
  show (zbY caps σ).length=Ni.length
  unfold zbY; rw [List.length_map]; exact S.len
theorem ziZ {scope:Scope} {Ni:List Str} {cs:List (Str × Addr)} {pins:List (Addr × Obj)} {σ σ':St} {H₃ H':Hp} {s₃ s':Shared} {fp:List Addr} (I:Inv X pins σ H₃ s₃) (f:∀ b ∈ fp,zbX X pins H₃ b)
  (J:Inv (zaV X scope Ni cs s₃ H₃ fp pins) [] σ' H' s'):Inv X pins σ H' s':=by
 have u:Un (frs X.stack) fp H₃ H' s₃.heap s'.heap:=J.base
 have q:=I.call (g':=s'.gens) (t':=s'.toks) (d':=s'.drawn) (ch:=fp) u J.hok J.bare fun b hb=>⟨(f b hb).2.2.2.1,(f b hb).2.1,(f b hb).2.2.2.2.1,(f b hb).2.2.2.2.2⟩
 have e:({ s₃ with heap:=s'.heap,gens:=s'.gens,drawn:=s'.drawn,toks:=s'.toks }:Shared)=s':=by
  have h1:s'.os=s₃.os:=J.os
  cases s'; cases s₃
  simp only at h1
  subst h1; rfl
 rw [e] at q
 exact q
noncomputable def PF (Y:Cx) (ifs:List Expr) (t:TT):Prop:=∀ (pins:List (Addr × Obj)) (s:Shared) (σ:St) (H:Hp) (Q:Bool->Hp->Prop),Inv Y pins σ H s->t σ H Q ->
 wpAny (model Y.prog Y.w) Y.A (forIn ifs true fun c r=>if r=true then do let ok <- isTrue c Y.env (eval c Y.env); pure (ForInStep.yield ok) else pure (ForInStep.yield r)) (TP Y pins σ Q) Y.xe s
noncomputable abbrev zgE:TT:=fun _ H T=>T true H
theorem zfK {Y:Cx}:PF Y [] zgE:=fun pins s σ H Q I h=>wpAny_tests_nil ⟨H,I,h⟩
theorem zcv {Y:Cx} {c:Expr} {t:TT} (h:PT Y c t):PF Y [c] t:=fun pins s σ H Q I q=>wpAny_tests_one (h pins s σ H Q I q)
noncomputable def zfw (wi:TI) (caps:List (Option Nat)) (g:TG) (tf:TT) (te:TE):TE:=fun σ H Q=>wi σ H fun J H1=>∀ D,H1 D=none ->
 ∃ W:Nat->Nat->St->Hp->Prop,(∃ m,W 0 m (zbY caps σ) (upd H1 D (.lst [])))/\∀ i m σ' H',W i m σ' H' ->
  (J.stop i H'/\Q (.ref D) H')\/(J.go i H'/\∃ N:St->Hp->Prop,(∀ σ2 H2,N σ2 H2->∃ m',m' < m/\W (i + 1) m' σ2 H2) /\
   ∀ x H2,J.yld i H' x H2->g x σ' H2 fun σ1 H3=>tf σ1 H3 fun b H4=>if b=true then te σ1 H4 fun v H5=>zbx (.ref D) [v] H5 fun _ H6=>N σ1 H6 else N σ1 H4)
theorem zfU {P:Program} {w:World} {A:Around} {R:Result->Shared->Prop} {s0:Shared} {elt tg iter:Expr} {tests:List Expr} {sc:Scope} {ps:Pos} {itv acc:Value} {en:Env} (J:Nat->Shared->Prop)
  (turn:∀ n s,J n s->wpAny (model P w) A (pyNext itv) (fun r s1=>match r with | none=>R (.ok .next) s1 | some v=>wpAny (model P w) A (letOwnedTupleGo tg itv v) (fun _ s1'=>wpAny (model P w) A (assign tg en v) (fun _ s2=>
   wpAny (model P w) A (forIn tests true fun c r=>if r=true then do let ok <- isTrue c en (eval c en); pure (ForInStep.yield ok) else pure (ForInStep.yield r)) (fun ok s3=>if ok=true then wpAny (model P w) A (eval elt en) (fun x s4=>
    wpAny (model P w) A (call (.builtin "list.append") [acc,x]) (fun _ s5=>∃ m,m < n/\J m s5) (notedBy (model P w) A en fun e s'=>R (.error e) s') s4) (notedBy (model P w) A en fun e s'=>R (.error e) s') s3
     else ∃ m,m < n/\J m s3) (notedBy (model P w) A en fun e s'=>R (.error e) s') s2) (notedBy (model P w) A en fun e s'=>R (.error e) s') s1') (notedBy (model P w) A en fun e s'=>R (.error e) s') s1) (notedBy (model P w) A en fun e s'=>R (.error e) s') s)
  (n0:Nat) (j0:J n0 s0):codeAny (model P w) A (.compLoop (.ListComp elt [⟨tg,iter,tests,0⟩] sc ps) 0 itv acc en) R s0:=by
 refine codeAny_loop rfl J (fun n s hJ=>?_) n0 j0
 show wpAny _ A ((compTurn (.ListComp elt [⟨tg,iter,tests,0⟩] sc ps) 0 itv acc en).onRaise (fun x=>do noteFrame x en; theTreesLotGoes x)) _ _ s
 refine wpAny_noted ?_
 rw [compTurn_list]
 refine wpAny_bind (wpAny_standAt (wpAny_bind (wpAny_mono (turn n s hJ) (fun r s1 h1=>?_) fun _ _ z=>z)))
 cases r with
 | none=>exact wpAny_pure h1
 | some v=>
  refine wpAny_bind (wpAny_mono h1 (fun _ s1' h1'=>wpAny_bind (wpAny_mono h1' (fun _ s2 h2=>wpAny_bind (wpAny_mono h2 (fun ok s3 h3=>?_) fun _ _ z=>z)) fun _ _ z=>z)) fun _ _ z=>z)
  cases ok with
  | false=>exact wpAny_pure ⟨rfl,h3⟩
  | true=>
   exact wpAny_bind (wpAny_bind (wpAny_mono h3 (fun x s4 h4=>wpAny_bind (wpAny_mono h4 (fun _ s5 h5=>wpAny_pure (wpAny_pure ⟨rfl,h5⟩)) fun _ _ z=>z)) fun _ _ z=>z))
theorem zhr {Y:Cx} {elt iter:Expr} {tg:Expr} {ifs:List Expr} {scope:Scope} {pos:Pos} {it D:Addr} {fp:List Addr} {tn:Nat->Heap->Prop} {J:It} {g:TG} {tf:TT} {te:TE} {Q:VK} {R:Result->Shared->Prop}
  (T:Turn Y.prog Y.w Y.K tg J fp it tn) (hc:Y.calm=true) (gY:PG Y tg g) (hF:PF Y ifs tf) (hE:PE Y elt te) (fpY:∀ {H':Hp},(∀ b ∈ fp,H' b=none)->∀ b ∈ fp,zbX Y [] H' b) (hx:∀ e s,¬ Y.xe e s)
  {W:Nat->Nat->St->Hp->Prop} (turn:∀ i m σ' H',W i m σ' H' ->
   (J.stop i H'/\Q (.ref D) H')\/(J.go i H'/\∃ N:St->Hp->Prop,(∀ σ2 H2,N σ2 H2->∃ m',m' < m/\W (i + 1) m' σ2 H2) /\
    ∀ x H2,J.yld i H' x H2->g x σ' H2 fun σ1 H3=>tf σ1 H3 fun b H4=>if b=true then te σ1 H4 fun v H5=>zbx (.ref D) [v] H5 fun _ H6=>N σ1 H6 else N σ1 H4))
  (fin:∀ σ' H' s',Inv Y [] σ' H' s'->Q (.ref D) H'->R (.ok .next) s') {m0:Nat} {σ0:St} {H0:Hp} {s0:Shared} (I0:Inv Y [] σ0 H0 s0) (st0:tn 0 s0.heap) (fr0:∀ b ∈ fp,H0 b=none) (w0:W 0 m0 σ0 H0) :
  codeAny (model Y.prog Y.w) Y.A (.compLoop (.ListComp elt [⟨tg,iter,ifs,0⟩] scope pos) 0 (.ref it) (.ref D) Y.env) R s0:=by
 refine zfU (fun n s'=>∃ i σ' H',Inv Y [] σ' H' s'/\tn i s'.heap/\(∀ b ∈ fp,H' b=none)/\W i n σ' H') ?_ m0 ⟨0,_,_,I0,st0,fr0,w0⟩
 rintro n s5 ⟨i,σ5,H5,I5,st5,fr5,w5⟩
 have noE:∀ {α:Type} {t:Sem α} {Q1:α->Shared->Prop} {E2:Value->Shared->Prop} {s1:Shared},wpAny (model Y.prog Y.w) Y.A t Q1 Y.xe s1->wpAny (model Y.prog Y.w) Y.A t Q1 E2 s1:=
  fun h=>wpAny_mono h (fun _ _ q=>q) fun e s z=>(hx e s z).elim
 rcases turn i n σ5 H5 w5 with ⟨stop,qn⟩ | ⟨go,N,hN,step⟩
 ·refine thn (T.done Y rfl rfl rfl hc i [] s5 σ5 H5 _ I5 (fpY fr5) st5 stop) fun r s6 ⟨hr,I6⟩=>?_
  subst hr
  exact fin σ5 H5 s6 I6 qn
 ·refine thn (T.item Y rfl rfl rfl hc i [] s5 σ5 H5 _ I5 (fpY fr5) st5 go) fun r s6 ⟨u,hr,h6⟩=>?_
  subst hr
  refine thn h6 fun _ s7 zz=>?_
  obtain ⟨x7,H7,I7,r7,y7,st7,fr7⟩:=zz
  have I7':=I7.pinned (fpY fr7) (T.obj _ _ st7)
  have again:∀ {σ9:St} {H9:Hp} {s9:Shared},Inv Y ([] ++ zdi fp s7.heap) σ9 H9 s9->N σ9 H9->∃ m,m < n/\∃ i σ' H',Inv Y [] σ' H' s9/\tn i s9.heap/\(∀ b ∈ fp,H' b=none)/\W i m σ' H':=fun {σ9 H9 s9} I9 n9=>by
   obtain ⟨m',hm,w9⟩:=hN σ9 H9 n9
   refine ⟨m',hm,i + 1,σ9,H9,I9.unpinned,T.keep _ _ _ st7 fun b hb o e=>(I9.pin (b,o) (List.mem_append_right _ (List.mem_append_right _ (zcn hb e)))).1,fun b hb=>?_,w9⟩
   obtain ⟨o,e,d⟩:=T.obj _ _ st7 b hb
   exact (I9.pin (b,o) (List.mem_append_right _ (List.mem_append_right _ (zcn hb e)))).2.1
  refine noE (thn (gY _ s7 σ5 H7 x7 u _ I7' r7 (step x7 _ y7)) fun _ s8 zz=>?_)
  obtain ⟨σ8,H8,I8,q8⟩:=zz
  refine noE (thn (hF _ s8 _ _ _ I8 q8) fun b s9 ⟨H9,I9,q9⟩=>?_)
  cases b with
  | false=>exact again I9 q9
  | true=>
   refine noE (thn (hE _ s9 _ _ _ I9 q9) fun y s10 zz=>?_)
   obtain ⟨v10,H10,I10,r10,q10⟩:=zz
   refine noE (thn (zT (X:=Y) _ s10 _ _ (.ref D) [v10] (.ref D) [y] _ I10 rfl (.cons r10 .nil) q10) fun _ s11 zz=>?_)
   obtain ⟨v11,H11,I11,_,q11⟩:=zz
   exact again I11 q11
theorem zaz {scope:Scope} {Ni:List Str} {caps:List (Option Nat)} {x:Str} {px:Pos} {gi:Nat} {cs:List (Str × Addr)} {s₃:Shared} {H₃:Hp} {fp:List Addr} {pins:List (Addr × Obj)}
  (S:CompScope X scope Ni caps) (hx:scope.names.lookup x=some .local\/scope.names.lookup x=some .cell) (hgi:Ni[gi]?=some x):PG (zaV X scope Ni cs s₃ H₃ fp pins) (.Name x px) (zc3 gi):=by
 rcases hx with hx | hx
 ·exact z4 S.nd hgi (.inl (lookup_relabel_local hx)) (.inr (lookup_relabel_local hx))
 ·refine z4 S.nd hgi ?_ (.inl (decide_eq_true hx))
  have:(relabel scope X.env).names.lookup x=some .cell:=zch hx
  exact .inr this
theorem ze0 {elt iter:Expr} {tg:Expr} {ifs:List Expr} {scope:Scope} {pos pos':Pos} {wi:TI} {Ni:List Str} {caps:List (Option Nat)} {g:TG} {tf:TT} {te:TE}
  (hc:X.calm=true) (hi:PI X tg iter wi) (S:CompScope X scope Ni caps) (hG:CompScope X scope Ni caps->∀ cs s₃ H₃ fp pins,PG (zaV X scope Ni cs s₃ H₃ fp pins) tg g)
  (hF:∀ cs s₃ H₃ fp pins,PF (zaV X scope Ni cs s₃ H₃ fp pins) ifs tf) (hE:∀ cs s₃ H₃ fp pins,PE (zaV X scope Ni cs s₃ H₃ fp pins) elt te)
  (hs:∀ x,foldedSetIterable iter X.env x=pure x)
  {pins:List (Addr × Obj)} {s:Shared} {σ:St} {H:Hp} {Q:VK} (I:Inv X pins σ H s) (h:zfw wi caps g tf te σ H Q) {use:Option (Value->Sem Unit)} {R:Value->Shared->Prop}
  (fin:∀ (D C:Addr) (H':Hp) (s':Shared) (m:Str->Option Value),Inv X pins σ H' s'->Q (.ref D) H'->s'.heap.Ns C m->H' C=none->X.s₀.heap.objs.size<=C->C ≠ X.env.locals->(∀ y c,X.env.cells.lookup y=some c->c ≠ C)->(∀ p ∈ X.pn ++ pins,p.1 ≠ C) ->
   compPost (model X.prog X.w) X.A X.xe use R (.ref D) C (.ok .next) s') :
  wpAny (model X.prog X.w) X.A (comprehension (.ListComp elt [⟨tg,iter,ifs,0⟩] scope pos) scope X.env pos' (newList []) false (eval iter X.env) use) R X.xe s:=by
 obtain ⟨cl,hcl,hsub,hall⟩:=zeB (env:=X.env) (scope:=scope) fun y hy hf=>I.ok.has y.1 (S.free y hy hf)
 refine wpAny_comprehension_free rfl hs hcl S.kind (fun y hy hl=>by obtain ⟨n,k⟩:=y; cases hl; exact zdm S.ndn hy) (thn (hi pins s σ H _ I h) fun v s1 h1=>thn h1 fun itv s2 h2=>?_)
 obtain ⟨it,fp,tn,J,H2,e,I2,T,st2,f2,hW⟩:=h2
 subst e
 have I3:Inv X pins σ (upd H2 s2.heap.objs.size (.lst [])) { s2 with heap:=s2.heap.push { cls:=.type "list",dict:=none,data:=.seq ([]:List Value).toArray },toks:=s2.toks }:=
  I2.laid (fun b u e=>Heap.get?_push_of_some _ e) (Nat.le_refl _) ⟨Nat.zero_le _,[],_,.nil,Heap.get?_push_size _ rfl⟩
 have hD:H2 s2.heap.objs.size=none:=I2.hok.fresh (Nat.le_refl _)
 obtain ⟨W,⟨m0,w0⟩,turn⟩:=hW s2.heap.objs.size hD
 have st3:tn 0 (s2.heap.push { cls:=.type "list",dict:=none,data:=.seq ([]:List Value).toArray }):=T.keep _ _ _ st2 fun b _ o e=>Heap.get?_push_of_some _ e
 have f3:∀ b ∈ fp,zbX X pins (upd H2 s2.heap.objs.size (.lst [])) b:=fun b hb=>by
  obtain ⟨o,e,_⟩:=T.obj _ _ st2 b hb
  exact ⟨by rw [zG (Nat.ne_of_lt (Heap.lt_size e))]; exact (f2 b hb).1,(f2 b hb).2⟩
 refine wpAny_newObj_type ?_
 generalize hs3:({ s2 with heap:=s2.heap.push { cls:=.type "list",dict:=none,data:=.seq ([]:List Value).toArray },toks:=s2.toks }:Shared)=s3 at I3
 have eh:s2.heap.push { cls:=.type "list",dict:=none,data:=.seq ([]:List Value).toArray }=s3.heap:=by rw [<- hs3]
 rw [eh] at st3
 have hf3:∀ b ∈ fp,b < s3.heap.objs.size:=fun b hb=>by
  obtain ⟨o,e,_⟩:=T.obj _ _ st3 b hb
  exact Heap.lt_size e
 refine zfn fun own s4 eo e4 k4 ns4 oc4 ap4=>?_
 have T4:CompAt X scope own cl s3:=⟨eo,ap4,fun n c hm=>(oc4 n c hm).2,hsub,hall⟩
 have I4:=zg8 (Ni:=Ni) (caps:=caps) S T4 I3 f3 hf3 e4 k4 ns4 fun n c hm=>(oc4 n c hm).1
 have st4:tn 0 s4.heap:=T.keep _ _ _ st3 fun b _ o e=>k4 b o e
 have fpY:∀ {H':Hp},(∀ b ∈ fp,H' b=none)->∀ b ∈ fp,zbX (zaV X scope Ni (own ++ cl) s3 (upd H2 s2.heap.objs.size (.lst [])) fp pins) [] H' b:=fun hn b hb=>
  ⟨hn b hb,Nat.ne_of_lt (hf3 b hb),I4.ok.exfs b hb,.inl hb,(I4.ok.exf b hb).2,fun p hp=>by
   have hp':p ∈ X.pn ++ pins:=by
    have:p ∈ (X.pn ++ pins) ++ []:=hp
    simpa using this
   exact (f3 b hb).2.2.2.2.2 p hp'⟩
 have loop:=zhr (Q:=Q) (elt:=elt) (iter:=iter) (scope:=scope) (pos:=pos) (R:=compPost (model X.prog X.w) X.A X.xe use R (.ref s2.heap.objs.size) s3.heap.objs.size) (Y:=zaV X scope Ni (own ++ cl) s3 (upd H2 s2.heap.objs.size (.lst [])) fp pins)
  T hc (hG S _ _ _ _ _) (hF _ _ _ _ _) (hE _ _ _ _ _) fpY (fun _ _ z=>z) turn (fun σ' H' s' I6 qn=>by
   have I6':=ziZ I3 f3 I6
   obtain ⟨m6,ns6,_⟩:=I6.loc
   exact fin _ _ H' s' m6 I6' qn ns6 I6.free I3.sz (Nat.ne_of_gt I3.lt) (fun y c hc'=>Nat.ne_of_lt (zdY I3 hc')) fun p hp=>Nat.ne_of_lt (Heap.lt_size (I3.pin p hp).1)) I4 st4 (fun b hb=>(f3 b hb).1) w0
 exact codeAny_compStart_list loop (T.self _ _ _ _ _ st4 loop)
theorem zdC {elt iter:Expr} {tg:Expr} {ifs:List Expr} {scope:Scope} {pos:Pos} {wi:TI} {Ni:List Str} {caps:List (Option Nat)} {g:TG} {tf:TT} {te:TE}
  (hc:X.calm=true) (hi:PI X tg iter wi) (S:CompScope X scope Ni caps) (hG:CompScope X scope Ni caps->∀ cs s₃ H₃ fp pins,PG (zaV X scope Ni cs s₃ H₃ fp pins) tg g)
  (hF:∀ cs s₃ H₃ fp pins,PF (zaV X scope Ni cs s₃ H₃ fp pins) ifs tf) (hE:∀ cs s₃ H₃ fp pins,PE (zaV X scope Ni cs s₃ H₃ fp pins) elt te)
  (hs:autoParam (∀ x,foldedSetIterable iter X.env x=pure x) Internal.aut3._auto_1):PE X (.ListComp elt [⟨tg,iter,ifs,0⟩] scope pos) (zfw wi caps g tf te):=by
 intro pins s σ H Q I h
 rw [eval_ListComp]
 refine ze0 hc hi S hG hF hE hs I h fun D C H' s' m I' q ns hn hC h1 h2 h3=>?_
 refine ⟨m,ns,fun h' sb=>?_⟩
 exact ⟨.ref D,H',I'.turned (t':=s'.toks) (it:=C) (fun b o hb e=>(sb.2 b hb).trans e) hn h1 (.inr hC) h2 h3,rfl,q⟩
theorem zco {i:Nat} {y:Str} {py:Pos} {elt iter:Expr} {tg:Expr} {ifs:List Expr} {scope:Scope} {pos spos:Pos} {wi:TI} {Ni:List Str} {caps:List (Option Nat)} {g:TG} {tf:TT} {te:TE}
  (hN:X.N.Nodup) (hyi:X.N[i]?=some y) (hy:X.env.scope.names.lookup y=some .local) (hc:X.calm=true) (hi:PI X tg iter wi) (S:CompScope X scope Ni caps) (hG:CompScope X scope Ni caps->∀ cs s₃ H₃ fp pins,PG (zaV X scope Ni cs s₃ H₃ fp pins) tg g)
  (hF:∀ cs s₃ H₃ fp pins,PF (zaV X scope Ni cs s₃ H₃ fp pins) ifs tf) (hE:∀ cs s₃ H₃ fp pins,PE (zaV X scope Ni cs s₃ H₃ fp pins) elt te)
  (hsw:autoParam (swapsWith (.ListComp elt [⟨tg,iter,ifs,0⟩] scope pos) (some (.Name y py)) spos.line X.env=pure true) Internal.aut2._auto_1)
  (hs:autoParam (∀ x,foldedSetIterable iter X.env x=pure x) Internal.aut3._auto_1):PS X (.Assign [.Name y py] (.ListComp elt [⟨tg,iter,ifs,0⟩] scope pos) spos) (ziN (zfw wi caps g tf te) (zc3 i)):=by
 intro pins s σ H D I h
 rw [exec_Assign_Name_used _ _ _ _ hsw]
 refine wpAny_bind (wpAny_standAt (wpAny_bind ?_))
 show wpAny _ X.A (do let _ <- comprehension (.ListComp elt [⟨tg,iter,ifs,0⟩] scope pos) scope X.env _ (newList []) false (eval iter X.env) (some (assign (.Name y py) X.env))) _ _ s
 refine wpAny_bind (wpAny_mono (ze0 (R:=fun _ s'=>SP X pins D .next s') hc hi S hG hF hE hs I h fun L C H' s' m I' q ns hn hC h1 h2 h3=>?_) (fun _ s' hq=>wpAny_pure (wpAny_pure hq)) fun _ _ e=>e)
 show wpAny _ X.A (assign (.Name y py) X.env (.ref L)) _ _ _
 refine wpAny_assign_Name (ze1 (v:=.ref L) I' hN hyi (.inl hy) rfl (fun s2 I2 sb2=>?_) (.inr hy))
 obtain ⟨a,sb,ha⟩:=sb2
 have hCa:C ≠ a:=by
  rcases ha with z | z
  ·rw [z]; exact h1
  ·exact fun w'=>h2 y a z w'.symm
 refine ⟨m,ns.sameBut sb hCa,fun h' sb'=>?_⟩
 exact ⟨_,H',I2.turned (t':=s2.toks) (it:=C) (fun b o hb e=>(sb'.2 b hb).trans e) hn h1 (.inr hC) h2 h3,q⟩
end
end Internal
namespace My
end My
set_option Elab.async false
set_option linter.all false
set_option maxRecDepth 100000
namespace Internal
open PySem PySem.Spec PyProof.Rows
theorem zlK {b:Bool} {A B:Prop} (h1:b=true->A) (h2:b=false->B):if b=true then A else B:=by
 cases b with
 | true=>rw [if_pos rfl]; exact h1 rfl
 | false=>rw [if_neg Bool.false_ne_true]; exact h2 rfl
theorem zlD {p:Prop} [Decidable p] {A B:Prop} (h1:p->A) (h2:¬ p->B):if p then A else B:=by
 by_cases h:p
 ·rw [if_pos h]; exact h1 h
 ·rw [if_neg h]; exact h2 h
section
variable {K:PySem.W.Frag} {H:Hp} {Q:VK}
theorem zhl {i:Int} (q:Q (.bl false) H):zf4 K [.int i,.ty "bool"] H Q:=zfz (t':=.type "int") (cv:=.type "bool") (b:=false) rfl (.int i) (by with_unfolding_all rfl) q
end
noncomputable def cell (ns:List Int) (k:Int):Int:=ns.getD k.toNat 0
noncomputable def IsQ (H:Hp) (a:Addr) (q:Rat):Prop:=H a=some (.tup [.int q.num,.int (q.den:Int)])
noncomputable def zmQ (H:Hp) (Q:VK) (q:Rat):Prop:=∀ p H',Same H H'->IsQ H' p q->Q (.ref p) H'
end Internal
set_option Elab.async false
set_option linter.all false
set_option maxRecDepth 100000
namespace Internal
open PySem PySem.Spec PyProof.Rows
section
variable {σ:St} {H:Hp} {Q:VK} {D:Ends} {ta tb tc te to:TE} {t u:TS} {K:PySem.W.Frag}
noncomputable def zg7 (J:It) (g:TG) (tb:TS):TS:=fun D σ H=>∃ W:Nat->Nat->St->Hp->Prop,(∃ m,W 0 m σ H)/\∀ i m σ H,W i m σ H ->
 (J.stop i H/\D.nx σ H)\/(J.go i H/\∃ N:St->Hp->Prop,(∀ σ' H',N σ' H'->∃ m',m' < m/\W (i + 1) m' σ' H')/\∀ x H',J.yld i H x H'->g x σ H' fun σ2 H2=>tb { D with nx:=N,ct:=N,bk:=D.nx } σ2 H2)
theorem zml {wi:TI} {g:TG} {tb:TS} (q:wi σ H fun J H1=>zg7 J g tb D σ H1):zlP wi g tb D σ H:=q
noncomputable def zg5 (R:It->Hp->Prop) (vs:List V) (H:Hp):Prop:=∃ j:Int,vs=[.int j]/\-(2 ^ 62)<=j/\j < 2 ^ 62/\R (Itr 0 j.toNat) H
noncomputable def zij (K:PySem.W.Frag) (R:It->Hp->Prop) (x:V) (H:Hp):Prop:=∃ a,x=.ref a/\(∃ xs,SqL K H a xs)/\R (Itl K a) H
theorem zkL {tr:TA} {R:It->Hp->Prop} (q:tr σ H (zg5 R)):zjB tr σ H R:=q
theorem zlY {R:It->Hp->Prop} (q:te σ H (zij K R)):zbh K te σ H R:=q
theorem zj6 {R:It->Hp->Prop} {j:Int} (h1:-4611686018427387904<=j) (h2:j < 4611686018427387904) (q:R (Itr 0 j.toNat) H):zg5 R [.int j] H:=⟨j,rfl,h1,h2,q⟩
theorem zlU {R:It->Hp->Prop} {a:Addr} {xs:List V} (h:SqL K H a xs) (q:R (Itl K a) H):zij K R (.ref a) H:=⟨a,rfl,⟨xs,h⟩,q⟩
theorem zjL {i:Nat} {v:V} {R:St->Hp->Prop} (q:R (σ.set i (some v)) H):zc3 i v σ H R:=q
theorem zdp {lo:Int} {n:Nat} {g:TG} {tb:TS} (Pv:Nat->St->Hp->Prop) (h0:Pv 0 σ H)
  (hs:∀ i σ H,i < n->Pv i σ H->g (.int (lo + i)) σ H fun σ2 H2=>tb { D with nx:=Pv (i + 1),ct:=Pv (i + 1),bk:=D.nx } σ2 H2) (hd:∀ σ H,Pv n σ H->D.nx σ H):zg7 (Itr lo n) g tb D σ H:=zh6 Pv h0 hs hd
theorem zbF {a:Addr} {xs:List V} {g:TG} {tb:TS} (Pv:Nat->St->Hp->Prop) (h0:Pv 0 σ H) (hl:∀ i σ H,i<=xs.length->Pv i σ H->SqL K H a xs)
  (hs:∀ i x σ H,xs[i]?=some x->Pv i σ H->g x σ H fun σ2 H2=>tb { D with nx:=Pv (i + 1),ct:=Pv (i + 1),bk:=D.nx } σ2 H2) (hd:∀ σ H,Pv xs.length σ H->D.nx σ H):zg7 (Itl K a) g tb D σ H:=ziz Pv h0 hl hs hd
theorem zmK {T:String} {r:V->List V->Hp->VK->Prop} {tr:TA} (q:to σ H fun x H1=>tyV K T x H1/\tr σ H1 fun xs H2=>r x xs H2 Q):tBM K T r to tr σ H Q:=q
theorem zlW {l:Addr} {xs:List V} {A:Prop} (h:H l=some (.lst xs)) (q:A):tyV K "list" (.ref l) H/\A:=⟨.inl ⟨rfl,xs,SqL.of h⟩,q⟩
theorem zjb {l:Addr} {xs:List V} {y:V} (h:H l=some (.lst xs)) (hl:xs.length < sizeLine) (q:Q .non (upd H l (.lst (xs ++ [y])))):zbx (.ref l) [y] H Q:=⟨l,xs,y,rfl,rfl,h,hl,q⟩
theorem zkD {l:Addr} {xs:List V} {k:Int} {j:Nat} {v:V} {R:Hp->Prop} (h:H l=some (.lst xs)) (e:ixN xs.length k=some j) (q:R (upd H l (.lst (xs.set j v)))):zcy (.ref l) (.int k) v H R:=⟨l,xs,k,j,rfl,rfl,h,e,q⟩
theorem ziQ {a:Addr} {xs:List V} (h:SqL K H a xs) (q:∀ l,H l=none->Q (.ref l) (upd H l (.lst xs))):zcN K [.ref a] H Q:=⟨a,xs,rfl,.inl h,q⟩
theorem zek {a:Addr} {xs:List V} {i:Int} {v:V} (h:H a=some (.lst xs)) (e:atI xs i=some v) (q:Q v H):rIx K (.ref a) (.int i) H Q:=zha (.of h) e q
noncomputable def zjr (R:Option Int->Hp->Prop) (x:V) (H:Hp):Prop:=∃ i,x=.int i/\R (some i) H
theorem zlA {R:Option Int->Hp->Prop} (q:te σ H (zjr R)):zjo te σ H R:=q
theorem zky {R:Option Int->Hp->Prop} {i:Int} (q:R (some i) H):zjr R (.int i) H:=⟨i,rfl,q⟩
theorem zl3 {a:Addr} {xs:List V} {lo hi:Option Int} (h:SqL K H a xs) (q:∀ p,H p=none->Q (.ref p) (upd H p (.lst (zb9 xs lo hi)))):zdZ K (.ref a) lo hi H Q:=⟨a,xs,rfl,h,q⟩
end
theorem Same.fresh {H H':Hp} {l:Addr} (g:Same H H') (h:H' l=none):H l=none:=by
 cases e:H l with
 | none=>rfl
 | some o=>rw [g l o e] at h; cases h
theorem zfH {n:Nat} (h:n<=100000):n < sizeLine:=Nat.lt_of_le_of_lt h (by decide)
theorem zbQ {n:Nat} (h:n<=100000):n<=sizeLine:=Nat.le_of_lt (zfH h)
noncomputable def But (l:Addr) (H H':Hp):Prop:=∀ b,b ≠ l->H' b=H b
theorem But.upd {H:Hp} {l:Addr} {o:HO}:But l H (Internal.upd H l o):=fun _ h=>zG h
theorem But.at {l:Addr} {H H':Hp} (g:But l H H') {a:Addr} {o:HO} (h:H a=some o) (n:a ≠ l):H' a=some o:=by rw [g a n]; exact h
theorem But.same {l:Addr} {H0 H H':Hp} (g:But l H H') (e:Same H0 H) (h:H0 l=none):Same H0 H':=fun b o q=>by rw [g b (zJ q h)]; exact e b o q
noncomputable def LBut (l:Addr) (H H':Hp):Prop:=But l H H'/\∃ xs,H l=some (.lst xs)
theorem LBut.tup {l:Addr} {H H':Hp} (g:LBut l H H') {a:Addr} {xs:List V} (h:H a=some (.tup xs)):H' a=some (.tup xs):=by
 obtain ⟨ys,e⟩:=g.2
 exact g.1.at h (zbI h e (by intro z; cases z))
theorem LBut.lst {l:Addr} {H H':Hp} (g:LBut l H H') {a:Addr} {o:HO} (h:H a=some o) (n:a ≠ l):H' a=some o:=g.1.at h n
theorem LBut.same {l:Addr} {H0 H H':Hp} (g:LBut l H H') (e:Same H0 H) (h:H0 l=none):Same H0 H':=g.1.same e h
theorem Same.at {H H':Hp} (e:Same H H') {a:Addr} {o:HO} (h:H a=some o):H' a=some o:=e a o h
theorem SqL.keep {K:PySem.W.Frag} {H H':Hp} {a:Addr} {xs:List V} (h:SqL K H a xs) (e:Same H H'):SqL K H' a xs:=e.seq h
theorem Same.after {H H1 H2:Hp} (b:Same H1 H2) (a:Same H H1):Same H H2:=a.trans b
theorem Same.none {H H':Hp} {l:Addr} (h:H' l=none) (g:Same H H'):H l=none:=g.fresh h
theorem zaS {H:Hp} {a b:Addr} {o:HO} (h':H b=none) (h:H a=some o):b ≠ a:=(zJ h h').symm
section
variable {σ:St} {H:Hp} {Q:VK} {D:Ends} {t u:TS} {K:PySem.W.Frag}
theorem zW {xs:List V} (hl:xs.length<=100000) (q:∀ p H',H p=none->Same H H'->H' p=some (.tup xs)->Q (.ref p) H'):zeD Q xs H:=⟨zbQ hl,fun p hp=>q p _ hp (Same.new hp _) zK⟩
theorem zk7 {xs:List V} (hl:xs.length<=100000) (q:∀ p H',H p=none->Same H H'->H' p=some (.lst xs)->Q (.ref p) H'):ziK Q xs H:=⟨zbQ hl,fun p hp=>q p _ hp (Same.new hp _) zK⟩
theorem za6 {l:Addr} {xs:List V} {y:V} (h:H l=some (.lst xs)) (hl:xs.length<=100000) (q:∀ H',LBut l H H'->H' l=some (.lst (xs ++ [y]))->Q .non H'):zbx (.ref l) [y] H Q:=
 zjb h (zfH hl) (q _ ⟨But.upd,xs,h⟩ zK)
theorem zcw {l:Addr} {xs:List V} {k:Int} {j:Nat} {v:V} {R:Hp->Prop} (h:H l=some (.lst xs)) (e:ixN xs.length k=some j) (q:∀ H',LBut l H H'->H' l=some (.lst (xs.set j v))->R H'):zcy (.ref l) (.int k) v H R:=
 zkD h e (q _ ⟨But.upd,xs,h⟩ zK)
theorem zhX {a:Addr} {xs:List V} (h:SqL K H a xs) (q:∀ p H',H p=none->Same H H'->H' p=some (.lst xs)->Q (.ref p) H'):zcN K [.ref a] H Q:=ziQ h fun p hp=>q p _ hp (Same.new hp _) zK
theorem zll {a:Addr} {xs:List V} {lo hi:Option Int} (h:SqL K H a xs) (q:∀ p H',H p=none->Same H H'->H' p=some (.lst (zb9 xs lo hi))->Q (.ref p) H'):zdZ K (.ref a) lo hi H Q:=zl3 h fun p hp=>q p _ hp (Same.new hp _) zK
end
theorem zfF {n:Nat} {k:Int} (h0:0<=k) (h:k < n):ixN n k=some k.toNat:=by unfold ixN; rw [if_pos h0,if_pos h]
theorem zbE {α:Type} {xs:List α} {k:Int} {v:α} (h0:0<=k) (h:xs[k.toNat]?=some v):atI xs k=some v:=by
 have e:k=(k.toNat:Int):=by omega
 rw [e]; exact zbA h
end Internal
set_option Elab.async false
set_option linter.all false
set_option maxRecDepth 100000
namespace Internal
open PySem PySem.Spec PyProof.Rows
section
variable {X:Cx} {pins:List (Addr × Obj)} {σ:St} {H:Hp} {s:Shared} {h':Heap}
theorem Inv.turnedL {t':Nat} {fp:List Addr} (I:Inv X pins σ H s) (k:∀ b o,b ∉ fp->s.heap.get? b=some o->h'.get? b=some o) (f:∀ b ∈ fp,zbX X pins H b):Inv X pins σ H { s with heap:=h',toks:=t' }:=by
 have nit:∀ b u,H b=some u->b ∉ fp:=fun b u e z=>by rw [(f b z).1] at e; cases e
 refine I.step (g':=s.gens) (d':=s.drawn) (ch:=fp) (fun b hb=>⟨(f b hb).2.2.2.1,(f b hb).2.1,(f b hb).2.2.2.2.1,(f b hb).2.2.2.2.2⟩) (fun b o _ _ hc e _=>k b o hc e) (fun b o _ _ hc e _=>⟨o.slots,k b o hc e⟩) (fun _ _ _ _ n=>n)
  (fun b o hc e=>⟨o,k b o hc e⟩) (fun _ _ e=>e) (fun _ _ _ e=>e) (fun b ps e=>⟨#[],by rw [e]; simp⟩) (fun m hm=>?_) (fun b u e=>?_) I.bare
 ·obtain ⟨o,es,ep,ho,r⟩:=hm
  exact ⟨o,es,ep,k _ o (fun z=>(f _ z).2.1 rfl) ho,r⟩
 ·refine (I.hok b u e).stay (fun c v hc q=>k c v ?_ q) (fun _ q=>q) fun _ _ q=>q
  rcases hc with z | z
  ·rw [z]; exact nit b u e
  ·exact nit c _ z
theorem Inv.turnedNew {t':Nat} {fp:List Addr} {p:Addr} {o:HO} (I:Inv X pins σ H s) (k:∀ b o,b ∉ fp->s.heap.get? b=some o->h'.get? b=some o) (f:∀ b ∈ fp,zbX X pins H b) (hp:s.heap.objs.size<=p) (new:ObjOk X.prog X.w (upd H p o) h' p o) :
  Inv X pins σ (upd H p o) { s with heap:=h',toks:=t' }:=by
 have nit:∀ b u,H b=some u->b ∉ fp:=fun b u e z=>by rw [(f b z).1] at e; cases e
 have hn:H p=none:=I.hok.fresh hp
 refine I.step (g':=s.gens) (d':=s.drawn) (ch:=fp) (fun b hb=>⟨(f b hb).2.2.2.1,(f b hb).2.1,(f b hb).2.2.2.2.1,(f b hb).2.2.2.2.2⟩) (fun b o _ _ hc e _=>k b o hc e) (fun b o _ _ hc e _=>⟨o.slots,k b o hc e⟩) (fun b u _ e n=>?_)
  (fun b o hc e=>⟨o,k b o hc e⟩) (fun b xs e=>by rw [zG (zJ e hn)]; exact e) (fun b u v e=>by rw [zG (zJ e hn)]; exact e) (fun b ps e=>⟨#[],by rw [zG (zJ e hn),e]; simp⟩) (fun m hm=>?_) (fun b u e=>?_) I.bare
 ·rw [zG (Nat.ne_of_lt (Nat.lt_of_lt_of_le (Heap.lt_size e) hp))]; exact n
 ·obtain ⟨o,es,ep,ho,r⟩:=hm
  exact ⟨o,es,ep,k _ o (fun z=>(f _ z).2.1 rfl) ho,r⟩
 ·by_cases hb:b=p
  ·subst hb; rw [zK] at e; cases e; exact new
  ·rw [zG hb] at e
   refine (I.hok b u e).stay (fun c v hc q=>k c v ?_ q) (fun c q=>by rw [zG (zJ q hn)]; exact q) fun c xs q=>by rw [zG (zJ q hn)]; exact q
   rcases hc with z | z
   ·rw [z]; exact nit b u e
   ·exact nit c _ z
end
theorem tup2 {P:Program} {w:World} {H:Hp} {h:Heap} {p:Addr} {x y:V} {u v:Value} (e:h.get? p=some { cls:=.type "tuple",data:=.seq #[u,v] }) (r1:RelV x u) (r2:RelV y v):ObjOk P w H h p (.tup [x,y]):=
 ⟨zbQ (by simp),[u,v],.cons r1 (.cons r2 .nil),_,e,rfl,_,rfl⟩
noncomputable def Itn (K:PySem.W.Frag) (a:Addr):It:=
 ⟨fun i H=>∃ xs x,SqL K H a xs/\xs[i]?=some x,fun i H v H'=>∃ p x,H p=none/\v=.ref p/\(∀ xs,SqL K H a xs->xs[i]?=some x)/\H'=upd H p (.tup [.int i,x]),fun i H=>∃ xs,SqL K H a xs/\xs.length<=i⟩
theorem zif {P:Program} {w:World} {K:PySem.W.Frag} {es:List Expr} {kx:Nat} {tp:Pos} (a e it:Addr) (hne:e ≠ it):Turn P w K (.Tuple es kx tp) (Itn K a) [e,it] e (fun i h=>(∃ old,IsEnum h e it i old)/\h.IsListIter it a i) where
 mem:=by simp
 obj:=fun i h st b hb=>by
  obtain ⟨⟨old,h1⟩,o,h2,c,d⟩:=st
  rcases List.mem_cons.mp hb with z | z
  ·subst z; exact ⟨_,h1,fun v z=>by cases z⟩
  ·have e:b=it:=by simpa using z
   subst e
   exact ⟨o,h2,fun v z=>by rw [d] at z; cases z⟩
 keep:=fun i h h' st k=>by
  obtain ⟨⟨old,h1⟩,h2⟩:=st
  exact ⟨⟨old,k e (by simp) _ h1⟩,h2.at fun o q=>k it (by simp) o q⟩
 item:=by
  intro X hP hw hK hc i pins s σ H E I hf st hg
  subst hP hw hK
  obtain ⟨⟨old,he⟩,hit⟩:=st
  obtain ⟨xs,x,hq,hx⟩:=hg
  obtain ⟨its,rv,p,hz⟩:=I.list hq
  obtain ⟨u,hu,ru⟩:=rv.get hx
  refine wpAny_pyNext_enum_item he hit p.isList (x:=u) (by simpa using hu) hne fun h1 eo it1 tp1 sz1 k1=>?_
  refine ⟨_,rfl,wpAny_letOwnedTupleGo_enum eo fun h2 e2 sb2=>?_⟩
  have hes:e ≠ s.heap.objs.size:=Nat.ne_of_lt (Heap.lt_size he)
  have sb2':Heap.SameBut e h1 h2:=sb2
  have t2:h2.get? s.heap.objs.size=some { cls:=.type "tuple",data:=.seq #[.int i s.toks,u] }:=(sb2'.2 _ (Ne.symm hes)).trans tp1
  have k2:∀ b o,b ∉ [e,it]->s.heap.get? b=some o->h2.get? b=some o:=fun b o hb q=>by
   have n1:b ≠ e:=fun z=>hb (by simp [z])
   have n2:b ≠ it:=fun z=>hb (by simp [z])
   exact (sb2'.2 b n1).trans (k1 b o n1 n2 q)
  have I2:Inv X pins σ (upd H s.heap.objs.size (.tup [.int i,x])) { s with heap:=h2,toks:=s.toks + 1 }:=I.turnedNew k2 hf (Nat.le_refl _) (tup2 t2 ⟨_,rfl⟩ ru)
  have hn:H s.heap.objs.size=none:=I.hok.fresh (Nat.le_refl _)
  refine ⟨.ref s.heap.objs.size,_,I2,rfl,⟨_,x,hn,rfl,fun ys hy=>by rw [I.list_inj hy hq]; exact hx,rfl⟩,⟨⟨_,e2⟩,it1.at fun o q=>(sb2'.2 it (Ne.symm hne)).trans q⟩,fun b hb=>?_⟩
  have hbs:b ≠ s.heap.objs.size:=by
   rcases List.mem_cons.mp hb with z | z
   ·rw [z]; exact hes
   ·have e:b=it:=by simpa using z
    subst e
    obtain ⟨o,q,_⟩:=hit
    exact Nat.ne_of_lt (Heap.lt_size q)
  rw [zG hbs]
  exact (hf b hb).1
 done:=by
  intro X hP hw hK hc i pins s σ H E I hf st hg
  subst hP hw hK
  obtain ⟨⟨old,he⟩,hit⟩:=st
  obtain ⟨xs,hq,hx⟩:=hg
  obtain ⟨its,rv,p,hz⟩:=I.list hq
  have hl:=rv.length
  refine wpAny_pyNext_enum_end (I.ok.hd hc) he hit p.isList (by simp; omega) fun h1 eb=>⟨rfl,I.turnedL (t':=s.toks) (fp:=[e,it]) (fun b o hb q=>eb b o (fun z=>hb (by simp [z])) q) hf⟩
 self:=fun _ _ _ _ _ st h=>by
  obtain ⟨⟨old,he⟩,_⟩:=st
  exact wpAny_pyIter_enum he h
noncomputable def Itz (K:PySem.W.Frag) (a b:Addr):It:=
 ⟨fun i H=>∃ xs ys x y,SqL K H a xs/\SqL K H b ys/\xs[i]?=some x/\ys[i]?=some y,fun i H v H'=>∃ p x y,H p=none/\v=.ref p/\(∀ xs,SqL K H a xs->xs[i]?=some x)/\(∀ ys,SqL K H b ys->ys[i]?=some y)/\H'=upd H p (.tup [x,y]),
  fun i H=>∃ xs ys,SqL K H a xs/\SqL K H b ys/\(xs.length<=i\/ys.length<=i)⟩
section
variable {X:Cx} {es:List Expr} {kx:Nat} {tp:Pos}
noncomputable def zg0 (K:PySem.W.Frag) (R:It->Hp->Prop) (vs:List V) (H:Hp):Prop:=∃ a,vs=[.ref a]/\(∃ xs,SqL K H a xs)/\R (Itn K a) H
noncomputable def zmH (K:PySem.W.Frag) (R:It->Hp->Prop) (vs:List V) (H:Hp):Prop:=∃ a b,vs=[.ref a,.ref b]/\(∃ xs,SqL K H a xs)/\(∃ ys,SqL K H b ys)/\R (Itz K a b) H
noncomputable abbrev zea (K:PySem.W.Frag) (ta:TA):TI:=fun σ H R=>ta σ H (zg0 K R)
noncomputable abbrev zm2 (K:PySem.W.Frag) (ta:TA):TI:=fun σ H R=>ta σ H (zmH K R)
theorem zdD {a:Expr} {ta:TA} {p pos:Pos} (hg:Gl X "enumerate") (hm:X.mg "enumerate" = none) (ha:PA X [a] ta) (hs:autoParam (starEach [a] X.env=[(false,eval a X.env)]) Internal.aut2._auto_1):PI X (.Tuple es kx tp) (.Call (.Name "enumerate" p) [a] [] pos) (zea X.K ta):=by
 intro pins s σ H R I h
 refine Call_ (zde I hg hm boot_enumerate (PyProof.Rows.callWith_type1 (thn (ha pos pins s σ H _ I h) fun us s1 ⟨vs,H1,I1,r1,q1⟩=>?_) hs rfl))
 obtain ⟨l,e,⟨xs,hq⟩,q⟩:=q1
 subst e
 obtain ⟨u,rfl,r⟩:=vals1 r1
 cases r
 obtain ⟨its,rv,pl,hz⟩:=I1.list hq
 refine call_enumerate_list pl.isList fun h1 e1 i1 sz1 k1=>?_
 refine wpAny_pyIter_enum e1 ?_
 have I2:Inv X pins σ H1 { s1 with heap:=h1,toks:=s1.toks }:=I1.kept k1
 refine ⟨s1.heap.objs.size + 1,[s1.heap.objs.size + 1,s1.heap.objs.size],_,_,H1,rfl,I2,zif l _ _ (Nat.succ_ne_self _),⟨⟨_,e1⟩,i1⟩,fun b hb=>?_,q⟩
 have hb':s1.heap.objs.size<=b:=by
  simp only [List.mem_cons,List.not_mem_nil,or_false] at hb
  rcases hb with rfl | rfl <;> omega
 exact I1.fpOk hb' (I1.hok.fresh hb')
end
section
variable {X:Cx}
theorem Inv.walk {pins:List (Addr × Obj)} {σ:St} {H:Hp} {s:Shared} {a:Addr} {xs:List V} (I:Inv X pins σ H s) (hq:SqL X.K H a xs):∃ its:List Value,Vals xs its/\s.heap.IsList a its.toArray/\its.length=xs.length/\a < s.heap.objs.size:=by
 obtain ⟨its,rv,pl,hz⟩:=I.list hq
 obtain ⟨o,e,_⟩:=id pl.isList
 exact ⟨its,rv,pl.isList,rv.length.symm,Heap.lt_size e⟩
end
end Internal
set_option Elab.async false
set_option linter.all false
set_option maxRecDepth 100000
namespace Internal
open PySem PySem.Spec PyProof.Rows
theorem ObjOk.obj {P:Program} {w:World} {H:Hp} {h:Heap} {a:Addr} {o:HO} (x:ObjOk P w H h a o):∃ u,h.get? a=some u:=by
 cases o with
 | lst xs=>exact ⟨_,x.2.choose_spec.choose_spec.2⟩
 | tup xs=>obtain ⟨_,_,_,ob,e,_⟩:=x; exact ⟨ob,e⟩
 | dK kvs=>obtain ⟨_,_,_,_,ob,_,_,e,_⟩:=x; exact ⟨ob,e⟩
 | dT kvs=>obtain ⟨_,_,_,_,ob,_,_,e,_⟩:=x; exact ⟨ob,e⟩
 | set S n=>obtain ⟨ob,_,_,_,e,_⟩:=x; exact ⟨ob,e⟩
 | ins C dx fs=>exact ⟨_,x.2.2.2.1⟩
 | own y=>exact x
 | xd fs=>obtain ⟨_,⟨ob,_,_,e,_⟩,_⟩:=x; exact ⟨ob,e⟩
 | rng lo hi=>obtain ⟨_,_,_,e⟩:=x; exact ⟨_,e⟩
 | frz ob u=>exact ⟨ob,x.1⟩
 | tbl ps=>exact ⟨_,show h.get? a=some _ from x⟩
 | met f y=>exact ⟨_,show h.get? a=some _ from x⟩
 | ext φ=>exact x.2.1
noncomputable def DK {α:Type}:Sem α->Prop
 | .pure _=>True
 | .raise _=>True
 | .unsupported _=>True
 | .finish _=>True
 | .rule _ k=>DK (k ())
 | .at _ k=>DK (k ())
 | .load _ _ k=>∀ o,DK (k o)
 | .update _ _ f k=>(∀ o,(f o).dict=o.dict)/\DK (k ())
 | .alloc _ k=>∀ a,DK (k a)
 | .loadIfAlive _ k=>∀ o,DK (k o)
 | .point _ k=>DK (k ())
 | .fresh k=>∀ t,DK (k t)
 | .ask k=>∀ t,DK (k t)
 | .handled _ k=>∀ t,DK (k t)
 | .stack k=>∀ t,DK (k t)
 | .thread k=>∀ t,DK (k t)
 | _=>False
theorem DK.bind {α β:Type} {m:Sem α} {f:α->Sem β} (hm:DK m) (hf:∀ a,DK (f a)):DK (m >>= f):=by
 show DK (Sem.bind m f)
 induction m with
 | pure a=>exact hf a
 | raise e=>trivial
 | unsupported w=>trivial
 | finish e=>trivial
 | rule t k ih=>exact ih () hm
 | «at» p k ih=>exact ih () hm
 | load a p k ih=>exact fun o=>ih o (hm o)
 | update a p g k ih=>exact ⟨hm.1,ih () hm.2⟩
 | alloc o k ih=>exact fun a=>ih a (hm a)
 | loadIfAlive a k ih=>exact fun a=>ih a (hm a)
 | point l k ih=>exact ih () hm
 | fresh k ih=>exact fun a=>ih a (hm a)
 | ask k ih=>exact fun a=>ih a (hm a)
 | handled o k ih=>exact fun a=>ih a (hm a)
 | stack k ih=>exact fun a=>ih a (hm a)
 | thread k ih=>exact fun a=>ih a (hm a)
 | _=>exact hm.elim
noncomputable def Bare (er:Addr) (s:Shared):Prop:=∃ o,s.heap.objs[er]?=some o/\o.dict=none
theorem DK.wp {α:Type} {M:Model} {Γ:PySem.Ctx} {er:Addr} {t:Sem α} (h:DK t):∀ {Q:α->Pos->Shared->Prop} {E:Value->Pos->Shared->Prop} {p:Pos} {s:Shared},Bare er s->Sem.wp M Γ t Q E p s ->
  Sem.wp M Γ t (fun a p s'=>Q a p s'/\Bare er s') (fun e p s'=>E e p s'/\Bare er s') p s:=by
 induction t with
 | pure a=>intro Q E p s b w; rw [Sem.wp] at *; exact ⟨w,b⟩
 | raise e=>intro Q E p s b w; rw [Sem.wp] at *; exact ⟨w,b⟩
 | unsupported _=>intro Q E p s b w; rw [Sem.wp] at *; exact w
 | finish _=>intro Q E p s b w; rw [Sem.wp] at *; exact w
 | rule t k ih=>intro Q E p s b w; rw [Sem.wp] at *; exact ih () h b w
 | «at» q k ih=>intro Q E p s b w; rw [Sem.wp] at *; exact ih () h b w
 | load a q k ih=>
  intro Q E p s b w; rw [Sem.wp] at *
  obtain ⟨o,e,w⟩:=w
  exact ⟨o,e,ih o (h o) b w⟩
 | update a q g k ih=>
  intro Q E p s b w; rw [Sem.wp] at *
  refine ⟨w.1,ih () h.2 ?_ w.2⟩
  obtain ⟨o,e,d⟩:=b
  by_cases c:a=er
  ·subst c
   exact ⟨g o,by simp [Heap.update,Array.getElem?_modify,e],by rw [h.1]; exact d⟩
  ·exact ⟨o,by simp [Heap.update,Array.getElem?_modify,c,e],d⟩
 | alloc o k ih=>
  intro Q E p s b w; rw [Sem.wp] at *
  refine ih _ (h _) ?_ w
  obtain ⟨o',e,d⟩:=b
  refine ⟨o',?_,d⟩
  have hl:er < s.heap.objs.size:=(Array.getElem?_eq_some_iff.mp e).1
  show (s.heap.objs.push o)[er]?=some o'
  rw [Array.getElem?_push]
  rw [if_neg (Nat.ne_of_lt hl)]; exact e
 | loadIfAlive a k ih=>intro Q E p s b w; rw [Sem.wp] at *; exact ih _ (h _) b w
 | point l k ih=>intro Q E p s b w; rw [Sem.wp] at *; exact ih () h b w
 | fresh k ih=>intro Q E p s b w; rw [Sem.wp] at *; exact ih _ (h _) b w
 | ask k ih=>intro Q E p s b w; rw [Sem.wp] at *; exact ih _ (h _) b w
 | handled o k ih=>intro Q E p s b w; rw [Sem.wp] at *; exact ih _ (h _) b w
 | stack k ih=>intro Q E p s b w; rw [Sem.wp] at *; exact ih _ (h _) b w
 | thread k ih=>intro Q E p s b w; rw [Sem.wp] at *; exact ih _ (h _) b w
 | _=>exact h.elim
theorem DK.any {α:Type} {M:Model} {A:Around} {er:Addr} {t:Sem α} {Q:α->Shared->Prop} {E:Value->Shared->Prop} {s:Shared} (h:DK t) (b:Bare er s) (w:wpAny M A t Q E s):wpAny M A t (fun a s'=>Q a s'/\Bare er s') (fun e s'=>E e s'/\Bare er s') s:=
 fun Γ p hΓ=>h.wp b (w Γ p hΓ)
theorem Bare.get {er:Addr} {s:Shared} {o:Obj} (b:Bare er s) (e:s.heap.get? er=some o):o.dict=none:=by
 obtain ⟨o',e',d⟩:=b
 obtain ⟨e1,_⟩:=Heap.get?_some_iff.mp e
 rw [e'] at e1; cases e1; exact d
theorem zeT (f:Array Value->Array Value) (o:Obj):(o.mapFields f).dict=o.dict:=by
 obtain ⟨c,d,dt,sl⟩:=o; cases dt <;> rfl
theorem zeN {a:Addr}:DK (load a):=fun _=>trivial
theorem zc8 (v:Value) (i:Nat):DK (field v i):=by
 unfold field fieldsOf
 refine DK.bind ?_ fun x=>?_
 ·cases v <;> try trivial
  refine DK.bind zeN fun o=>?_
  split <;> trivial
 ·split <;> trivial
theorem zcD (v:Value) (i:Nat) (x:Value):DK (setField v i x):=by
 unfold setField updateField
 cases v <;> try trivial
 refine DK.bind zeN fun o=>?_
 split
 ·split
  ·exact ⟨fun o=>zeT _ o,trivial⟩
  ·trivial
 ·trivial
theorem zcr (e:Value) (f:Option Addr):DK (setFlight e f):=by
 unfold setFlight
 refine DK.bind (zc8 _ _) fun tb=>?_
 split
 ·exact zcD _ _ _
 ·trivial
theorem zki (env:Env) (i:Bool) (l:List Env):DK (keptBack env i l):=by
 unfold keptBack
 cases l with
 | nil=>
  simp only
  split
  ·trivial
  ·refine DK.bind ?_ fun _=>trivial
   unfold underTheClaimsCaller
   exact fun _=>trivial
 | cons c r=>trivial
theorem zhw (env:Env) (l:List Env):DK (behindIsImport env l):=by
 unfold behindIsImport
 split
 ·trivial
 ·split
  ·trivial
  ·exact DK.bind (zc8 _ _) fun _=>trivial
theorem zfO:∀ l:List Env,DK (readyFrames l)
 | []=>trivial
 | env :: outer=>by
  unfold readyFrames
  split
  ·refine DK.bind zeN fun o=>?_
   split
   ·trivial
   ·refine DK.bind (zhw _ _) fun _=>DK.bind (zki _ _ _) fun _=>DK.bind ⟨fun _=>rfl,trivial⟩ fun _=>zfO outer
  ·trivial
theorem zeQ (l:List Env):DK (frameObject l):=by
 cases l with
 | nil=>trivial
 | cons env outer=>exact DK.bind (zfO _) fun _=>trivial
theorem zgF (env:Env):DK (PySem.frameOf env):=by
 unfold PySem.frameOf frameEnvs
 refine DK.bind (DK.bind (fun _=>trivial) fun _=>trivial) fun _=>DK.bind (zeQ _) fun o=>?_
 split <;> trivial
theorem zi1 (f:Addr) (b:Bool):DK (entryPlaceOf f b):=by
 unfold entryPlaceOf
 refine DK.bind (fun _=>trivial) fun acts=>?_
 split <;> trivial
theorem zgz (T:String) (d:Data):DK (newObjAsIs (.type T) d):=by
 unfold newObjAsIs
 exact fun _=>trivial
theorem zkE (T:String) (vs:Array Value):DK (newObj (.type T) (.fields vs)):=by
 unfold newObj
 simp only
 split
 ·exact DK.bind (m:=unsupported "record:memory") trivial fun _=>zgz _ _
 ·exact zgz _ _
theorem zjc (a b c d e:Value) (pl:List Value):DK (EntryCells.newEntry a b c d e pl):=zkE _ _
theorem zgi (e:Value) (env:Env):DK (noteFrame e env):=by
 unfold noteFrame
 have fin:∀ (head:Value) (f:Addr),DK (do setField e 1 (<- EntryCells.newEntry head (<- frameOf env) .none (rawInt f) .none (<- entryPlaceOf f (head != .none)))):=fun head f=>
  DK.bind (zgF _) fun _=>DK.bind (zi1 _ _) fun _=>DK.bind (zjc _ _ _ _ _ _) fun _=>zcD _ _ _
 split
 ·refine DK.bind (zc8 _ _) fun head=>?_
  split
  ·refine DK.bind (zc8 _ _) fun x=>?_
   split
   ·trivial
   ·exact DK.bind (zcD _ _ _) fun _=>fin _ _
  ·exact fin _ _
 ·trivial
theorem zef (env:Env) (e:Value):DK (leaving env e):=DK.bind (zgi _ _) fun _=>zcr _ _
set_option genInjectivity false in
set_option genSizeOf false in
structure Fly (P:Program) (w:World) (outer:List Env) (H:Hp) (s:Shared) (H':Hp) (er C t:Addr) (B:Heap) (s':Shared):Prop where
 os:s'.os=s.os
 bare:AllBare s'.gens
 un:Un (frs outer) [] H H' s.heap s'.heap
 hok:HOk P w H' s'.heap
 fly:Heap.FlyingW B outer er (.ref C) (.ref t) s'.heap
 old:∀ b o,s.heap.get? b=some o->H b=none->b ∉ frs outer->B.get? b=some o
 has:∀ b o,s.heap.get? b=some o->b ∉ frs outer->∃ u,B.get? b=some u
 trk:∀ b o u,H' b=some o->s'.heap.get? b=some u->B.get? b=some u
 nod:Bare er s'
noncomputable def CXF (P:Program) (w:World):CXT:=fun outer H s E e s'=>∃ er C t B H',e=.ref er/\Fly P w outer H s H' er C t B s'/\E (.ref C) none H'
theorem zx {P:Program} {w:World}:NoX (CXF P w):=fun _ _ _ _ _ ⟨_,_,_,_,_,_,_,h⟩=>h
section
variable {P:Program} {w:World} {outer:List Env} {H H':Hp} {s s':Shared} {er C t:Addr} {B h:Heap}
theorem Fly.noTrk (F:Fly P w outer H s H' er C t B s'):H' er=none:=by
 cases e:H' er with
 | none=>rfl
 | some o=>
  obtain ⟨ob,q,_⟩:=F.fly.there
  have z:=F.trk er o ob e q
  rw [F.fly.2.1] at z; cases z
theorem Fly.unAt (F:Fly P w outer H s H' er C t B s') (fr:s.heap.FunFrames base outer) (st:B.StaysIn h) (up:s'.heap.UpToSlots h):Un (frs outer) [] H H' s.heap h where
 keep:=fun b o q n hb _=>st b o (F.old b o q n hb)
 slot:=fun b o q n hb _=>by
  obtain ⟨sl,e1⟩:=F.un.slot b o q n hb (by simp)
  obtain ⟨_,o',e',nf⟩:=fr.mem hb
  rw [q] at e'; cases e'
  obtain ⟨sl',e2⟩:=up b _ e1 nf
  exact ⟨sl',e2⟩
 free:=F.un.free
 there:=fun b o q _=>by
  by_cases hb:b ∈ frs outer
  ·obtain ⟨_,o',e',nf⟩:=fr.mem hb
   rw [q] at e'; cases e'
   cases hn:H b with
   | none=>
    obtain ⟨sl,e1⟩:=F.un.slot b o q hn hb (by simp)
    obtain ⟨sl',e2⟩:=up b _ e1 nf
    exact ⟨_,e2⟩
   | some x=>
    obtain ⟨_,o1,e1,nf1⟩:=F.fly.2.2.1.mem hb
    obtain ⟨sl',e2⟩:=up b _ e1 nf1
    exact ⟨_,e2⟩
  ·obtain ⟨u,e⟩:=F.has b o q hb
   exact ⟨u,st b u e⟩
 tups:=F.un.tups
 frzs:=F.un.frzs
 tbls:=F.un.tbls
theorem Fly.hokAt (F:Fly P w outer H s H' er C t B s') (st:B.StaysIn h):HOk P w H' h:=fun a o e=>
 (F.hok a o e).stay (fun b u hb q=>st b u (by
  rcases hb with rfl | hb
  ·exact F.trk b o u e q
  ·exact F.trk b _ u hb q)) (fun _ q=>q) fun _ _ q=>q
noncomputable def zeb (er C:Addr) (h:Heap):Prop:=∃ oe:Obj,PySem.W.InstAt h er oe C none
noncomputable def zbK (er C:Addr):HO:=.ext (zeb er C)
theorem ziR {l:List Env} {a0:Value} {B h:Heap} {s:Shared} {er C:Addr} (f:Heap.FlyingW B l er (.ref C) a0 h) (b:Bare er { s with heap:=h }):zeb er C h:=by
 obtain ⟨oe,vs,e,c,d,_⟩:=f.first
 have nd:oe.dict=none:=b.get e
 exact ⟨oe,e,c,by unfold PySem.W.notCls; rw [d],by rw [nd]; trivial⟩
theorem Fly.unEr (F:Fly P w outer H s H' er C t B s') (u:Un (frs outer) [] H H' s.heap h):Un (frs outer) [] H (upd H' er (zbK er C)) s.heap h:=by
 have ne:∀ b o,s.heap.get? b=some o->b ≠ er:=fun b o q z=>by
  subst z
  by_cases hb:b ∈ frs outer
  ·obtain ⟨_,o1,e1,nf1⟩:=F.fly.2.2.1.mem hb
   obtain ⟨oe,vs,e2,_,d,_⟩:=F.fly.first
   rw [e1] at e2; cases e2
   exact nf1 vs d
  ·obtain ⟨u,e⟩:=F.has b o q hb
   rw [F.fly.2.1] at e; cases e
 have nt:=F.noTrk
 exact ⟨u.keep,u.slot,fun b o q n hx=>by rw [zG (ne b o q)]; exact u.free b o q n hx,u.there,fun b xs q=>by
   rw [zG (zJ (u.tups b xs q) nt)]; exact u.tups b xs q,fun b o v q=>by
   rw [zG (zJ (u.frzs b o v q) nt)]; exact u.frzs b o v q,fun b ps q=>by
   obtain ⟨m,e⟩:=u.tbls b ps q
   exact ⟨m,by rw [zG (zJ e nt)]; exact e⟩⟩
theorem zlL (hk:HOk P w H' h) (nt:H' er=none) (he:zeb er C h):HOk P w (upd H' er (zbK er C)) h:=fun a o e=>by
 by_cases ha:a=er
 ·subst ha
  rw [zK] at e; cases e
  obtain ⟨oe,i⟩:=he
  refine ⟨⟨oe,i⟩,⟨oe,i.at_⟩,fun h1 h2 ⟨o1,i1⟩ k=>⟨o1,k o1 i1.at_,i1.cls,i1.no,?_⟩⟩
  have z:=i1.dict
  cases hd:o1.dict with
  | none=>trivial
  | some dx=>rw [hd] at z; exact z.elim
 ·rw [zG ha] at e
  exact (hk a o e).stay (fun _ _ _ q=>q) (fun b q=>by rw [zG (zJ q nt)]; exact q) fun b xs q=>by rw [zG (zJ q nt)]; exact q
end
noncomputable def bmV:List Value:=[.type "ValueError",.type "Exception",.type "BaseException",.type "object"]
noncomputable def OwnErr (K:PySem.W.Frag) (C:Addr):Prop:=PySem.W.excIn K C bmV "ValueError.__new__" = true
theorem OwnErr.obj {K:PySem.W.Frag} {h:Heap} {C:Addr} (q:OwnErr K C) (X:K.In h):∃ bm N nm qn bs hd sn sub ab col dd k0 k1 k2 k3 k5 mN,
  h.get? C=some (excClassObj nm qn C N bs bm hd sn sub ab col dd k0 k1 k2 k3 k5 "ValueError.__new__")/\h.Ns N mN/\mN "__init__" = none/\OwnTail h bmV bm:=by
 have q':PySem.W.excIn K C bmV "ValueError.__new__" = true:=q
 unfold PySem.W.excIn at q'
 split at q'
 ·rename_i dd cd sl lk
  split at q'
  ·rename_i C' bm k0 k1 k2 k3 nid k5 em es
   rw [Bool.and_eq_true,Bool.and_eq_true,Bool.and_eq_true,Bool.and_eq_true,Bool.and_eq_true] at q'
   obtain ⟨⟨⟨⟨⟨a1,a2⟩,a3⟩,a4⟩,a5⟩,a6⟩:=q'
   have b1:C'=C:=eq_of_beq a1
   have b2:nid = "ValueError.__new__" := eq_of_beq a2
   have b3:cd.hasDel=false:=by simpa using a3
   have b6:=eq_of_beq a6
   have g:=X C _ lk
   obtain ⟨nm,bs,mro,ns,qn,hd,sn,sub,ab,col,del⟩:=cd
   simp only at em b3 a5 b6
   subst em b3 b1 b2
   have hsl:sl=#[k0,k1,k2,k3,some (.builtin "ValueError.__new__"),k5]:=by
    rw [<- Array.toList_inj]; exact es
   subst hsl
   exact ⟨bm,ns,nm,qn,bs,hd,sn,sub,ab,col,dd,k0,k1,k2,k3,k5,_,g,Heap.Ns.of_isNs (PySem.W.isNs_of_in X a5),PySem.W.nsMap_none_of_in X a5 b6,PySem.W.tail_of_in X a4⟩
  ·cases q'
 ·cases q'
theorem zig {prog:Program} {w:World} {A:Around} {E:Value->Shared->Prop} {s:Shared} {K:PySem.W.Frag} {er C:Addr} {oe:Obj} {Q:Option Value->Shared->Prop}
  (ga:PySem.W.findIn K (.ref C) "__getattribute__" = some (some (.builtin "BaseException.__getattribute__"))) (gn:PySem.W.findIn K (.ref C) "__getattr__" = some none)
  (hf:PySem.W.findObj K C none "__class__" = some (.bind (.builtin "getset_descriptor.__get__") (.builtin "object.__class__"))) (mo:PySem.W.mroIn K C (.type "object")=some true) (be:PySem.W.mroIn K C (.type "BaseException")=some true)
  (X:K.In s.heap) (i:PySem.W.InstAt s.heap er oe C none) (q:Q (some (.ref C)) { s with toks:=s.toks + 1 }):wpAny (model prog w) A (getAttr? (.ref er) "__class__") Q E s:=by
 obtain ⟨hh,g,d,t,os⟩:=s
 have L0:=i.type (M:=model prog w)
 have L1:=PySem.W.looks_findIn (M:=model prog w) X ga
 have Internal':=PySem.W.looks_findIn (M:=model prog w) X gn
 have L3:=PySem.W.looks_find (M:=model prog w) X i hf
 have L4:=PySem.W.looks_mroIn (M:=model prog w) X be
 have f3:=PySem.F.attr_ValueError.ga.bind (.ref er)
 unfold getAttr? getAttrBy? getAttrBy
 refine wpAny_bind (wpAny_mkText (wpAny_bind (wpAny_attempt (wpAny_holding (wpAny_bind (L0.at (wpAny_bind (L1.at ?_))))))))
 show wpAny _ _ (getAttrByItsOwn _ _ _ _ _ _) _ _ _
 unfold getAttrByItsOwn hookBefore
 refine wpAny_bind (Internal'.at ?_)
 refine wpAny_bind (wpAny_attempt (wpAny_holding ?_))
 show wpAny _ _ (boundAndCalled _ _ _) _ _ _
 unfold boundAndCalled
 rw [f3]
 refine wpAny_bind (wpAny_pure ?_)
 refine wpAny_call (codeAny_call_builtin PySem.F.attr_ValueError.ga.plain PySem.F.entry_bexc_ga ?_)
 have hk:builtinKind "BaseException.__getattribute__" = some .slot:=by decide +kernel
 have hsp:splitId "BaseException.__getattribute__" = some ("BaseException", "__getattribute__"):=by decide +kernel
 simp only [checkBuiltinCall,hk,hsp]
 unfold isInstance
 refine wpAny_bind (wpAny_bind (L0.at (L4.at ?_)))
 simp only [Bool.not_true,Bool.false_eq_true,if_false]
 have ha:=PySem.F.args_bexc_ga (.ref er) (.str "__class__" t)
 unfold argsOk at ha
 refine wpAny_of_eq (a:=()) ha ?_
 show wpAny _ _ (Builtin.«object.__getattribute__» _) _ _ _
 unfold Builtin.«object.__getattribute__»
 refine wpAny_bind (wpAny_pure ?_)
 refine wpAny_bind (wpAny_pure ?_)
 refine wpAny_bind (L0.at ?_)
 refine wpAny_bind (L3.at ?_)
 show wpAny _ _ (Builtin.ObjectAttr.bindTo _ _ _ _) _ _ _
 unfold Builtin.ObjectAttr.bindTo
 refine wpAny_bind (wpAny_holding (wpAny_call (PySem.W.class_get X i mo ?_)))
 exact wpAny_pure (PySem.W.handed_on rfl (wpAny_pure q))
noncomputable def errOk (K:PySem.W.Frag) (C:Addr):Bool:=PySem.W.excIn K C bmV "ValueError.__new__" && (PySem.W.findIn K (.ref C) "__getattribute__" == some (some (.builtin "BaseException.__getattribute__"))) && (PySem.W.findIn K (.ref C) "__getattr__" == some none) && (PySem.W.mroIn K C (.type "BaseException") == some true) && (PySem.W.clsIn K C).isSome && (PySem.W.findIn K (.ref C) "__class__" == some (some (.builtin "object.__class__"))) &&
 (PySem.W.specialIn K (.builtin "object.__class__") "__get__" == some (some (.builtin "getset_descriptor.__get__"))) && (PySem.W.takesIn K (.builtin "object.__class__") == some true) && (PySem.W.mroIn K C (.type "object") == some true)
theorem errOk.own {K:PySem.W.Frag} {C:Addr} (h:errOk K C=true):OwnErr K C:=by
 unfold errOk at h
 simp only [Bool.and_eq_true] at h
 exact h.1.1.1.1.1.1.1.1
theorem zjh {K:PySem.W.Frag} {er C:Addr} (h:errOk K C=true):PySem.W.KitX K (.ref er) (.ref C) (zeb er C):=by
 unfold errOk at h
 simp only [Bool.and_eq_true,beq_iff_eq] at h
 obtain ⟨⟨⟨⟨⟨⟨⟨⟨_,ga⟩,gn⟩,be⟩,cl⟩,fa⟩,sn⟩,tk⟩,mo⟩:=h
 obtain ⟨cd,hc⟩:=Option.isSome_iff_exists.mp cl
 have there:∃ o:Obj,K.lookup C=some o/\o.data=.cls cd:=by
  unfold PySem.W.clsIn at hc
  split at hc
  ·rename_i lk; cases hc; exact ⟨_,lk,rfl⟩
  ·cases hc
 obtain ⟨o,lk,dt⟩:=there
 refine ⟨fun M h _ ⟨oe,i⟩=>i.type,fun M h X _ A Q E s k q=>?_,fun h tp dd its n sl X e=>?_,fun {prog w A E Q s} X ⟨oe,i⟩ q=>?_⟩
 ·have g:=k _ _ (X _ _ lk)
  obtain ⟨oc,od,oda,osl⟩:=o
  simp only at dt
  subst dt
  unfold isType loadHead
  exact wpAny_bind (wpAny_loadPart g (wpAny_pure q))
 ·rw [Bool.eq_false_iff]
  intro z
  have ec:C=tp:=Value.ref.inj (beq_iff_eq.mp z)
  subst ec
  have g:=X _ _ lk
  rw [e] at g; cases g; cases dt
 ·have hf:PySem.W.findObj K C none "__class__" = some (.bind (.builtin "getset_descriptor.__get__") (.builtin "object.__class__")):=by
   unfold PySem.W.findObj
   rw [hc,Option.bind_some,fa,Option.bind_some]
   simp [sn,tk]
  exact zig ga gn hf mo be X i q
noncomputable def zie (C:Addr) (Ex:XK) (ta:TA):TS:=fun _ σ H=>ta σ H fun vs H1=>vs.length<=sizeLine/\Ex (.ref C) none H1
noncomputable def zkB (X:Cx) (C:Addr) (Ex:XK):Prop:=∀ (pins:List (Addr × Obj)) (σ:St) (H:Hp) (s:Shared) (h':Heap) (er:Addr) (args:List Value),Inv X pins σ H s->Heap.MadeExcOf s.heap h' er (.ref C) args->Ex (.ref C) none H->X.xe (.ref er) { s with heap:=h' }
theorem zay {X:Cx} {C:Addr} {x:Str} {np cpos pos:Pos} {e:Expr} {es:List Expr} {ta:TA} {Ex:XK} (hc:X.calm=true) (hg:Gl X x) (hm:X.mg x=some (.ref C)) (hX:OwnErr X.K C) (ha:PA X (e :: es) ta) (hl:zkB X C Ex)
  (hdb:autoParam ((x == ("__debug__" : Str))=false) Internal.aut1._auto_1) (he:autoParam (starEach (e :: es) X.env=(false,eval e X.env) :: starEach es X.env) Internal.aut2._auto_1) (hpl:autoParam ((backTo cpos (starEach es X.env)).any (·.1)=false) Internal.aut2._auto_1) :
  PS X (.Raise (some (.Call (.Name x np) (e :: es) [] cpos)) none pos) (zie C Ex ta):=by
 intro pins s σ H D I h
 obtain ⟨bm,N,nm,qn,bs,hd,sn,sub,ab,col,dd,k0,k1,k2,k3,k5,mN,g1,g2,g3,g4⟩:=hX.obj I.ok.mod.kin
 have pl:(backTo cpos (starEach (e :: es) X.env)).any (·.1)=false:=by rw [he]; exact hpl
 refine wpAny_Raise_call_subT PySem.F.excBase_ValueError (C:=C) (nm:=nm) (q:=qn) (N:=N) (bs:=bs) (hdct:=hd) (sn:=sn) (sub:=sub) (ab:=ab) (col:=col) (dd:=dd) (k0:=k0) (k1:=k1) (k2:=k2) (k3:=k3) (k5:=k5) (g4.hasType (by decide)) (I.ok.hd hc) pl g3 (zb7 I hg hm ⟨rfl,?_⟩ hdb)
 have run:=ha cpos pins s σ H _ I h
 rw [he] at run ⊢
 refine Calls.evalArgs_plain (wpAny_mono run (fun us s1 q=>?_) fun _ _ z=>z)
 obtain ⟨vs,H1,I1,r,z,ex⟩:=q
 exact ⟨rfl,by rw [<- r.length]; exact z,I1.bk _ _ g1,g2.keeps I1.bk,g4.keeps I1.bk,fun h' er mk=>hl pins σ H1 s1 h' er us I1 mk ex⟩
theorem zbi {P:Program} {w:World} {K:PySem.W.Frag} {mg:Str->Option Value} {base:Heap} {N:List Str} {qual:Str} {scope:Scope} {f:Addr} {cd:Value} {A:Around} {outer:List Env} {s:Shared} {H:Hp} {E:XK} {C:Addr} :
  zkB (zaB (CXF P w) P w K mg base N qual scope f cd A outer s H E) C E:=by
 intro pins σ H1 s1 h' er args I mk ex
 have fr:=I.stack
 have hin:∀ env ∈ (envOfC qual scope s.heap.objs.size f cd :: outer),∀ b,env.frame=some b->b ∈ frs (envOfC qual scope s.heap.objs.size f cd :: outer):=fun env he b hb=>List.mem_filterMap.mpr ⟨env,he,hb⟩
 have sb:∀ b o,(PySem.W.hideAll s1.heap (frs (envOfC qual scope s.heap.objs.size f cd :: outer))).get? b=some o->s1.heap.get? b=some o:=fun b o q=>PySem.W.of_hideAll _ q
 have inB:∀ b o,s1.heap.get? b=some o->b ∉ frs (envOfC qual scope s.heap.objs.size f cd :: outer)->(PySem.W.hideAll s1.heap (frs (envOfC qual scope s.heap.objs.size f cd :: outer))).get? b=some o:=fun b o q n=>PySem.W.hideAll_get _ q n
 have nfr:∀ b o,s.heap.get? b=some o->b ∉ frs outer->b ∉ frs (envOfC qual scope s.heap.objs.size f cd :: outer):=fun b o q n z=>by
  rcases List.mem_cons.mp (show b ∈ s.heap.objs.size :: frs outer from z) with z | z
  ·exact Nat.ne_of_lt (Heap.lt_size q) z
  ·exact n z
 have trkB:∀ b o u,H1 b=some o->s1.heap.get? b=some u->(PySem.W.hideAll s1.heap (frs (envOfC qual scope s.heap.objs.size f cd :: outer))).get? b=some u:=fun b o u q e=>inB b u e fun z=>by
  have:=I.stkFree b z
  rw [q] at this; cases this
 show wpAny (model P w) (A.deeper (envOfC qual scope s.heap.objs.size f cd)) (leaving (envOfC qual scope s.heap.objs.size f cd) (.ref er)) _ _ _
 have b0:Bare er { s1 with heap:=h' }:=by
  obtain ⟨t,e,_⟩:=mk.there
  exact ⟨_,(Heap.get?_some_iff.mp e).1,rfl⟩
 refine wpAny_mono (DK.any (E:=fun _ _=>False) (Q:=fun _ s''=>Bare er s''->CXF P w outer H s E (.ref er) s'') (zef _ _) b0 ?_) (fun _ s'' q=>q.1 q.2) fun _ _ q=>q.1.elim
 refine wpAny_leaves_madeW (L:=s.heap.objs.size) (base:=PySem.W.hideAll s1.heap (frs (envOfC qual scope s.heap.objs.size f cd :: outer))) (h:=s1.heap) I.ok.frames rfl sb (PySem.W.funFrames_hide fr hin) mk fun h'' t fly _ _ up b1=>?_
 refine ⟨er,C,t,_,H1,rfl,⟨I.os,I.bare,⟨fun b o q n hb _=>?_,fun b o q n hb _=>?_,fun b o q n _=>I.base.free b o q n (by simp [zaB]),fun b o q _=>?_,I.base.tups,I.base.frzs,I.base.tbls⟩,?_,fly,fun b o q n hb=>?_,fun b o q hb=>?_,?_,b1⟩,ex⟩
 ·exact fly.1 b o (inB b o (I.base.keep b o q n hb (by simp [zaB])) (nfr b o q hb))
 ·obtain ⟨sl,e1⟩:=I.base.slot b o q n hb (by simp [zaB])
  obtain ⟨_,o1,e2,nf⟩:=I.ok.funs.mem hb
  have e3:s.heap.get? b=some o1:=e2
  rw [q] at e3; cases e3
  obtain ⟨sl',e4⟩:=up b _ (mk.keeps b _ e1) nf
  exact ⟨sl',e4⟩
 ·by_cases hb:b ∈ frs outer
  ·obtain ⟨_,o1,e1,_⟩:=fly.2.2.1.mem hb
   exact ⟨o1,e1⟩
  ·obtain ⟨o1,e1⟩:=I.base.there b o q (by simp [zaB])
   exact ⟨o1,fly.1 b o1 (inB b o1 e1 (nfr b o q hb))⟩
 ·intro a o e
  exact (I.hok a o e).stay (fun b u hb q=>fly.1 b u (by
   rcases hb with rfl | hb
   ·exact trkB b o u e q
   ·exact trkB b _ u hb q)) (fun _ q=>q) fun _ _ q=>q
 ·exact inB b o (I.base.keep b o q n hb (by simp [zaB])) (nfr b o q hb)
 ·obtain ⟨o1,e1⟩:=I.base.there b o q (by simp [zaB])
  exact ⟨o1,inB b o1 e1 (nfr b o q hb)⟩
 ·intro b o u q e
  obtain ⟨u1,e1⟩:=(I.hok b o q).obj
  have z:=fly.1 b u1 (trkB b o u1 q e1)
  have e':h''.get? b=some u:=e
  rw [z] at e'; cases e'
  exact trkB b o _ q e1
noncomputable abbrev Cx.inH (X:Cx) (er:Addr):Cx:={ X with A:=X.A.mark (some (.ref er)),calm:=false,xe:=fun _ _=>False }
theorem Cx.Ok.inH {X:Cx} (ok:X.Ok) (er:Addr):(X.inH er).Ok:=
 ⟨ok.mod,ok.kind,ok.glob,ok.blt,ok.above,ok.inj,ok.has,ok.cab,fun z=>(by cases z),ok.frames,ok.stk,ok.exf,ok.bs,ok.bsz,ok.noex,ok.exfs,ok.funs,ok.frf⟩
section
variable {X:Cx} {pins:List (Addr × Obj)} {σ:St} {H H':Hp} {s s':Shared}
theorem Inv.inH (I:Inv X pins σ H s) (er:Addr):Inv (X.inH er) pins σ H s:=⟨I.ok.inH er,I.os,I.bare,I.base,I.loc,I.cell,I.free,I.freeC,I.pin,I.hok,I.len⟩
theorem Inv.outH {er:Addr} (ok:X.Ok) (I:Inv (X.inH er) pins σ H s):Inv X pins σ H s:=⟨ok,I.os,I.bare,I.base,I.loc,I.cell,I.free,I.freeC,I.pin,I.hok,I.len⟩
theorem zic {i:Nat} {n:Str} {pos:Pos} {Q:Unit->Shared->Prop} {E:Value->Shared->Prop} (I:Inv X pins σ H s) (hN:X.N.Nodup) (hi:X.N[i]?=some n) (hl:X.env.kindOf n=some .local) (q:∀ s2,Inv X pins (σ.set i none) H s2->Q () s2) :
  wpAny (model X.prog X.w) X.A (do bindName X.env n .none; unbindBehindTheSuite X.env n pos) Q E s:=by
 obtain ⟨m,hn,lk⟩:=id I.loc
 obtain ⟨oL,_,_,hoL,_⟩:=id hn
 refine wpAny_nameGoes_keeps hl hn (by rw [I.ok.kind]; rfl) fun h' v hn' hs=>q _ ?_
 have nL:∀ b o,X.s₀.heap.get? b=some o->b ≠ X.env.locals:=fun b o e=>Nat.ne_of_lt (Nat.lt_of_lt_of_le (Heap.lt_size e) I.ok.above)
 refine ⟨I.ok,I.os,I.bare,⟨fun b o e n hb hx=>(hs.2 b (nL b o e)).trans (I.base.keep b o e n hb hx),fun b o e n hb hx=>?_,I.base.free,fun b o e hx=>?_,I.base.tups,I.base.frzs,I.base.tbls⟩,⟨_,hn',fun j y v' e1 e2 e3=>?_⟩,fun y c e=>?_,I.free,I.freeC,fun p hp=>?_,fun b ob e=>?_,by rw [List.length_set]; exact I.len⟩
 ·obtain ⟨sl,e1⟩:=I.base.slot b o e n hb hx
  exact ⟨sl,(hs.2 b (nL b o e)).trans e1⟩
 ·obtain ⟨o',e1⟩:=I.base.there b o e hx
  exact ⟨o',(hs.2 b (nL b o e)).trans e1⟩
 ·by_cases hj:j=i
  ·subst hj
   have hlt:j < σ.length:=by rw [I.len]; exact (List.getElem?_eq_some_iff.mp hi).1
   rw [List.getElem?_set_self hlt] at e2
   cases e2
  ·rw [List.getElem?_set_ne (Ne.symm hj)] at e2
   obtain ⟨u,r,z⟩:=lk j y v' e1 e2 e3
   refine ⟨u,r,?_⟩
   have ny:y ≠ n:=fun z=>hj (zdO hN e1 (z ▸ hi))
   rcases z with ⟨k,e⟩ | ⟨k,c,e,z⟩
   ·exact .inl ⟨k,by show (if y=n then v else m y)=some u; rw [if_neg ny]; exact e⟩
   ·exact .inr ⟨k,c,e,z.sameBut hs (I.cne y c e)⟩
 ·obtain ⟨u,z⟩:=I.cell y c e
  exact ⟨u,z.sameBut hs (I.cne y c e)⟩
 ·obtain ⟨e,n,ne,nf,d⟩:=I.pin p hp
  exact ⟨(hs.2 p.1 ne).trans e,n,ne,nf,d⟩
 ·refine (I.hok b ob e).stay (fun c u hc q=>(hs.2 c ?_).trans q) (fun _ q=>q) fun _ _ q=>q
  rintro rfl
  rcases hc with rfl | hc
  ·have:=I.free; rw [e] at this; cases this
  ·have:=I.free; rw [hc] at this; cases this
noncomputable def Ends.gone (D:Ends) (i:Nat):Ends:=⟨fun σ H=>D.nx (σ.set i none) H,D.rt,fun σ H=>D.bk (σ.set i none) H,fun σ H=>D.ct (σ.set i none) H⟩
theorem SP.gone {i:Nat} {D:Ends} {f:Flow} {er:Addr} (ok:X.Ok) (h:SP (X.inH er) pins (D.gone i) f s):∃ σ' H',Inv X pins σ' H' s/\∀ s2,Inv X pins (σ'.set i none) H' s2->SP X pins D f s2:=by
 cases f with
 | next=>obtain ⟨σ',H',I,q⟩:=h; exact ⟨σ',H',I.outH ok,fun s2 J=>⟨_,_,J,q⟩⟩
 | brk=>obtain ⟨σ',H',I,q⟩:=h; exact ⟨σ',H',I.outH ok,fun s2 J=>⟨_,_,J,q⟩⟩
 | cont=>obtain ⟨σ',H',I,q⟩:=h; exact ⟨σ',H',I.outH ok,fun s2 J=>⟨_,_,J,q⟩⟩
 | ret u=>obtain ⟨v,σ',H',I,r,q⟩:=h; exact ⟨σ',H',I.outH ok,fun s2 J=>⟨v,_,_,J,r,q⟩⟩
theorem taken {er C CQ t:Addr} {B:Heap} {qn n:Str} {qp hp:Pos} {b0:Stmt} {suite:List Stmt} {rest:List ExceptHandler} {i:Nat} {th:TS} {D:Ends} (hst:X.stack=X.env :: X.outer/\X.env.frame=some X.env.locals) (I:Inv X pins σ H s)
  (F:Fly X.prog X.w X.stack H s H' er C t B s') (hg:Gl X qn) (hm:X.mg qn=some (.ref CQ)) (hx:PySem.W.exmOne X.K (.ref C) (.ref CQ)=some true) (hN:X.N.Nodup) (hi:X.N[i]?=some n) (hl:X.env.kindOf n=some .local)
  (hth:PSs (X.inH er) (b0 :: suite) th) (q:th (D.gone i) (σ.set i (some (.ref er))) (upd H' er (zbK er C))) (hdb:(qn == ("__debug__" : Str))=false) :
  wpAny (model X.prog X.w) X.A (noteFrame (.ref er) X.env) (fun _ s₂=>wpAny (model X.prog X.w) X.A (setFlight (.ref er) none) (fun _ s₃=>
   wpAny (model X.prog X.w) X.A (handleBy (.ref er) X.env (.ExceptHandler (some (.Name qn qp)) (some n) (b0 :: suite) hp :: rest)) (SP X pins D) X.xe s₃) X.xe s₂) X.xe s':=by
 have hfr:X.A.frames=some (X.env :: X.outer):=by rw [I.ok.frames,hst.1]
 have fly0:Heap.FlyingW B (X.env :: X.outer) er (.ref C) (.ref t) s'.heap:=hst.1 ▸ F.fly
 have at':∀ {h:Heap},B.StaysIn h->s'.heap.UpToSlots h->∀ tk,Inv X pins σ H' { s' with heap:=h,toks:=tk }:=fun {h} st up tk=>
  I.call' (s':={ s' with heap:=h,toks:=tk }) (ch:=[]) F.os (F.unAt I.stack st up) (F.hokAt st) F.bare fun _ z=>nomatch z
 refine wpAny_mono (DK.any (E:=fun _ _=>False) (Q:=fun _ s2=>Bare er s2->_) (zgi _ _) F.nod (wpAny_looks_onW hfr hst.2 fly0 fun h4 held up4 b4=>?_)) (fun _ s2 q=>q.1 q.2) fun _ _ q=>q.1.elim
 refine wpAny_mono (DK.any (E:=fun _ _=>False) (Q:=fun _ s2=>Bare er s2->_) (zcr _ _) b4 (wpAny_landsW held fun h5 fly5 up5 b5=>?_)) (fun _ s2 q=>q.1 q.2) fun _ _ q=>q.1.elim
 have up:s'.heap.UpToSlots h5:=up4.trans up5
 have J5:=(at' fly5.1 up s'.toks).inH er
 obtain ⟨ob,hob,hoc⟩:=fly5.there
 refine wpAny_handleBy_cons (codeAny_handlers_test (zb7 (X:=X.inH er) J5 hg hm ?_ hdb)) (by intro z; cases z)
 have LT:PySem.W.Looks (model X.prog X.w) h5 (typeOf (.ref er)) (.ref C):=hoc ▸ (PySem.W.Looks.ld hob).andThen .now
 refine (PySem.W.exm_one J5.kIn LT hx) _ _ _ _ (fun _ _ e=>e) ?_
 show codeAny _ _ _ _ _
 refine codeAny_handlers_suite_as ?_
 refine wpAny_mono (DK.any (E:=fun _ _=>False) (Q:=fun _ s2=>Bare er s2->_) (zcr _ _) b5 (lands_againW fly5 fun h6 fly6 up6 b6=>?_)) (fun _ s2 q=>q.1 q.2) fun _ _ q=>q.1.elim
 have J6:=at' fly6.1 (up.trans up6) s'.toks
 have u6:Un (frs X.stack) [] H (upd H' er (zbK er C)) s.heap h6:=F.unEr (F.unAt I.stack fly6.1 (up.trans up6))
 have K6:Inv X pins σ (upd H' er (zbK er C)) { s' with heap:=h6 }:=
  I.call' (s':={ s' with heap:=h6 }) (ch:=[]) F.os u6 (zlL (F.hokAt fly6.1) F.noTrk (ziR fly6 b6)) F.bare fun _ z=>nomatch z
 refine zcO (X:=X.inH er) (i:=i) (v:=.ref er) (K6.inH er) hN hi (.inl hl) rfl (fun s7 J7=>?_) (.inr hl)
 refine wpAny_mono (hth pins s7 _ _ _ J7 q) (fun fl s8 hs=>?_) fun _ _ z=>z.elim
 obtain ⟨σ9,H9,I9,fin⟩:=SP.gone I.ok hs
 exact zic I9 hN hi hl fun s10 J10=>fin s10 J10
end
theorem Fun.okX {P:Program} {w:World} {K:PySem.W.Frag} {mg:Str->Option Value} {base:Heap} {CX:CXT} {x qual:Str} {st:Stmt} {f:Addr} {fd:FuncData} {N ps:List Str} {k:Nat} {sp:Sp} (F:Fun K x qual st f fd) (S:FnScope N ps (zi st)) (len:∀ vs H Q E,sp vs H Q E->vs.length=ps.length)
  (body:∀ (cdv:Value) (A:Around) (outer:List Env) (s:Shared) (H:Hp) (vs:List V) (Q:VK) (E:XK),Room k (A.deeper (envOfC qual (zi st) s.heap.objs.size f cdv))->sp vs H Q E ->
   ∃ t,PSs (zaB CX P w K mg base N qual (zi st) f cdv A outer s H E) (zA st) t/\t { nx:=fun _ H'=>Q .non H',rt:=Q } (start N vs) H):FnOk P w K mg base CX (k + 1) f fd ps sp:=by
 obtain ⟨oc,od,kV,doc,pm,an,cdv,ct,osl,rfl,lk,hcd⟩:=F.ex
 exact zjq lk hcd S len fun A outer s H vs Q E hr hsp=>body cdv A outer s H vs Q E hr hsp
noncomputable def zam (K:PySem.W.Frag):List V->Hp->VK->Prop:=fun xs H Q=>(∃ er C c cv b,xs=[.ref er,c]/\RelV c cv/\H er=some (zbK er C)/\errOk K C=true/\PySem.W.kitOne K (.ref C) cv=some b/\Q (.bl b) H)\/zf4 K xs H Q
theorem za7 {X:Cx}:CallR X (.builtin "isinstance") (zam X.K):=by
 refine CallR.or ?_ zgc
 intro pins s σ H xs us Q I r h
 obtain ⟨er,C,c,cv,b,rfl,rc,he,ok,hk,q⟩:=h
 obtain ⟨u,w',rfl,r1,r2⟩:=vals2 r
 obtain rfl:u=Value.ref er:=r1
 have ie:zeb er C s.heap:=(I.hok er _ he).1
 have ec:w'=cv:=by
  cases c with
  | ty n=>exact (show w'=_ from r2).trans (show cv=_ from rc).symm
  | ref a=>exact (show w'=_ from r2).trans (show cv=_ from rc).symm
  | non=>exact (show w'=_ from r2).trans (show cv=_ from rc).symm
  | bl b=>exact (show w'=_ from r2).trans (show cv=_ from rc).symm
  | _=>obtain ⟨_,rfl⟩:=rc; simp [PySem.W.kitOne,PySem.W.kitCls] at hk
 subst ec
 exact PySem.W.kia_one (zjh ok) I.kIn ie hk (by intro z; cases z) fun tk=>⟨.bl b,H,I.tok tk,rfl,q⟩
theorem zcA {K:PySem.W.Frag} {xs:List V} {H:Hp} {Q:VK} (q:zf4 K xs H Q):zam K xs H Q:=.inr q
theorem zjw {K:PySem.W.Frag} {H:Hp} {Q:VK} {er C:Addr} {c:V} {cv:Value} {b:Bool} (h:H er=some (zbK er C)) (ok:errOk K C=true) (rc:RelV c cv) (e:PySem.W.kitOne K (.ref C) cv=some b) (q:Q (.bl b) H):zam K [.ref er,c] H Q:=.inl ⟨er,C,c,cv,b,rfl,rc,h,ok,e,q⟩
theorem zjF {C:Addr} {Ex:XK} {ta:TA} {D:Ends} {σ:St} {H:Hp} (q:ta σ H fun vs H1=>vs.length<=sizeLine/\Ex (.ref C) none H1):zie C Ex ta D σ H:=q
theorem zgp {K:PySem.W.Frag} {C CQ:Addr} {th:TS} {D:Ends} {σ:St} {i:Nat} {H:Hp} (hx:PySem.W.exmOne K (.ref C) (.ref CQ)=some true) (q:∀ er H',H er=none->Same H H'->H' er=some (zbK er C)->th D (σ.set i (some (.ref er))) H') :
  ∃ C',Value.ref C=Value.ref C'/\PySem.W.exmOne K (.ref C') (.ref CQ)=some true/\∀ er,H er=none->th D (σ.set i (some (.ref er))) (upd H er (zbK er C')):=⟨C,rfl,hx,fun er hn=>q er _ hn (Same.new hn _) zK⟩
theorem zfV {K:PySem.W.Frag} {D:Addr} (h:PySem.W.hasDictIn K D=true):(PySem.W.clsIn K D).isSome=true:=by
 obtain ⟨cd,e,_⟩:=PySem.W.any_some h
 rw [e]; rfl
theorem zbP {K:PySem.W.Frag} {C:Addr} (x:PySem.W.excIn K C [.type "ValueError",.type "Exception",.type "BaseException",.type "object"] "ValueError.__new__" = true) (ga:PySem.W.findIn K (.ref C) "__getattribute__" = some (some (.builtin "BaseException.__getattribute__"))) (gn:PySem.W.findIn K (.ref C) "__getattr__" = some none) (be:PySem.W.mroIn K C (.type "BaseException")=some true) (hd:PySem.W.hasDictIn K C=true)
  (fa:PySem.W.findIn K (.ref C) "__class__" = some (some (.builtin "object.__class__"))) (sn:PySem.W.specialIn K (.builtin "object.__class__") "__get__" = some (some (.builtin "getset_descriptor.__get__"))) (tk:PySem.W.takesIn K (.builtin "object.__class__")=some true)
  (mo:PySem.W.mroIn K C (.type "object")=some true):errOk K C=true:=by
 unfold errOk bmV
 rw [x,ga,gn,be,zfV hd,fa,sn,tk,mo]; simp
theorem zeq {K:PySem.W.Frag} {t:Value} {D:Addr} {b:Bool} (hd:PySem.W.hasDictIn K D=true) (ht:PySem.W.typeIn K (.ref D)=some (.type "type")) (hs:PySem.W.subIn K t (.ref D)=some b):PySem.W.kitCls K t (.ref D)=some b:=by
 unfold PySem.W.kitCls
 simp only
 rw [zfV hd,ht,if_pos (by simp)]; exact hs
theorem zD {K:PySem.W.Frag} {C D:Addr} {b:Bool} (h:C ≠ D) (hd:PySem.W.hasDictIn K D=true) (ht:PySem.W.typeIn K (.ref D)=some (.type "type")) (hs:PySem.W.subIn K (.ref C) (.ref D)=some b):PySem.W.kitOne K (.ref C) (.ref D)=some b:=by
 unfold PySem.W.kitOne
 rw [if_neg (by intro z; exact h (Value.ref.inj (beq_iff_eq.mp z)))]
 exact zeq hd ht hs
theorem zbM {K:PySem.W.Frag} {C:Addr}:PySem.W.kitOne K (.ref C) (.ref C)=some true:=by
 unfold PySem.W.kitOne
 rw [if_pos (by simp)]
theorem zc1 {K:PySem.W.Frag} {C:Addr} {b:Bool} (hs:PySem.W.subIn K (.ref C) (.type "ValueError")=some b):PySem.W.kitOne K (.ref C) (.type "ValueError")=some b:=by
 unfold PySem.W.kitOne
 rw [if_neg (by intro z; cases beq_iff_eq.mp z)]
 unfold PySem.W.kitCls
 simp only
 rw [if_pos (by decide +kernel)]; exact hs
theorem zcq {K:PySem.W.Frag} {C D:Addr} {b:Bool} (hq:PySem.W.subIn K (.ref D) (.type "BaseException")=some true) (hd:PySem.W.hasDictIn K D=true) (ht:PySem.W.typeIn K (.ref D)=some (.type "type")) (hs:PySem.W.subIn K (.ref C) (.ref D)=some b):PySem.W.exmOne K (.ref C) (.ref D)=some b:=by
 unfold PySem.W.exmOne
 rw [hq,if_pos (by simp)]
 exact zeq hd ht hs
end Internal
set_option Elab.async false
set_option linter.all false
set_option maxRecDepth 100000
namespace Internal
open PySem PySem.Spec PyProof.Rows
section
variable {X:Cx}
theorem zeV:zgR X (zdg X.K):=by
 intro pins s σ H x y v u Q I rx ry h
 obtain ⟨p,xs,i,z,rfl,rfl,hq,he,q⟩:=h
 cases rx
 obtain ⟨t,rfl⟩:=ry
 obtain ⟨its,r,pl,hz⟩:=I.list hq
 obtain ⟨j,h1,h2,h3,h4,h5⟩:=zdv he
 obtain ⟨w,ew,rw'⟩:=r.get h2
 have hl:=r.length
 have hn:=line63
 have fin:EP X pins σ Q w s:=⟨z,H,I,rw',q⟩
 by_cases h0:0<=i
 ·have hj:i.toNat=j:=by
   rw [seqIndex_of h0 h5] at h1
   exact Option.some.inj h1
  exact wpAny_getItem_list pl.isList h0 (by omega) (by rw [hj]; simpa using ew) fin
 ·have hj:(i + (its.toArray.size:Int)).toNat=j:=by
   rw [seqIndex_neg (by omega) h4] at h1
   rw [List.size_toArray,<- hl]
   exact Option.some.inj h1
  exact wpAny_getItem_list_neg pl.isList (by omega) (by rw [List.size_toArray] <;> omega) (by omega) (by rw [hj]; simpa using ew) fin
end
noncomputable def Src (J:It) (P:Hp->Prop) (n:Nat) (Y:Nat->V->Hp->Prop):Prop:=
 (∀ i H,P H->i < n->J.go i H)/\(∀ H,P H->J.stop n H)/\∀ i H x H',P H->i < n->J.yld i H x H'->Same H H'/\Y i x H'
theorem zu {α:Type} {xs:List α} {i:Nat} (h:i < xs.length):∃ x,xs[i]?=some x:=⟨xs[i],by simp [h]⟩
theorem zc4 {K:PySem.W.Frag} {a:Addr} {xs:List V}:Src (Itl K a) (fun H=>SqL K H a xs) xs.length (fun i x _=>xs[i]?=some x):=
 ⟨fun i H h hi=>by obtain ⟨x,hx⟩:=zu hi; exact ⟨xs,x,h,hx⟩,fun H h=>⟨xs,h,Nat.le_refl _⟩,fun i H x H' h hi ⟨q,r⟩=>by subst q; exact ⟨Same.refl _,r xs h⟩⟩
theorem zdd {lo:Int} {n:Nat}:Src (Itr lo n) (fun _=>True) n (fun i x _=>x=.int (lo + i)):=
 ⟨fun i H e hi=>hi,fun H e=>Nat.le_refl _,fun i H x H' e hi ⟨q,r⟩=>by subst q; exact ⟨Same.refl _,r⟩⟩
theorem zcY {K:PySem.W.Frag} {a:Addr} {xs:List V}:Src (Itn K a) (fun H=>SqL K H a xs) xs.length (fun i x H=>∃ p v,x=.ref p/\xs[i]?=some v/\H p=some (.tup [.int i,v])):=
 ⟨fun i H h hi=>by obtain ⟨x,hx⟩:=zu hi; exact ⟨xs,x,h,hx⟩,fun H h=>⟨xs,h,Nat.le_refl _⟩,fun i H x H' h hi ⟨p,v,hp,q,r,z⟩=>by subst z; exact ⟨Same.new hp _,p,v,q,r xs h,zK⟩⟩
section
variable {σ:St} {H:Hp} {Q:VK} {D:Ends} {ta tb tc te to ti:TE} {t u:TS} {K:PySem.W.Frag}
theorem zfL {J:It} {P:Hp->Prop} {n:Nat} {Y:Nat->V->Hp->Prop} {g:TG} {tb:TS} (S:Src J P n Y) (Pv:Nat->St->Hp->Prop) (h0:Pv 0 σ H) (hk:∀ i σ H,Pv i σ H->P H)
  (hs:∀ i x σ H H',i < n->Pv i σ H->Same H H'->Y i x H'->g x σ H' fun σ2 H2=>tb { D with nx:=Pv (i + 1),ct:=Pv (i + 1),bk:=D.nx } σ2 H2) (hd:∀ σ H,Pv n σ H->D.nx σ H):zg7 J g tb D σ H:=by
 refine ⟨fun i m σ H=>m=n - i/\i<=n/\Pv i σ H,⟨n,by simp,Nat.zero_le _,h0⟩,?_⟩
 rintro i m σ H ⟨rfl,hi,p⟩
 by_cases hlt:i < n
 ·refine .inr ⟨S.1 i H (hk i σ H p) hlt,Pv (i + 1),fun σ' H' q=>⟨n - (i + 1),by omega,rfl,hlt,q⟩,fun x H' y=>?_⟩
  obtain ⟨e,y'⟩:=S.2.2 i H x H' (hk i σ H p) hlt y
  exact hs i x σ H H' hlt p e y'
 ·have:i=n:=by omega
  subst this
  exact .inl ⟨S.2.1 H (hk i σ H p),hd σ H p⟩
noncomputable def zdr (J:It) (caps:List (Option Nat)) (g:TG) (tf:TT) (te:TE) (σ:St) (Q:VK) (H1:Hp):Prop:=∀ D,H1 D=none ->
 ∃ W:Nat->Nat->St->Hp->Prop,(∃ m,W 0 m (zbY caps σ) (upd H1 D (.lst [])))/\∀ i m σ' H',W i m σ' H' ->
  (J.stop i H'/\Q (.ref D) H')\/(J.go i H'/\∃ N:St->Hp->Prop,(∀ σ2 H2,N σ2 H2->∃ m',m' < m/\W (i + 1) m' σ2 H2) /\
   ∀ x H2,J.yld i H' x H2->g x σ' H2 fun σ1 H3=>tf σ1 H3 fun b H4=>if b=true then te σ1 H4 fun v H5=>zbx (.ref D) [v] H5 fun _ H6=>N σ1 H6 else N σ1 H4)
theorem zln {wi:TI} {caps:List (Option Nat)} {g:TG} {tf:TT} {te:TE} (q:wi σ H fun J H1=>zdr J caps g tf te σ Q H1):zfw wi caps g tf te σ H Q:=q
theorem zmr {T:Bool->Hp->Prop} (q:T true H):zgE σ H T:=q
noncomputable def CompN (H:Hp) (Sv:St->Prop) (Pv:Nat->List V->Hp->Prop) (D:Addr) (i:Nat) (σ':St) (H':Hp):Prop:=Sv σ'/\Same H H'/\∃ vs,H' D=some (.lst vs)/\vs.length<=i/\Pv i vs H'
theorem zgv {J:It} {P:Hp->Prop} {n:Nat} {Y:Nat->V->Hp->Prop} {caps:List (Option Nat)} {g:TG} {tf:TT} {te:TE} (S:Src J P n Y) (e0:∀ H',Same H H'->P H') (Sv:St->Prop) (Pv:Nat->List V->Hp->Prop) (hc:Sv (zbY caps σ)) (h0:∀ H',Same H H'->Pv 0 [] H')
  (hs:∀ i x D vs σ' H' H2,i < n->H D=none->Sv σ'->Same H H'->H' D=some (.lst vs)->vs.length<=i->Pv i vs H'->Same H' H2->Y i x H2->g x σ' H2 fun σ1 H3=>tf σ1 H3 fun b H4=>if b=true then te σ1 H4 fun v H5=>zbx (.ref D) [v] H5 fun _ H6=>CompN H Sv Pv D (i + 1) σ1 H6 else CompN H Sv Pv D (i + 1) σ1 H4)
  (hq:∀ D H' vs,H D=none->Same H H'->H' D=some (.lst vs)->vs.length<=n->Pv n vs H'->Q (.ref D) H'):zdr J caps g tf te σ Q H:=by
 intro D hD
 refine ⟨fun i m σ' H'=>m=n - i/\i<=n/\CompN H Sv Pv D i σ' H',⟨n,by simp,Nat.zero_le _,hc,Same.new hD _,[],zK,Nat.le_refl _,h0 _ (Same.new hD _)⟩,?_⟩
 rintro i m σ' H' ⟨rfl,hi,sv,e,vs,hv,hl,p⟩
 by_cases hlt:i < n
 ·refine .inr ⟨S.1 i H' (e0 _ e) hlt,CompN H Sv Pv D (i + 1),fun σ2 H2 q=>⟨n - (i + 1),by omega,rfl,hlt,q⟩,fun x H2 y=>?_⟩
  obtain ⟨e',y'⟩:=S.2.2 i H' x H2 (e0 _ e) hlt y
  exact hs i x D vs σ' H' H2 hlt hD sv e hv hl p e' y'
 ·have:i=n:=by omega
  subst this
  exact .inl ⟨S.2.1 H' (e0 _ e),hq D H' vs hD e hv hl p⟩
theorem zbR {J:It} {P:Hp->Prop} {n:Nat} {Y:Nat->V->Hp->Prop} {caps:List (Option Nat)} {g:TG} {tf:TT} {te:TE} {rest:St} (S:Src J P n Y) (e0:∀ H',Same H H'->P H') (hc:zbY caps σ=none :: rest) (Pv:Nat->List V->Hp->Prop) (h0:∀ H',Same H H'->Pv 0 [] H')
  (hs:∀ i x D vs o H' H2,i < n->H D=none->Same H H'->H' D=some (.lst vs)->vs.length<=i->Pv i vs H'->Same H' H2->Y i x H2->g x (o :: rest) H2 fun σ1 H3=>tf σ1 H3 fun b H4=>if b=true then te σ1 H4 fun v H5=>zbx (.ref D) [v] H5 fun _ H6=>CompN H (fun σ'=>∃ o,σ'=o :: rest) Pv D (i + 1) σ1 H6 else CompN H (fun σ'=>∃ o,σ'=o :: rest) Pv D (i + 1) σ1 H4)
  (hq:∀ D H' vs,H D=none->Same H H'->H' D=some (.lst vs)->vs.length<=n->Pv n vs H'->Q (.ref D) H'):zdr J caps g tf te σ Q H:=
 zgv S e0 (fun σ'=>∃ o,σ'=o :: rest) Pv ⟨_,hc⟩ h0 (fun i x D vs σ' H' H2 a1 a2 ⟨o,a3⟩ a4 a5 a6 a7 a8 a9=>by subst a3; exact hs i x D vs o H' H2 a1 a2 a4 a5 a6 a7 a8 a9) hq
theorem zdW {J:It} {P:Hp->Prop} {n:Nat} {Y:Nat->V->Hp->Prop} {caps:List (Option Nat)} {g:TG} {tf:TT} {te:TE} {rest:St} (S:Src J P n Y) (e0:∀ H',Same H H'->P H') (hc:zbY caps σ=none :: none :: rest) (Pv:Nat->List V->Hp->Prop) (h0:∀ H',Same H H'->Pv 0 [] H')
  (hs:∀ i x D vs o o' H' H2,i < n->H D=none->Same H H'->H' D=some (.lst vs)->vs.length<=i->Pv i vs H'->Same H' H2->Y i x H2->g x (o :: o' :: rest) H2 fun σ1 H3=>tf σ1 H3 fun b H4=>if b=true then te σ1 H4 fun v H5=>zbx (.ref D) [v] H5 fun _ H6=>CompN H (fun σ'=>∃ o o',σ'=o :: o' :: rest) Pv D (i + 1) σ1 H6 else CompN H (fun σ'=>∃ o o',σ'=o :: o' :: rest) Pv D (i + 1) σ1 H4)
  (hq:∀ D H' vs,H D=none->Same H H'->H' D=some (.lst vs)->vs.length<=n->Pv n vs H'->Q (.ref D) H'):zdr J caps g tf te σ Q H:=
 zgv S e0 (fun σ'=>∃ o o',σ'=o :: o' :: rest) Pv ⟨_,_,hc⟩ h0 (fun i x D vs σ' H' H2 a1 a2 ⟨o,o',a3⟩ a4 a5 a6 a7 a8 a9=>by subst a3; exact hs i x D vs o o' H' H2 a1 a2 a4 a5 a6 a7 a8 a9) hq
theorem zjO {R:It->Hp->Prop} {a:Addr} {xs:List V} (h:SqL K H a xs) (q:R (Itn K a) H):zg0 K R [.ref a] H:=⟨a,rfl,⟨xs,h⟩,q⟩
theorem zlj {a:Addr} {xs:List V} {n:Nat} {t:TGs} {R:St->Hp->Prop} (h:H a=some (.tup xs)) (hn:xs.length=n) (q:t xs σ H R):zd2 K n t (.ref a) σ H R:=⟨a,xs,rfl,SqT.of h,hn,q⟩
theorem zkr {v:V} {r:List V} {t:TG} {u:TGs} {R:St->Hp->Prop} (q:t v σ H fun σ' H'=>u r σ' H' R):zjz t u (v :: r) σ H R:=⟨v,r,rfl,q⟩
theorem zlv {R:St->Hp->Prop} (q:R σ H):zlr [] σ H R:=⟨rfl,q⟩
theorem zmI {f:Int->Int->Int} {i j:Int} (q:Q (.int (f i j)) H):ipI f (.int i) (.int j) H Q:=⟨i,j,rfl,rfl,q⟩
theorem zkS {tget:V->V->Hp->VK->Prop} {tip:TIp} {tset:zeS} (q:to σ H fun o H1=>ti σ H1 fun i H2=>tget o i H2 fun x H3=>te σ H3 fun y H4=>tip x y H4 fun z H5=>tset o i z H5 fun H6=>D.nx σ H6):zjk to ti te tget tip tset D σ H:=q
theorem zhp {a:Addr} {xs:List V} {i:Int} {v:V} (h:SqL K H a xs) (e:atI xs i=some v) (q:Q v H):zdg K (.ref a) (.int i) H Q:=⟨a,xs,i,v,rfl,rfl,h,e,q⟩
theorem zlI {l:Addr} {x:V} {k:Int} (h:H l=some (.lst [x])) (h0:0<=k) (h1:k<=100000) (q:∀ p H',H p=none->Same H H'->H' p=some (.lst (List.replicate k.toNat x))->Q (.ref p) H'):zds (.ref l) (.int k) H Q:=
 .inr ⟨l,k,[x],rfl,rfl,h,by omega,by omega,by have:=zbQ (n:=k.toNat) (by omega); simpa using this,fun p hp=>by
  have e:(List.replicate k.toNat [x]).flatten=List.replicate k.toNat x:=by
   generalize k.toNat=n
   induction n with
   | zero=>rfl
   | succ n ih=>rw [List.replicate_succ,List.flatten_cons,ih,List.replicate_succ]; rfl
  rw [e]
  exact q p _ hp (Same.new hp _) zK⟩
theorem zhT {l b:Addr} {xs zs:List V} (h:H l=some (.lst xs)) (h':H b=some (.lst zs)) (hz:xs.length + zs.length<=100000) (q:∀ p H',H p=none->Same H H'->H' p=some (.lst (xs ++ zs))->Q (.ref p) H'):zE K (.ref l) (.ref b) H Q:=
 .inr (.inl ⟨l,b,xs,zs,rfl,rfl,h,h',zbQ hz,fun p hp=>q p _ hp (Same.new hp _) zK⟩)
end
theorem zkU {p:Prop} [Decidable p] {A B:Prop} (h:p) (a:A):if decide p=true then A else B:=by rw [decide_eq_true h]; exact zeg a
theorem zkC {p:Prop} [Decidable p] {A B:Prop} (h:¬ p) (b:B):if decide p=true then A else B:=by rw [decide_eq_false h]; exact zec b
theorem zkq {p:Prop} [Decidable p] {A B:Prop} (h:p) (b:B):if (!decide p)=true then A else B:=by rw [decide_eq_true h]; exact zec b
theorem zjY {p:Prop} [Decidable p] {A B:Prop} (h:¬ p) (a:A):if (!decide p)=true then A else B:=by rw [decide_eq_false h]; exact zeg a
section
variable {α:Type} {f:α->List V}
noncomputable def IsTs (f:α->List V) (H:Hp):List V->List α->Prop
 | [],[]=>True
 | v :: vs,x :: xs=>(∃ a,v=.ref a/\H a=some (.tup (f x)))/\IsTs f H vs xs
 | _,_=>False
noncomputable def zi4 (H H':Hp):Prop:=∀ a xs,H a=some (.tup xs)->H' a=some (.tup xs)
theorem Same.tups {H H':Hp} (e:Same H H'):zi4 H H':=fun a xs h=>e a _ h
theorem LBut.tups {l:Addr} {H H':Hp} (e:LBut l H H'):zi4 H H':=fun a xs h=>e.tup h
theorem IsTs.keep {H H':Hp} (e:zi4 H H'):∀ {vs:List V} {xs:List α},IsTs f H vs xs->IsTs f H' vs xs
 | [],[],_=>trivial
 | _ :: _,_ :: _,⟨⟨a,q,h⟩,r⟩=>⟨⟨a,q,e a _ h⟩,r.keep e⟩
theorem IsTs.same {H H':Hp} {vs:List V} {xs:List α} (h:IsTs f H vs xs) (e:Same H H'):IsTs f H' vs xs:=h.keep e.tups
theorem LBut.isTs {l:Addr} {H H':Hp} {vs:List V} {xs:List α} (e:LBut l H H') (h:IsTs f H vs xs):IsTs f H' vs xs:=h.keep e.tups
theorem IsTs.length {H:Hp}:∀ {vs:List V} {xs:List α},IsTs f H vs xs->vs.length=xs.length
 | [],[],_=>rfl
 | _ :: _,_ :: _,⟨_,r⟩=>by rw [List.length_cons,List.length_cons,r.length]
theorem IsTs.app {H:Hp} {a:Addr} {x:α} (h:H a=some (.tup (f x))):∀ {vs:List V} {xs:List α},IsTs f H vs xs->IsTs f H (vs ++ [.ref a]) (xs ++ [x])
 | [],[],_=>⟨⟨a,rfl,h⟩,trivial⟩
 | _ :: _,_ :: _,⟨q,r⟩=>⟨q,r.app h⟩
theorem IsTs.get {H:Hp}:∀ {vs:List V} {xs:List α} {i:Nat} {v:V},IsTs f H vs xs->vs[i]?=some v->∃ a x,v=.ref a/\xs[i]?=some x/\H a=some (.tup (f x))
 | _ :: _,x :: _,0,_,⟨⟨a,q,h⟩,_⟩,e=>by cases e; exact ⟨a,x,q,rfl,h⟩
 | _ :: _,_ :: _,i + 1,_,⟨_,r⟩,e=>by obtain ⟨a,x,q,e',h⟩:=r.get (i:=i) e; exact ⟨a,x,q,e',h⟩
theorem IsTs.getI {H:Hp} {vs:List V} {xs:List α} {i:Nat} {x:α} (h:IsTs f H vs xs) (e:xs[i]?=some x):∃ a,vs[i]?=some (.ref a)/\H a=some (.tup (f x)):=by
 have hi:i < vs.length:=by rw [h.length]; exact (List.getElem?_eq_some_iff.mp e).1
 obtain ⟨v,hv⟩:=zu hi
 obtain ⟨a,y,q,e',h'⟩:=h.get hv
 rw [e] at e'; cases e'
 exact ⟨a,by rw [hv,q],h'⟩
theorem IsTs.rep {K:PySem.W.Frag} {H:Hp} {d:α->List PyData} (hd:∀ x,RepAll K H (f x) (d x)):∀ {vs:List V} {xs:List α},IsTs f H vs xs->RepAll K H vs (xs.map fun x=>.tuple (d x))
 | [],[],_=>.nil
 | _ :: _,_ :: _,⟨⟨a,q,h⟩,r⟩=>by subst q; exact .cons (.tup (.of h) (hd _)) (r.rep hd)
end
noncomputable def vec (n:Nat) (f:Nat->Int):List Int:=(List.range n).map f
theorem zbU {n:Nat} {f:Nat->Int}:(vec n f).length=n:=by simp [vec]
theorem zcM {n i:Nat} {f:Nat->Int} (h:i < n):(vec n f)[i]?=some (f i):=by simp [vec,h]
theorem zbq {n:Nat} {f g:Nat->Int} (h:∀ i,i < n->f i=g i):vec n f=vec n g:=by
 unfold vec; exact List.map_congr_left fun i hi=>h i (List.mem_range.mp hi)
theorem zj5 {n j:Nat} {f:Nat->Int} {v:Int}:(vec n f).set j v=vec n (fun i=>if i=j then v else f i):=by
 refine List.ext_getElem? fun i=>?_
 rw [List.getElem?_set]
 by_cases hi:i < n
 ·rw [zcM hi,zcM hi,zbU]
  by_cases e:j=i
  ·subst e; simp [hi]
  ·rw [if_neg e,if_neg (Ne.symm e)]
 ·have h1:(vec n f)[i]?=none:=by rw [List.getElem?_eq_none_iff,zbU]; omega
  have h2:∀ g,(vec n g)[i]?=none:=fun g=>by rw [List.getElem?_eq_none_iff,zbU]; omega
  rw [h1,h2,zbU]
  by_cases e:j=i
  ·subst e; simp [hi]
  ·rw [if_neg e]
theorem zi7 {n:Nat} {f:Nat->Int}:vec (n + 1) f=vec n f ++ [f n]:=by unfold vec; rw [List.range_succ,List.map_append]; rfl
theorem zkg {n:Nat} {c:Int}:List.replicate n (V.int c)=(vec n fun _=>c).map V.int:=by
 refine List.ext_getElem? fun i=>?_
 rw [List.getElem?_replicate,List.getElem?_map]
 by_cases hi:i < n
 ·rw [zcM hi,if_pos hi]; rfl
 ·have h2:(vec n fun _=>c)[i]?=none:=by rw [List.getElem?_eq_none_iff,zbU]; omega
  rw [h2,if_neg hi]; rfl
theorem zjW {ns:List Int} {k:Int} {v:Int} (h0:0<=k) (h:ns[k.toNat]?=some v):atI (ns.map V.int) k=some (.int v):=zbE h0 (by rw [List.getElem?_map,h]; rfl)
theorem zhE {n:Nat} {f:Nat->Int} {k:Int} (h0:0<=k) (h:k < n):atI ((vec n f).map V.int) k=some (.int (f k.toNat)):=zjW h0 (zcM (by omega))
theorem zjj {ns:List Int} {j:Nat} {v:Int}:(ns.map V.int).set j (.int v)=(ns.set j v).map V.int:=by rw [List.map_set]
theorem zkA {n j:Nat} {f:Nat->Int} {v:Int}:((vec n f).map V.int).set j (.int v)=(vec n (fun i=>if i=j then v else f i)).map V.int:=by rw [zjj,zj5]
theorem zke {n:Nat} {f:Nat->Int} {k:Int} (h0:0<=k) (h:k < n):ixN ((vec n f).map V.int).length k=some k.toNat:=by
 rw [List.length_map,zbU]; exact zfF h0 h
theorem zcu {K:PySem.W.Frag} {H:Hp}:∀ ns:List Int,RepAll K H (ns.map V.int) (ns.map PyData.int)
 | []=>.nil
 | n :: ns=>.cons (.int n) (zcu ns)
theorem zck:∀ ns:List Int,PyData.depthAll (ns.map PyData.int)=0
 | []=>by simp [PyData.depthAll]
 | n :: ns=>by rw [List.map_cons,PyData.depthAll,zck ns]; simp [PyData.depth]
theorem zfZ:∀ ns:List Int,PyData.canLayAll0 (ns.map PyData.int)=true
 | []=>by simp [PyData.canLayAll0]
 | n :: ns=>by rw [List.map_cons,PyData.canLayAll0,zfZ ns]; simp [PyData.canLay0]
theorem zcl {ds:List PyData}:(PyData.list ds).depth=PyData.depthAll ds + 1:=by simp [PyData.depth]; try omega
section
variable {H:Hp} {Q:VK} {K:PySem.W.Frag}
theorem zhU {ns ms:List Int} (h:ns=ms):PyData.eqv (.list (ns.map PyData.int)) (.list (ms.map PyData.int))=true:=by
 subst h; exact PySem.SeqAt.eqv_refl _ (by rw [PyData.canLay0]; exact zfZ ns)
theorem ziW {a b:Addr} {ns ms:List Int} (h1:SqL K H a (ns.map V.int)) (h2:SqL K H b (ms.map V.int)) (e:ns=ms) (q:Q (.bl true) H):zC K (.ref a) (.ref b) H Q:=
 zfv (.lst h1 (zcu ns)) (.lst h2 (zcu ms)) (by rw [zcl,zck]; omega) (by rw [zhU e]; exact q)
end
end Internal
set_option Elab.async false
set_option linter.all false
set_option maxRecDepth 100000
namespace Internal
open PySem PySem.Spec PyProof.Rows
section
variable {σ:St} {H:Hp} {Q:VK} {D:Ends} {K:PySem.W.Frag}
theorem zix {l:Addr} {n:Nat} {f:Nat->Int} {k:Int} (h:H l=some (.lst ((vec n f).map V.int))) (h0:0<=k) (h1:k < n) (q:Q (.int (f k.toNat)) H):zdg K (.ref l) (.int k) H Q:=zhp (.of h) (zhE h0 h1) q
theorem zgk {l:Addr} {n:Nat} {f:Nat->Int} {k:Int} (h:H l=some (.lst ((vec n f).map V.int))) (h0:0<=k) (h1:k < n) (q:Q (.int (f k.toNat)) H):rIx K (.ref l) (.int k) H Q:=zek h (zhE h0 h1) q
theorem ziD {l:Addr} {n:Nat} {f:Nat->Int} {k v:Int} {R:Hp->Prop} (h:H l=some (.lst ((vec n f).map V.int))) (h0:0<=k) (h1:k < n)
  (q:∀ H',LBut l H H'->H' l=some (.lst ((vec n fun i=>if i=k.toNat then v else f i).map V.int))->R H'):zcy (.ref l) (.int k) (.int v) H R:=by
 refine zcw h (zke h0 h1) fun H' b e=>q H' b ?_
 rw [e,zkA]
theorem zh5 {a:Addr} {xs:List V} {i:Int} {v:V} (h:H a=some (.tup xs)) (e:atI xs i=some v) (q:Q v H):rIx K (.ref a) (.int i) H Q:=zms (.of h) e q
theorem ziL {l:Addr} {c k:Int} (h:H l=some (.lst [.int c])) (h0:0<=k) (h1:k<=100000) (q:∀ p H',H p=none->Same H H'->H' p=some (.lst ((vec k.toNat fun _=>c).map V.int))->Q (.ref p) H'):zds (.ref l) (.int k) H Q:=
 zlI h h0 h1 fun p H' a b c=>q p H' a b (by rw [c,zkg])
theorem CompN.int {Sv:St->Prop} {D:Addr} {i:Nat} {σ':St} {H6:Hp} {f:Nat->Int} {v:Int} (sv:Sv σ') (e:Same H H6) (h:H6 D=some (.lst ((vec i f).map V.int ++ [.int v]))) (hv:v=f i):CompN H Sv (fun i vs _=>vs=(vec i f).map V.int) D (i + 1) σ' H6:=
 ⟨sv,e,_,h,by simp [zbU],by show _ ++ [V.int v]=List.map V.int (vec (i + 1) f); rw [hv,zi7,List.map_append]; rfl⟩
end
theorem zkv {H:Hp} {Q:VK} {σ:St} {lo:Int} {n:Nat} {caps:List (Option Nat)} {c:Int} {rest:St} (hc:zbY caps σ=none :: rest) (hn:n<=100000) (q:∀ p H',H p=none->Same H H'->H' p=some (.lst ((vec n fun _=>c).map V.int))->Q (.ref p) H'):zdr (Itr lo n) caps (zc3 0) zgE (tC (.int c)) σ Q H:=by
 refine zbR zdd (fun _ _=>trivial) hc (fun i vs _=>vs=(vec i fun _=>c).map V.int) (fun _ _=>rfl) ?_ ?_
 ·rintro i x D vs o H' H2 hi hD e hv hvl rfl e2 rfl
  refine zjL (zmr (zeg (x_c (za6 (e2.at hv) (by omega) fun H6 b h6=>?_))))
  exact CompN.int ⟨_,rfl⟩ (b.same (e.trans e2) hD) h6 rfl
 ·rintro D H' vs hD e hv hvl rfl
  exact q D H' hD e hv
set_option genInjectivity false in
set_option genSizeOf false in
structure Due where
 p:Int
 q:Int
 r:Int
 a:Int
noncomputable def zcC (d:Due):List V:=[.int d.p,.int d.q,.int d.r,.int d.a]
noncomputable def zeL (d:Due):List PyData:=[.int d.p,.int d.q,.int d.r,.int d.a]
noncomputable def IsSh (K:PySem.W.Frag) (H:Hp) (a:Addr) (ds:List Due):Prop:=∃ vs,SqL K H a vs/\IsTs zcC H vs ds
theorem IsSh.same {K:PySem.W.Frag} {H H':Hp} {a:Addr} {ds:List Due} (h:IsSh K H a ds) (e:Same H H'):IsSh K H' a ds:=by
 obtain ⟨vs,h1,h2⟩:=h; exact ⟨vs,e.seq h1,h2.same e⟩
theorem Same.isSh {K:PySem.W.Frag} {H H':Hp} {a:Addr} {ds:List Due} (e:Same H H') (h:IsSh K H a ds):IsSh K H' a ds:=h.same e
theorem IsSh.of {K:PySem.W.Frag} {H:Hp} {a:Addr} {vs:List V} {ds:List Due} (h:H a=some (.lst vs)) (t:IsTs zcC H vs ds):IsSh K H a ds:=⟨vs,.of h,t⟩
theorem zfA {K:PySem.W.Frag} {H:Hp} {vs:List V} {ds:List Due} (h:IsTs zcC H vs ds):RepAll K H vs (ds.map fun d=>.tuple (zeL d)):=
 h.rep fun d=>.cons (.int _) (.cons (.int _) (.cons (.int _) (.cons (.int _) .nil)))
theorem zho (d:Due):(PyData.tuple (zeL d)).depth=1:=by simp [zeL,PyData.depth,PyData.depthAll]
theorem zew:∀ ds:List Due,PyData.depthAll (ds.map fun d=>.tuple (zeL d))<=1
 | []=>by simp [PyData.depthAll]
 | d :: ds=>by
  have:=zew ds
  rw [List.map_cons,PyData.depthAll,zho]
  omega
theorem zf3:∀ ds:List Due,PyData.canLayAll0 (ds.map fun d=>.tuple (zeL d))=true
 | []=>by simp [PyData.canLayAll0]
 | d :: ds=>by rw [List.map_cons,PyData.canLayAll0,zf3 ds]; simp [zeL,PyData.canLay0,PyData.canLayAll0]
theorem zk0 {K:PySem.W.Frag} {H:Hp} {Q:VK} {a b:Addr} {ds es:List Due} (h1:IsSh K H a ds) (h2:IsSh K H b es) (e:ds=es) (q:Q (.bl true) H):zC K (.ref a) (.ref b) H Q:=by
 subst e
 obtain ⟨vs,s1,t1⟩:=h1
 obtain ⟨ws,s2,t2⟩:=h2
 refine zfv (.lst s1 (zfA t1)) (.lst s2 (zfA t2)) (by have:=zew ds; rw [zcl]; omega) ?_
 rw [PySem.SeqAt.eqv_refl _ (by rw [PyData.canLay0]; exact zf3 ds)]
 exact q
theorem zaw {α:Type} {xs:List α} {i:Nat} {x:α} (h:xs[i]?=some x):xs.take (i + 1)=xs.take i ++ [x]:=by
 obtain ⟨hi,rfl⟩:=List.getElem?_eq_some_iff.mp h
 exact List.take_succ_eq_append_getElem hi
section
variable {K:PySem.W.Frag} {H:Hp} {Q:VK} {E:XK} {n:Int} {a:Addr} {ds:List Due}
end
end Internal
set_option Elab.async false
set_option linter.all false
set_option maxRecDepth 100000
namespace Internal
open PySem PySem.Spec PyProof.Rows
noncomputable def Rows (H:Hp) (as:List Addr) (k:Nat) (F:Nat->Nat->Int):Prop:=as.Nodup/\∀ i a,as[i]?=some a->H a=some (.lst ((vec k (F i)).map V.int))
section
variable {H H':Hp} {as bs:List Addr} {k:Nat} {F G:Nat->Nat->Int} {K:PySem.W.Frag} {Q:VK}
theorem zhF {i j:Nat} {a:Addr} (n:as.Nodup) (h:as[i]?=some a) (h':as[j]?=some a):i=j:=by
 obtain ⟨hi,e⟩:=List.getElem?_eq_some_iff.mp h
 obtain ⟨hj,e'⟩:=List.getElem?_eq_some_iff.mp h'
 exact (List.getElem_inj n).mp (e.trans e'.symm)
theorem zkd {l a:Addr} {p:Int} (h:H l=some (.lst (as.map V.ref))) (h0:0<=p) (e:as[p.toNat]?=some a) (q:Q (.ref a) H):rIx K (.ref l) (.int p) H Q:=zek h (zbE h0 (by rw [List.getElem?_map,e]; rfl)) q
end
end Internal
set_option linter.all false
namespace My
section
variable (ch:Nat->Bool) (x:Nat->Int) (L:Int)
noncomputable def rest:Nat->Int
 | 0=>L
 | i + 1=>if ch i=true/\rest i > 0 then rest i - 1 else rest i
noncomputable def more (i:Nat):Int:=if ch i=true/\rest ch L i > 0 then x i + 1 else x i
variable {ch x L}
end
end My
set_option Elab.async false
set_option linter.all false
set_option maxRecDepth 100000
namespace Internal
open PySem PySem.Spec PyProof.Rows
noncomputable def big:Int:=1000000000000000000000000000000000000000000000000000000000000
end Internal
set_option Elab.async false
set_option linter.all false
set_option maxRecDepth 100000
namespace Internal
open PySem PySem.Spec PyProof.Rows
theorem zbj {P:Program} {w:World} {K:PySem.W.Frag} {mg:Str->Option Value} {base:Heap} {N:List Str} {qual:Str} {scope:Scope} {f:Addr} {cd:Value} {A:Around} {outer:List Env} {s:Shared} {H:Hp} {E:XK} :
  zcf (CXF P w) (zaB (CXF P w) P w K mg base N qual scope f cd A outer s H E) E:=by
 intro pins σ H1 s1 e s2 I hx
 obtain ⟨er,C,t,B,H',rfl,F,ex⟩:=hx
 have fr:=I.stack
 have nfr:∀ b o,s.heap.get? b=some o->b ∉ frs outer->b ∉ frs (envOfC qual scope s.heap.objs.size f cd :: outer):=fun b o q n z=>by
  rcases List.mem_cons.mp (show b ∈ s.heap.objs.size :: frs outer from z) with z | z
  ·exact Nat.ne_of_lt (Heap.lt_size q) z
  ·exact n z
 have sub:∀ b ∈ frs outer,b ∈ frs (envOfC qual scope s.heap.objs.size f cd :: outer):=fun b hb=>List.mem_cons_of_mem _ hb
 show wpAny (model P w) (A.deeper (envOfC qual scope s.heap.objs.size f cd)) (leaving (envOfC qual scope s.heap.objs.size f cd) (.ref er)) _ _ _
 refine wpAny_mono (DK.any (E:=fun _ _=>False) (Q:=fun _ s''=>Bare er s''->CXF P w outer H s E (.ref er) s'') (zef _ _) F.nod ?_) (fun _ s'' q=>q.1 q.2) fun _ _ q=>q.1.elim
 refine wpAny_leaves_onW (L:=s.heap.objs.size) I.ok.frames rfl F.fly fun h'' fly up b1=>?_
 have u2:=F.unAt fr fly.1 up
 refine ⟨er,C,t,B,H',rfl,⟨F.os.trans I.os,F.bare,⟨fun b o q n hb _=>?_,fun b o q n hb _=>?_,fun b o q n _=>?_,fun b o q _=>?_,fun b xs q=>u2.tups b xs (I.base.tups b xs q),fun b o xs q=>u2.frzs b o xs (I.base.frzs b o xs q),fun b ps q=>?_⟩,F.hokAt fly.1,fly,fun b o q n hb=>?_,fun b o q hb=>?_,fun b o u q e=>?_,b1⟩,ex⟩
 ·exact u2.keep b o (I.base.keep b o q n hb (by simp [zaB])) (I.base.free b o q n (by simp [zaB])) (nfr b o q hb) (by simp)
 ·obtain ⟨sl,e1⟩:=I.base.slot b o q n hb (by simp [zaB])
  obtain ⟨sl',e2⟩:=u2.slot b _ e1 (I.base.free b o q n (by simp [zaB])) (sub b hb) (by simp)
  exact ⟨sl',e2⟩
 ·obtain ⟨o1,e1⟩:=I.base.there b o q (by simp [zaB])
  exact u2.free b o1 e1 (I.base.free b o q n (by simp [zaB])) (by simp)
 ·obtain ⟨o1,e1⟩:=I.base.there b o q (by simp [zaB])
  exact u2.there b o1 e1 (by simp)
 ·obtain ⟨m1,e1⟩:=I.base.tbls b ps q
  obtain ⟨m2,e2⟩:=u2.tbls b _ e1
  exact ⟨m1 ++ m2,by rw [e2,Array.append_assoc]⟩
 ·exact F.old b o (I.base.keep b o q n hb (by simp [zaB])) (I.base.free b o q n (by simp [zaB])) (nfr b o q hb)
 ·obtain ⟨o1,e1⟩:=I.base.there b o q (by simp [zaB])
  exact F.has b o1 e1 (nfr b o q hb)
 ·obtain ⟨u1,e1⟩:=(F.hok b o q).obj
  have z:=F.trk b o u1 q e1
  have z2:=fly.1 b u1 z
  have e':h''.get? b=some u:=e
  rw [z2] at e'; cases e'
  exact z
noncomputable def zed (X:Cx) (pins:List (Addr × Obj)) (Eh:Addr->St->Hp->Prop):Value->Shared->Prop:=fun e s'=>∃ σ' H1 s1 er C t B H',Inv X pins σ' H1 s1/\e=.ref er/\Fly X.prog X.w X.stack H1 s1 H' er C t B s'/\Eh C σ' H'
noncomputable abbrev TEr:=St->Hp->VK->(Addr->Hp->Prop)->Prop
noncomputable abbrev TTr:=Ends->(Addr->St->Hp->Prop)->St->Hp->Prop
noncomputable def PEr (X:Cx) (e:Expr) (t:TEr):Prop:=∀ (pins:List (Addr × Obj)) (s:Shared) (σ:St) (H:Hp) (Q:VK) (Eh:Addr->Hp->Prop),Inv X pins σ H s->t σ H Q Eh->wpAny (model X.prog X.w) X.A (eval e X.env) (EP X pins σ Q) (zed X pins fun C σ' H'=>σ'=σ/\Eh C H') s
noncomputable def PTr (X:Cx) (st:Stmt) (t:TTr):Prop:=∀ (pins:List (Addr × Obj)) (s:Shared) (σ:St) (H:Hp) (D:Ends) (Eh:Addr->St->Hp->Prop),Inv X pins σ H s->t D Eh σ H->wpAny (model X.prog X.w) X.A (exec st X.env) (SP X pins D) (zed X pins Eh) s
noncomputable def zlp (X:Cx) (ss:List Stmt) (t:TTr):Prop:=∀ (pins:List (Addr × Obj)) (s:Shared) (σ:St) (H:Hp) (D:Ends) (Eh:Addr->St->Hp->Prop),Inv X pins σ H s->t D Eh σ H->wpAny (model X.prog X.w) X.A (execs ss X.env) (SP X pins D) (zed X pins Eh) s
section
variable {X:Cx} {pos:Pos}
noncomputable def zhB (sp:Sp) (ta:TA):TEr:=fun σ H Q Eh=>ta σ H fun vs H1=>sp vs H1 Q fun cls _ H2=>∃ C,cls=.ref C/\Eh C H2
theorem zji {k:Nat} {f:Addr} {fd:FuncData} {ps:List Str} {sp:Sp} {x:Str} {p cp:Pos} {e:Expr} {es:List Expr} {ta:TA} (F:FnOk X.prog X.w X.K X.mg X.base (CXF X.prog X.w) k f fd ps sp) (hr:Room k X.A) (hgf:Gl X x) (hmf:X.mg x=some (.ref f)) (hk:PySem.W.keepIn X.K (.ref f)=true) (hb:Binds X.K fd ps [])
  (ha:PA X.nox (e :: es) ta) (hdf:autoParam ((x == ("__debug__" : Str))=false) Internal.aut1._auto_1) (he:autoParam (starEach (e :: es) X.env=(false,eval e X.env) :: starEach es X.env) Internal.aut2._auto_1) (hpl:autoParam ((backTo cp (starEach es X.env)).any (·.1)=false) Internal.aut2._auto_1):PEr X (.Call (.Name x p) (e :: es) [] cp) (zhB sp ta):=by
 intro pins s σ H Q Eh I h
 refine wpAny_Call_Name_kw (zb7 I hgf hmf ?_ hdf)
 refine PySem.W.callWith_K (h₀:=X.base) I.ok.mod.kin hk (wpAny_mono (ha cp pins s σ H _ (I.wish _) h) (fun us s1 q=>?_) fun _ _ z=>z.elim) he hpl
 obtain ⟨vs,H1,J1,r,q⟩:=q
 have I1:=J1.unwish
 refine ⟨I1.kIn,?_⟩
 have hlen:us.length=ps.length:=by rw [<- r.length]; exact F.len _ _ _ _ q
 have hbd:=hb s1 us I1.kIn (by rw [List.append_nil]; exact hlen)
 rw [List.append_nil] at hbd
 refine wpAny_call (codeAny_mono (F.run X.A X.stack s1 H1 ⟨us,[]⟩ us vs _ _ hr I1.env0 hbd r q) fun res s' hq=>?_)
 cases res with
 | error er0=>
  obtain ⟨er,C,t,B,H2,rfl,fl,C',ec,hh⟩:=hq
  cases ec
  exact ⟨σ,H1,s1,er,C,t,B,H2,I1,rfl,fl,rfl,hh⟩
 | ok fw=>
  cases fw with
  | ret u=>exact I1.after hq
  | next=>exact hq.elim
  | brk=>exact hq.elim
  | cont=>exact hq.elim
noncomputable abbrev zmU (te:TEr):TTr:=fun D Eh σ H=>te σ H (fun _ H2=>D.nx σ H2) fun C H2=>Eh C σ H2
noncomputable abbrev zm0 (c:TT) (t u:TTr):TTr:=fun D Eh σ H=>c σ H fun b H1=>if b=true then t D Eh σ H1 else u D Eh σ H1
noncomputable abbrev zmW:TTr:=fun D _ σ H=>D.nx σ H
theorem ziX {st:Stmt} {t:TTr} (h:PTr X st t):zlp X [st] t:=by
 intro pins s σ H D Eh I q
 refine wpAny_execs_cons (wpAny_mono (h pins s σ H D Eh I q) (fun f s1 z=>?_) fun _ _ z=>z)
 cases f with
 | next=>exact wpAny_execs_nil z
 | _=>exact z
noncomputable def zgY (K:PySem.W.Frag) (CQ:Addr) (i:Nat) (tb:TTr) (th:TS):TS:=fun D σ H=>tb D (fun C σ' H2=>∃ C',Value.ref C=.ref C'/\PySem.W.exmOne K (.ref C') (.ref CQ)=some true/\∀ er,H2 er=none->th (D.gone i) (σ'.set i (some (.ref er))) (upd H2 er (zbK er C'))) σ H
theorem zkj {CQ:Addr} {qn n:Str} {qp hp:Pos} {body:List Stmt} {tb:TTr} {b0:Stmt} {suite:List Stmt} {i:Nat} {th:TS} (hst:X.stack=X.env :: X.outer/\X.env.frame=some X.env.locals) (hbd:zlp X body tb)
  (hg:Gl X qn) (hm:X.mg qn=some (.ref CQ)) (hN:X.N.Nodup) (hi:X.N[i]?=some n) (hl:X.env.kindOf n=some .local) (hth:∀ er,PSs (X.inH er) (b0 :: suite) th) (hdb:autoParam ((qn == ("__debug__" : Str))=false) Internal.aut1._auto_1) :
  PS X (.Try body [.ExceptHandler (some (.Name qn qp)) (some n) (b0 :: suite) hp] [] [] pos) (zgY X.K CQ i tb th):=by
 intro pins s σ H D I h
 refine wpAny_Try_except (wpAny_mono (hbd pins s σ H D _ I h) (fun f s1 z=>?_) fun e s1 z=>?_)
 ·cases f with
  | next=>exact wpAny_execs_nil z
  | _=>exact z
 ·obtain ⟨σ',H1,s2,er,C,t,B,H',I',rfl,fl,C',ec,hx,hh⟩:=z
  cases ec
  exact taken hst I' fl hg hm hx hN hi hl (hth er) (hh er fl.noTrk) hdb
end
section
variable {σ:St} {H:Hp} {Q:VK} {D:Ends} {K:PySem.W.Frag} {Eh:Addr->Hp->Prop} {Eg:Addr->St->Hp->Prop}
theorem zlQ {CQ:Addr} {i:Nat} {tb:TTr} {th:TS} (q:tb D (fun C σ' H2=>∃ C',Value.ref C=.ref C'/\PySem.W.exmOne K (.ref C') (.ref CQ)=some true/\∀ er,H2 er=none->th (D.gone i) (σ'.set i (some (.ref er))) (upd H2 er (zbK er C'))) σ H):zgY K CQ i tb th D σ H:=q
theorem zj1 {sp:Sp} {ta:TA} (q:ta σ H fun vs H1=>sp vs H1 Q fun cls _ H2=>∃ C,cls=.ref C/\Eh C H2):zhB sp ta σ H Q Eh:=q
end
end Internal
set_option Elab.async false
set_option linter.all false
set_option maxRecDepth 100000
namespace Internal
open PySem PySem.Spec PyProof.Rows
end Internal
set_option Elab.async false
set_option linter.all false
set_option maxRecDepth 100000
namespace Internal
open PySem PySem.Spec PyProof.Rows
section
variable {X:Cx}
theorem ze4:∀ ns:List Int,(ns.map V.int).all zcm=true
 | []=>rfl
 | n :: ns=>by rw [List.map_cons,List.all_cons,ze4 ns]; rfl
end
section
variable {H:Hp} {Q:VK} {K:PySem.W.Frag}
theorem zeK {i:Int}:∀ ns:List Int,inV (.int i) (ns.map V.int)=decide (i ∈ ns)
 | []=>by simp [inV]
 | n :: ns=>by
  have ih:=zeK (i:=i) ns
  unfold inV at ih ⊢
  rw [List.map_cons,List.any_cons,ih]
  show ((n == i) || _)=_
  by_cases h:n=i
  ·subst h; simp
  ·have:¬ i=n:=fun z=>h z.symm
   simp [h,this]
theorem zlz {a:Addr} {ns:List Int} {i:Int} (h:SqL K H a (ns.map V.int)) (q:Q (.bl (decide (i ∈ ns))) H):rIn K false (.int i) (.ref a) H Q:=
 ⟨a,_,rfl,.inl h,rfl,ze4 ns,by rw [if_neg Bool.false_ne_true,zeK]; exact q⟩
end
noncomputable def useful (g:Nat->Bool) (m:Nat) (d:Due):Prop:=d.p=(m:Int)/\0 < d.a/\g d.p.toNat=true/\g d.q.toNat=true
noncomputable instance {g:Nat->Bool} {m:Nat} {d:Due}:Decidable (useful g m d):=by unfold useful; infer_instance
set_option genInjectivity false in
set_option genSizeOf false in
structure Lined (n:Nat) (ds:List Due) (ls:List Int):Prop where
 nd:ls.Nodup
 lt:∀ x ∈ ls,0<=x/\x < n
 up:∀ d ∈ ds,0 < d.a->∀ j:Nat,ls[j]?=some d.q->∃ i:Nat,i < j/\ls[i]?=some d.p
end Internal
set_option Elab.async false
set_option linter.all false
set_option maxRecDepth 100000
namespace Internal
open PySem PySem.Spec PyProof.Rows
section
variable {K:PySem.W.Frag} {σ:St} {H:Hp} {Q:VK} {D:Ends} {a C dx:Addr} {fs:List (Str × V)} {f m:Str}
noncomputable def zir (K:PySem.W.Frag) (f:Str) (Q:VK) (x:V) (H:Hp):Prop:=∃ a C dx fs v,x=.ref a/\H a=some (.ins C dx fs)/\Cls K C/\NoAttr K C f/\fs.lookup f=some v/\Q v H
theorem zmj {ta:TE} (q:ta σ H (zir K f Q)):za3 K ta f σ H Q:=q
theorem zk1 {v:V} (h:H a=some (.ins C dx fs)) (c:Cls K C) (n:NoAttr K C f) (l:fs.lookup f=some v) (q:Q v H):zir K f Q (.ref a) H:=⟨a,C,dx,fs,v,rfl,h,c,n,l,q⟩
noncomputable def zjy (K:PySem.W.Frag) (f:Str) (R:Hp->Prop) (y x:V) (H:Hp):Prop:=∃ a C dx fs,x=.ref a/\H a=some (.ins C dx fs)/\Cls K C/\NoAttr K C f/\fs.length < 1000/\R (upd H a (.ins C dx (zaC f y fs)))
theorem zkH {ta tv:TE} (q:tv σ H fun y H1=>ta σ H1 (zjy K f (D.nx σ) y)):zeF K ta tv f D σ H:=q
theorem zdA {R:Hp->Prop} {y:V} (h:H a=some (.ins C dx fs)) (c:Cls K C) (n:NoAttr K C f) (hl:fs.length < 1000) (q:∀ H',But a H H'->H' a=some (.ins C dx (zaC f y fs))->R H'):zjy K f R y (.ref a) H:=
 ⟨a,C,dx,fs,rfl,h,c,n,hl,q _ But.upd zK⟩
noncomputable def zgH (C:Addr) (m:Str) (sp:Sp) (E:XK) (t:TA) (σ:St) (Q:VK) (x:V) (H:Hp):Prop:=∃ a dx fs,x=.ref a/\H a=some (.ins C dx fs)/\fs.lookup m=none/\t σ H fun vs H2=>sp (x :: (vs ++ [])) H2 Q E
theorem zlH {sp:Sp} {E:XK} {ta:TE} {t:TA} (q:ta σ H (zgH C m sp E t σ Q)):zhe C m sp [] E ta t σ H Q:=q
theorem zjZ {sp:Sp} {E:XK} {t:TA} (h:H a=some (.ins C dx fs)) (l:fs.lookup m=none) (q:t σ H fun vs H2=>sp (.ref a :: vs) H2 Q E):zgH C m sp E t σ Q (.ref a) H:=by
 refine ⟨a,dx,fs,rfl,h,l,?_⟩
 simp only [List.append_nil]
 exact q
noncomputable def zjn (C:Addr) (sp:Sp) (E:XK) (Q:VK) (vs:List V) (H1:Hp):Prop:=∀ x dx,H1 x=none->H1 dx=none->dx ≠ x->sp (.ref x :: (vs ++ [])) (upd (upd H1 dx (.own x)) x (.ins C dx [])) (fun v H2=>v=.non/\Q (.ref x) H2) E
theorem zlN {sp:Sp} {E:XK} {t:TA} (q:t σ H (zjn C sp E Q)):zjl C sp [] E t σ H Q:=q
theorem zjQ {sp:Sp} {E:XK} {vs:List V} (q:∀ x dx H',H x=none->Same H H'->H' x=some (.ins C dx [])->sp (.ref x :: vs) H' (fun v H2=>v=.non/\Q (.ref x) H2) E):zjn C sp E Q vs H:=fun x dx hx hd ne=>by
 rw [List.append_nil]
 exact q x dx _ hx ((Same.new hd _).trans (Same.new (by rw [zG ne.symm]; exact hx) _)) zK
end
noncomputable def zlJ (C:Addr) (m:Str) (sp:Sp) (t:TA) (σ:St) (Q:VK) (Eh:Addr->Hp->Prop) (x:V) (H:Hp):Prop:=∃ a dx fs,x=.ref a/\H a=some (.ins C dx fs)/\fs.lookup m=none/\t σ H fun vs H2=>sp (x :: vs) H2 Q fun cls _ H3=>∃ C',cls=.ref C'/\Eh C' H3
noncomputable abbrev zmT (C:Addr) (m:Str) (sp:Sp) (ta:TE) (t:TA):TEr:=fun σ H Q Eh=>ta σ H (zlJ C m sp t σ Q Eh)
theorem zkt {K:PySem.W.Frag} {a:Addr} {xs:List V}:Src (Itt K a) (fun H=>SqT K H a xs) xs.length (fun i x _=>xs[i]?=some x):=
 ⟨fun i H h hi=>by obtain ⟨x,hx⟩:=zu hi; exact ⟨xs,x,h,hx⟩,fun H h=>⟨xs,h,Nat.le_refl _⟩,fun i H x H' h hi ⟨q,r⟩=>by subst q; exact ⟨Same.refl _,r xs h⟩⟩
noncomputable def zkO (K:PySem.W.Frag) (R:It->Hp->Prop) (x:V) (H:Hp):Prop:=∃ a,x=.ref a/\(∃ xs,SqT K H a xs)/\R (Itt K a) H
theorem zl6 {K:PySem.W.Frag} {σ:St} {H:Hp} {R:It->Hp->Prop} {tl:TE} (q:tl σ H (zkO K R)):ziP K tl σ H R:=q
theorem zkX {K:PySem.W.Frag} {H:Hp} {R:It->Hp->Prop} {a:Addr} {xs:List V} (h:SqT K H a xs) (q:R (Itt K a) H):zkO K R (.ref a) H:=⟨a,rfl,⟨xs,h⟩,q⟩
theorem zes {K:PySem.W.Frag} {H:Hp} {Q:VK} {a:Addr} {xs:List V} {lo hi:Option Int} (h:H a=some (.tup xs)) (hw:¬ (HT.sIx xs.length 0 lo=0/\HT.sIx xs.length xs.length hi=xs.length)) (q:∀ p H',H p=none->Same H H'->H' p=some (.tup (zb9 xs lo hi))->Q (.ref p) H'):zeE K (.ref a) lo hi H Q:=
 ⟨a,xs,rfl,.of h,hw,fun p hp=>q p _ hp (Same.new hp _) zK⟩
theorem zev {K:PySem.W.Frag} {H:Hp} {Q:VK} {a b:Addr} {xs ys:List V} (h:H a=some (.tup xs)) (h':H b=some (.tup ys)) (hx:xs ≠ []) (hy:ys ≠ []) (hz:xs.length + ys.length<=100000) (q:∀ p H',H p=none->Same H H'->H' p=some (.tup (xs ++ ys))->Q (.ref p) H'):zE K (.ref a) (.ref b) H Q:=
 .inr (.inr ⟨a,b,xs,ys,rfl,rfl,.of h,.of h',hx,zbQ hz,fun z=>absurd z hy,fun _ p hp=>q p _ hp (Same.new hp _) zK⟩)
theorem zmo {K:PySem.W.Frag} {H:Hp} {Q:VK} {x y:Str} (q:Q (.bl (decide (x=y))) H):zC K (.str x) (.str y) H Q:=.inr ⟨rfl,by rw [show decide (V.str x=V.str y)=decide (x=y) by simp]; exact q⟩
theorem zmg {K:PySem.W.Frag} {H:Hp} {Q:VK} {x y:Str} (q:Q (.bl (!decide (x=y))) H):zbD K (.str x) (.str y) H Q:=.inr ⟨rfl,by rw [show decide (V.str x=V.str y)=decide (x=y) by simp]; exact q⟩
end Internal
set_option Elab.async false
set_option linter.all false
set_option maxRecDepth 100000
namespace Internal
open PySem PySem.Spec PyProof.Rows
noncomputable def bfl (m w y:Int) (d:Addr):List (Str × V):=zaC "deals" (.ref d) (zaC "day" (.int y) (zaC "wares" (.int w) (zaC "many" (.int m) [])))
section
variable {m w y:Int} {d:Addr}
theorem zhq:(bfl m w y d).lookup ("deals" : Str)=some (.ref d):=by unfold bfl; rw [zO,if_pos rfl]
theorem zgy:(bfl m w y d).lookup ("day" : Str)=some (.int y):=by unfold bfl; rw [zO,if_neg (by decide +kernel),zO,if_pos rfl]
theorem zhQ:(bfl m w y d).lookup ("wares" : Str)=some (.int w):=by unfold bfl; rw [zO,if_neg (by decide +kernel),zO,if_neg (by decide +kernel),zO,if_pos rfl]
theorem zim:(bfl m w y d).lookup ("many" : Str)=some (.int m):=by unfold bfl; rw [zO,if_neg (by decide +kernel),zO,if_neg (by decide +kernel),zO,if_neg (by decide +kernel),zO,if_pos rfl]
theorem zla {n:Str} (h1:¬ n = "deals") (h2:¬ n = "day") (h3:¬ n = "wares") (h4:¬ n = "many"):(bfl m w y d).lookup n=none:=by
 unfold bfl
 rw [zO,if_neg h1,zO,if_neg h2,zO,if_neg h3,zO,if_neg h4]
 rfl
end
set_option genInjectivity false in
set_option genSizeOf false in
structure T7 where
 p:Int
 q:Int
 w:Int
 u:Int
 a:Int
 y:Int
 r:Int
noncomputable def zc0 (t:T7):List V:=[.int t.p,.int t.q,.int t.w,.int t.u,.int t.a,.int t.y,.int t.r]
noncomputable def zad (x:T7 × Str):List V:=zc0 x.1 ++ [.str x.2]
set_option genInjectivity false in
set_option genSizeOf false in
structure TermOk (m w y:Int) (t:T7):Prop where
 p0:0<=t.p
 p1:t.p < m
 q0:0<=t.q
 q1:t.q < m
 pq:t.p ≠ t.q
 w0:0<=t.w
 w1:t.w < w
 u0:1<=t.u
 u1:t.u<=1000000
 a0:1<=t.a
 a1:t.a<=1000000000
 y0:0<=t.y
 y1:t.y<=1000000
 r0:0<=t.r
 r1:t.r<=2
 yd:y<=t.y
noncomputable def ButL (d:Addr) (H H':Hp):Prop:=(∀ b o,b ≠ d->H b=some o->H' b=some o)/\∃ xs,H d=some (.lst xs)
theorem ButL.at {d:Addr} {H H':Hp} (g:ButL d H H') {a:Addr} {o:HO} (h:H a=some o) (n:a ≠ d):H' a=some o:=g.1 a o n h
theorem ButL.of {d:Addr} {H H1 H2:Hp} {xs:List V} (h:H d=some (.lst xs)) (e:Same H H1) (g:LBut d H1 H2):ButL d H H2:=⟨fun b o n q=>g.1.at (e b o q) n,xs,h⟩
set_option genInjectivity false in
set_option genSizeOf false in
structure Bk (C:Addr) (H:Hp) (b d:Addr) (m w y:Int) (ts:List (T7 × Str)):Prop where
 ob:∃ dx,H b=some (.ins C dx (bfl m w y d))
 ds:∃ xs,H d=some (.lst xs)/\IsTs zad H xs ts
section
variable {C:Addr} {H H':Hp} {b d:Addr} {m w y:Int} {ts:List (T7 × Str)}
theorem Bk.same (h:Bk C H b d m w y ts) (e:Same H H'):Bk C H' b d m w y ts:=by
 obtain ⟨⟨dx,h1⟩,xs,h2,h3⟩:=h
 exact ⟨⟨dx,e.at h1⟩,xs,e.at h2,h3.same e⟩
theorem LBut.ins {l:Addr} (g:LBut l H H') {a C dx:Addr} {fs:List (Str × V)} (h:H a=some (.ins C dx fs)):H' a=some (.ins C dx fs):=by
 obtain ⟨ys,e⟩:=g.2
 exact g.1.at h (zbI h e (by intro z; cases z))
theorem Bk.app {H1 H2:Hp} {t:T7 × Str} {a:Addr} {xs:List V} (h:Bk C H b d m w y ts) (hx:H d=some (.lst xs)) (e:Same H H1) (ha:H1 a=some (.tup (zad t))) (g:LBut d H1 H2) (h2:H2 d=some (.lst (xs ++ [.ref a]))):Bk C H2 b d m w y (ts ++ [t]):=by
 obtain ⟨⟨dx,h1⟩,ys,h3,h4⟩:=h
 rw [hx] at h3; cases h3
 exact ⟨⟨dx,g.ins (e.at h1)⟩,_,h2,IsTs.app (f:=zad) (g.tup ha) (LBut.isTs g (h4.same e))⟩
end
noncomputable def zjM (C:Addr):Sp:=fun vs H Q _=>∃ (p dx:Addr) (m w:Int),vs=[.ref p,.int m,.int w]/\H p=some (.ins C dx [])/\∀ d H',H d=none->(∀ b o,b ≠ p->H b=some o->H' b=some o)->H' p=some (.ins C dx (bfl m w 0 d))->H' d=some (.lst [])->Q .non H'
noncomputable def zkl (C CE:Addr):Sp:=fun vs H Q E=>∃ (b dx d:Addr) (m w y n:Int) (xs:List V),vs=[.ref b,.int n]/\H b=some (.ins C dx (bfl m w y d))/\H d=some (.lst xs)/\((0<=n/\∃ v,xs[n.toNat]?=some v/\Q v H)\/(¬ (0<=n/\n < xs.length)/\E (.ref CE) none H))
noncomputable def zfW (C:Addr):Sp:=fun vs H Q _=>∃ (b dx d:Addr) (m w y:Int) (xs:List V),vs=[.ref b]/\H b=some (.ins C dx (bfl m w y d))/\H d=some (.lst xs)/\Q (.int xs.length) H
noncomputable def zgn (C:Addr):Sp:=fun vs H Q _=>∃ (b dx d:Addr) (m w y:Int),vs=[.ref b]/\H b=some (.ins C dx (bfl m w y d))/\Q (.int y) H
noncomputable def zeH (K:PySem.W.Frag):Sp:=fun vs H Q _=>∃ (a:Addr) (ns:List Int) (k:Int),vs=[.ref a,.int k]/\SqL K H a (ns.map V.int)/\0<=k/\∀ x,Q (.int x) H
theorem zhu {K:PySem.W.Frag} {a:Addr} {ns:List Int} {k:Int} {H:Hp} {Q:VK} {E:XK} (hS:SqL K H a (ns.map V.int)) (h0:0<=k) (q:∀ x,Q (.int x) H):zeH K [.ref a,.int k] H Q E:=⟨a,ns,k,rfl,hS,h0,q⟩
noncomputable def zeC (K:PySem.W.Frag):Sp:=fun vs H Q _=>∃ (a:Addr) (ns:List Int) (k n:Int),vs=[.ref a,.int k,.int n]/\SqL K H a (ns.map V.int)/\0<=k/\k<=5000/\1<=n/\∀ x,0<=x->x < n->Q (.int x) H
theorem zii {K:PySem.W.Frag} {a:Addr} {ns:List Int} {k n:Int} {H:Hp} {Q:VK} {E:XK} (hS:SqL K H a (ns.map V.int)) (h0:0<=k) (h1:k<=5000) (n0:1<=n) (q:∀ x,0<=x->x < n->Q (.int x) H):zeC K [.ref a,.int k,.int n] H Q E:=⟨a,ns,k,n,rfl,hS,h0,h1,n0,q⟩
noncomputable def zd0 (K:PySem.W.Frag):Sp:=fun vs H Q _=>∃ (a:Addr) (ns:List Int) (k n:Int),vs=[.ref a,.int k,.int n]/\SqL K H a (ns.map V.int)/\0<=k/\k<=5000/\1<=n/\n<=1000000000000000000000000000000000000000000000000000/\∀ x,0<=x->x < n->Q (.int x) H
theorem zgM {K:PySem.W.Frag} {a:Addr} {ns:List Int} {k n:Int} {H:Hp} {Q:VK} {E:XK} (hS:SqL K H a (ns.map V.int)) (h0:0<=k) (h1:k<=5000) (n0:1<=n) (n1:n<=1000000000000000000000000000000000000000000000000000) (q:∀ x,0<=x->x < n->Q (.int x) H):zd0 K [.ref a,.int k,.int n] H Q E:=⟨a,ns,k,n,rfl,hS,h0,h1,n0,n1,q⟩
noncomputable def stand (t:T7):T7 × Str:=(t,("standing" : Str))
theorem zlt {xs:List V} {k:Nat}:(zb9 xs none (some (k:Int))).length<=k:=by
 unfold zb9
 rw [HT.sIx_nat,HT.sIx_none,List.length_take]
 omega
theorem ziM {K:PySem.W.Frag} {H:Hp} {Q:VK} {a b:Addr} {x:T7 × Str} (h1:H a=some (.tup (zad x))) (h2:H b=some (.tup (zad x))) (ok:PyData.canLay0 (.str x.2)=true) (q:Q (.bl true) H):zC K (.ref a) (.ref b) H Q:=by
 have rep:RepAll K H (zad x) [.int x.1.p,.int x.1.q,.int x.1.w,.int x.1.u,.int x.1.a,.int x.1.y,.int x.1.r,.str x.2]:=.cons (.int _) (.cons (.int _) (.cons (.int _) (.cons (.int _) (.cons (.int _) (.cons (.int _) (.cons (.int _) (.cons (.str _ ok) .nil)))))))
 refine zfv (.tup (.of h1) rep) (.tup (.of h2) rep) (by simp [PyData.depth,PyData.depthAll]) ?_
 rw [PySem.SeqAt.eqv_refl _ (by rw [PyData.canLay0]; exact rep.lay)]
 exact q
end Internal
set_option Elab.async false
set_option linter.all false
set_option maxRecDepth 100000
namespace Internal
open PySem PySem.Spec PyProof.Rows
noncomputable abbrev TAr:=St->Hp->(List V->Hp->Prop)->(Addr->Hp->Prop)->Prop
noncomputable def PAr (X:Cx) (es:List Expr) (t:TAr):Prop:=∀ (pos:Pos) (pins:List (Addr × Obj)) (s:Shared) (σ:St) (H:Hp) (Q:List V->Hp->Prop) (Eh:Addr->Hp->Prop),Inv X pins σ H s->t σ H Q Eh->wpAny (model X.prog X.w) X.A (spliced (backTo pos (starEach es X.env))) (AP X pins σ Q) (zed X pins fun C σ' H'=>σ'=σ/\Eh C H') s
section
variable {X:Cx} {pos:Pos}
noncomputable abbrev zlG (te:TEr):TAr:=fun σ H Q Eh=>te σ H (fun y H2=>Q [y] H2) Eh
noncomputable abbrev zkY (tc:TE) (t:TAr):TAr:=fun σ H Q Eh=>tc σ H fun x H1=>t σ H1 (fun xs H2=>Q (x :: xs) H2) Eh
noncomputable abbrev zl0 (t:TAr):TEr:=fun σ H Q Eh=>t σ H (fun xs H1=>zeD Q xs H1) Eh
noncomputable abbrev zmq (i:Nat) (te:TEr):TTr:=fun D Eh σ H=>te σ H (fun y H2=>D.nx (σ.set i (some y)) H2) fun C H2=>Eh C σ H2
theorem zik {e:Expr} {te:TEr} (he:PEr X e te) (hs:autoParam (starEach [e] X.env=[(false,eval e X.env)]) Internal.aut2._auto_1):PAr X [e] (zlG te):=by
 intro pos pins s σ H Q Eh I h
 rw [hs]
 show wpAny _ _ (spliced ((false,eval e X.env) :: backTo pos [])) _ _ s
 refine Calls.spliced_cons (wpAny_mono (he pins s σ H _ _ I h) (fun u s1 ⟨x,H1,I1,r1,q1⟩=>?_) fun _ _ z=>z)
 exact Calls.spliced_nil ⟨[x],H1,I1,.cons r1 .nil,q1⟩
theorem ziB {c:Expr} {es:List Expr} {tc:TE} {t:TAr} (hc:PE X.nox c tc) (hr:PAr X es t) (hs:autoParam (starEach (c :: es) X.env=(false,eval c X.env) :: starEach es X.env) Internal.aut2._auto_1):PAr X (c :: es) (zkY tc t):=by
 intro pos pins s σ H Q Eh I h
 rw [hs]
 show wpAny _ _ (spliced ((false,eval c X.env) :: backTo pos (starEach es X.env))) _ _ s
 refine Calls.spliced_cons (wpAny_mono (hc pins s σ H _ (I.wish _) h) (fun u s1 ⟨x,H1,J1,r1,q1⟩=>?_) fun _ _ z=>z.elim)
 exact wpAny_mono (hr pos pins s1 σ H1 _ _ J1.unwish q1) (fun us s2 ⟨xs,H2,I2,r2,q2⟩=>⟨x :: xs,H2,I2,.cons r1 r2,q2⟩) fun _ _ z=>z
theorem zj9 {es:List Expr} {t:TAr} {x1} (h:PAr X es t):PEr X (.Tuple es x1 pos) (zl0 t):=by
 intro pins s σ H Q Eh I hq
 refine wpAny_Tuple_spliced (wpAny_mono (h pos pins s σ H _ _ I hq) (fun us s1 ⟨xs,H1,I1,r,z,q⟩=>⟨by rw [<- r.length]; exact z,?_⟩) fun _ _ z=>z)
 have hf:H1 s1.heap.objs.size=none:=I1.hok.fresh (Nat.le_refl _)
 refine ⟨.ref s1.heap.objs.size,upd H1 s1.heap.objs.size (.tup xs),I1.laid (t':=s1.toks) (fun b u e=>Heap.get?_push_of_some _ e) (Nat.le_refl _) ?_,rfl,q _ hf⟩
 exact ⟨z,us,r,⟨_,Heap.get?_push_size _ rfl,rfl,_,rfl⟩⟩
theorem zjJ {i:Nat} {x:Str} {e:Expr} {te:TEr} {pos':Pos} (hN:X.N.Nodup) (hi:X.N[i]?=some x) (hx:Loc X.env.scope x) (he:PEr X e te) (hs:autoParam (swapsWith e (some (.Name x pos')) pos.line X.env=pure false) Internal.aut2._auto_1) (hf:autoParam (X.fn x=true\/X.env.scope.names.lookup x=some .local) Internal.aut0._auto_1) :
  PTr X (.Assign [.Name x pos'] e pos) (zmq i te):=by
 intro pins s σ H D Eh I h
 refine wpAny_Assign_Name (wpAny_mono (he pins s σ H _ _ I h) (fun v s1 ⟨y,H1,I1,r1,q1⟩=>?_) fun e s1 zz=>by obtain ⟨σ',H1,s2,er,C,t,B,H',I',e1,fl,e2,q⟩:=zz; exact ⟨σ',H1,s2,er,C,t,B,H',I',e1,fl,e2 ▸ q⟩) hs
 exact zcO I1 hN hi hx r1 (fun s2 I2=>⟨_,H1,I2,q1⟩) hf
end
section
variable {σ:St} {H:Hp} {D:Ends} {Eh:Addr->Hp->Prop} {Eg:Addr->St->Hp->Prop}
end
noncomputable def zmb (K:PySem.W.Frag) (f:Str) (tv:TE) (rd:V->V->Hp->VK->Prop) (σ:St) (R:Hp->Prop) (x:V) (H1:Hp):Prop:=∃ a C dx fs v,x=.ref a/\H1 a=some (.ins C dx fs)/\Cls K C/\NoAttr K C f/\fs.lookup f=some v /\
 tv σ H1 fun y H2=>rd v y H2 fun z H3=>∃ dx' fs',H3 a=some (.ins C dx' fs')/\fs'.length < 1000/\R (upd H3 a (.ins C dx' (zaC f z fs')))
theorem zk6 {K:PySem.W.Frag} {f:Str} {ta tv:TE} {rd:V->V->Hp->VK->Prop} {D:Ends} {σ:St} {H:Hp} (q:ta σ H (zmb K f tv rd σ (D.nx σ))):zeJ K ta tv rd f D σ H:=q
end Internal
set_option Elab.async false
set_option linter.all false
set_option maxRecDepth 100000
namespace Internal
open PySem PySem.Spec PyProof.Rows
theorem zbB {p q:Prop} [Decidable p] [Decidable q] {α:Type} {a b:α} (h:p ↔ q):(if p then a else b)=if q then a else b:=by
 by_cases hp:p
 ·rw [if_pos hp,if_pos (h.mp hp)]
 ·rw [if_neg hp,if_neg fun z=>hp (h.mpr z)]
noncomputable def zcR (m p q:Int):Prop:=(0<=p/\p < m)/\(0<=q/\q < m)/\p ≠ q
noncomputable instance (m p q:Int):Decidable (zcR m p q):=inferInstanceAs (Decidable (_/\_))
noncomputable def zbV (w:Int) (t:T7):Prop:=(0<=t.w/\t.w < w)/\(1<=t.u/\t.u<=1000000)/\(1<=t.a/\t.a<=1000000000)/\(0<=t.y/\t.y<=1000000)/\(0<=t.r/\t.r<=2)
noncomputable instance (w:Int) (t:T7):Decidable (zbV w t):=inferInstanceAs (Decidable (_/\_))
noncomputable def zR (m w y:Int) (t:T7):Nat:=if ¬ zcR m t.p t.q then 1 else if ¬ zbV w t then 2 else if t.y < y then 3 else 0
noncomputable def zcU:Nat->Str
 | 1 => "member"
 | 2 => "terms"
 | 3 => "closed"
 | _ => ""
theorem zj7 (m w y:Int) (t:T7):zR m w y t<=3:=by unfold zR; split <;> (try split) <;> (try split) <;> omega
theorem zkb {m w y:Int} {t:T7} (h:zR m w y t=0):TermOk m w y t:=by
 unfold zR at h
 split at h
 ·omega
 ·rename_i h1
  split at h
  ·omega
  ·rename_i h2
   split at h
   ·omega
   ·rename_i h3
    obtain ⟨⟨a1,a2⟩,⟨a3,a4⟩,a5⟩:=Classical.not_not.mp h1
    obtain ⟨⟨b1,b2⟩,⟨b3,b4⟩,⟨b5,b6⟩,⟨b7,b8⟩,b9,b10⟩:=Classical.not_not.mp h2
    exact ⟨a1,a2,a3,a4,a5,b1,b2,b3,b4,b5,b6,b7,b8,b9,b10,by omega⟩
theorem zjK {m w y:Int} {t:T7} (h:TermOk m w y t):zR m w y t=0:=by
 unfold zR
 rw [if_neg (Classical.not_not.mpr ⟨⟨h.p0,h.p1⟩,⟨h.q0,h.q1⟩,h.pq⟩),if_neg (Classical.not_not.mpr ⟨⟨h.w0,h.w1⟩,⟨h.u0,h.u1⟩,⟨h.a0,h.a1⟩,⟨h.y0,h.y1⟩,h.r0,h.r1⟩),if_neg (by have:=h.yd; omega)]
theorem IsTs.set {α:Type} {f:α->List V} {H:Hp} {a:Addr} {x:α} (ha:H a=some (.tup (f x))):∀ {vs:List V} {xs:List α} (n:Nat),IsTs f H vs xs->IsTs f H (vs.set n (.ref a)) (xs.set n x)
 | [],[],_,_=>trivial
 | _ :: _,_ :: _,0,⟨_,h2⟩=>⟨⟨a,rfl,ha⟩,h2⟩
 | _ :: _,_ :: _,n + 1,⟨h1,h2⟩=>⟨h1,IsTs.set ha n h2⟩
theorem zf5 (m w y:Int) (d:Addr):bfl m w y d=[(("many" : Str),V.int m),(("wares" : Str),V.int w),(("day" : Str),V.int y),(("deals" : Str),V.ref d)]:=by
 have h1:¬ (("many" : Str) = "wares"):=by decide +kernel
 have h2:¬ (("many" : Str) = "day"):=by decide +kernel
 have h3:¬ (("wares" : Str) = "day"):=by decide +kernel
 have h4:¬ (("many" : Str) = "deals"):=by decide +kernel
 have h5:¬ (("wares" : Str) = "deals"):=by decide +kernel
 have h6:¬ (("day" : Str) = "deals"):=by decide +kernel
 unfold bfl
 simp only [zaC,if_neg h1,if_neg h2,if_neg h3,if_neg h4,if_neg h5,if_neg h6]
theorem zkz (m w y z:Int) (d:Addr):zaC "day" (.int z) (bfl m w y d)=bfl m w z d:=by
 have h2:¬ (("many" : Str) = "day"):=by decide +kernel
 have h3:¬ (("wares" : Str) = "day"):=by decide +kernel
 rw [zf5,zf5]
 simp only [zaC,if_neg h2,if_neg h3,if_pos]
theorem zkh (m w y:Int) (d:Addr):(bfl m w y d).length < 1000:=by rw [zf5]; show 4 < 1000; decide
noncomputable def zh4 (C CM:Addr):Sp:=fun vs H Q E=>∃ (b dx d:Addr) (m w y p q:Int),vs=[.ref b,.int p,.int q]/\H b=some (.ins C dx (bfl m w y d))/\((zcR m p q/\∀ H',Same H H'->Q .non H')\/(¬ zcR m p q/\∀ H',Same H H'->E (.ref CM) none H'))
noncomputable def zhK (C CT CC:Addr):Sp:=fun vs H Q E=>∃ (b dx d:Addr) (m w y:Int) (t:T7),vs=[.ref b,.int t.w,.int t.u,.int t.a,.int t.y,.int t.r]/\H b=some (.ins C dx (bfl m w y d))/\((zbV w t/\y<=t.y/\Q .non H)\/(¬ zbV w t/\E (.ref CT) none H)\/(zbV w t/\t.y < y/\E (.ref CC) none H))
noncomputable def zh7 (C CM CT CC:Addr):Sp:=fun vs H Q E=>∃ (b dx d:Addr) (m w y:Int) (t:T7) (xs:List V),vs=.ref b :: zc0 t/\H b=some (.ins C dx (bfl m w y d))/\H d=some (.lst xs)/\xs.length<=1000 /\
 ((zR m w y t=0/\∀ a H1 H2,Same H H1->H1 a=some (.tup (zad (t,("standing" : Str))))->LBut d H1 H2->H2 d=some (.lst (xs ++ [.ref a]))->Q (.int xs.length) H2) \/
  (zR m w y t=1/\∀ H',Same H H'->E (.ref CM) none H')\/(zR m w y t=2/\∀ H',Same H H'->E (.ref CT) none H')\/(zR m w y t=3/\∀ H',Same H H'->E (.ref CC) none H'))
noncomputable def zby (s:Str) (ts:List (T7 × Str)) (S:List Int):List (T7 × Str):=(List.range ts.length).map fun i:Nat=>if (i:Int) ∈ S then ((ts.getD i (⟨0,0,0,0,0,0,0⟩, "")).1,s) else ts.getD i (⟨0,0,0,0,0,0,0⟩, "")
theorem za5 {s:Str} {ts:List (T7 × Str)} {S:List Int}:(zby s ts S).length=ts.length:=by unfold zby; rw [List.length_map,List.length_range]
theorem zbo {s:Str} {ts:List (T7 × Str)} {S:List Int} {i:Nat} {t:T7 × Str} (h:ts[i]?=some t):(zby s ts S)[i]?=some (if (i:Int) ∈ S then (t.1,s) else t):=by
 have hi:=(List.getElem?_eq_some_iff.mp h).1
 unfold zby
 rw [List.getElem?_map,List.getElem?_range hi]
 have hg:ts.getD i (⟨0,0,0,0,0,0,0⟩, "")=t:=by rw [List.getD_eq_getElem?_getD,h]; rfl
 show some (if (i:Int) ∈ S then ((ts.getD i (⟨0,0,0,0,0,0,0⟩, "")).1,s) else ts.getD i (⟨0,0,0,0,0,0,0⟩, ""))=_
 rw [hg]
theorem zdy {α:Type} {xs ys:List α} (hl:xs.length=ys.length) (h:∀ (i:Nat) (x y:α),xs[i]?=some x->ys[i]?=some y->x=y):xs=ys:=by
 apply List.ext_getElem?
 intro i
 by_cases hi:i < xs.length
 ·obtain ⟨x,hx⟩:=zu hi
  obtain ⟨y,hy⟩:=zu (show i < ys.length by omega)
  rw [hx,hy,h i x y hx hy]
 ·rw [List.getElem?_eq_none (by omega),List.getElem?_eq_none (by omega)]
theorem zdf {s:Str} {ts:List (T7 × Str)}:zby s ts []=ts:=zdy za5 fun i x y hx hy=>by
 rw [zbo hy] at hx
 rw [if_neg (by simp)] at hx
 exact (Option.some.inj hx).symm
theorem zdj {s:Str} {ts:List (T7 × Str)} {S:List Int} {n:Nat} {t:T7 × Str} (h:ts[n]?=some t):(zby s ts S).set n (t.1,s)=zby s ts (S ++ [(n:Int)]):=by
 refine zdy (by rw [List.length_set,za5,za5]) fun i x y hx hy=>?_
 have hi:i < ts.length:=by have:=(List.getElem?_eq_some_iff.mp hy).1; rwa [za5] at this
 obtain ⟨u,hu⟩:=zu hi
 rw [zbo hu] at hy
 by_cases e:i=n
 ·subst e
  rw [List.getElem?_set_self (by rw [za5]; exact hi)] at hx
  rw [h] at hu; cases hu
  rw [if_pos (by simp)] at hy
  exact (Option.some.inj hx).symm.trans (Option.some.inj hy)
 ·rw [List.getElem?_set_ne (fun z=>e z.symm),zbo hu] at hx
  have hiff:((i:Int) ∈ S ++ [(n:Int)]) ↔ (i:Int) ∈ S:=by
   rw [List.mem_append,List.mem_singleton]
   exact ⟨fun h=>h.elim id fun z=>absurd z (by omega),.inl⟩
  rw [show (if (i:Int) ∈ S ++ [(n:Int)] then (u.1,s) else u)=if (i:Int) ∈ S then (u.1,s) else u from zbB hiff] at hy
  exact (Option.some.inj hx).symm.trans (Option.some.inj hy)
noncomputable def zv (P:T7 × Str->Bool) (ts:List (T7 × Str)):Nat->List Int
 | 0=>[]
 | n + 1=>zv P ts n ++ (match ts[n]? with | some t=>if P t then [(n:Int)] else [] | none=>[])
theorem zbn {P:T7 × Str->Bool} {ts:List (T7 × Str)} {n:Nat} {t:T7 × Str} (h:ts[n]?=some t):zv P ts (n + 1)=zv P ts n ++ if P t then [(n:Int)] else []:=by
 show zv P ts n ++ _=_
 rw [h]
theorem zbg {P:T7 × Str->Bool} {ts:List (T7 × Str)} {x:Int}:∀ {n:Nat},n<=ts.length->(x ∈ zv P ts n ↔ ∃ (i:Nat) (t:T7 × Str),i < n/\x=(i:Int)/\ts[i]?=some t/\P t=true)
 | 0,_=>by
  constructor
  ·intro h; cases h
  ·rintro ⟨i,t,h,_⟩; omega
 | n + 1,hn=>by
  obtain ⟨t,ht⟩:=zu (show n < ts.length by omega)
  rw [zbn ht,List.mem_append,zbg (by omega)]
  constructor
  ·rintro (⟨i,u,h1,h2,h3⟩ | h)
   ·exact ⟨i,u,by omega,h2,h3⟩
   ·by_cases hp:P t=true
    ·rw [if_pos hp,List.mem_singleton] at h
     exact ⟨n,t,by omega,h,ht,hp⟩
    ·rw [if_neg hp] at h; cases h
  ·rintro ⟨i,u,h1,h2,h3,h4⟩
   by_cases e:i=n
   ·subst e
    rw [ht] at h3; cases h3
    exact .inr (by rw [if_pos h4,List.mem_singleton]; exact h2)
   ·exact .inl ⟨i,u,by omega,h2,h3,h4⟩
theorem zcc {P:T7 × Str->Bool} {ts:List (T7 × Str)}:∀ n,(zv P ts n).length<=n
 | 0=>Nat.le_refl _
 | n + 1=>by
  have:=zcc (P:=P) (ts:=ts) n
  show (zv P ts n ++ _).length<=_
  rw [List.length_append]
  have h2:(match ts[n]? with | some t=>if P t then [(n:Int)] else [] | none=>[]).length<=1:=by
   split
   ·split <;> simp
   ·simp
  omega
noncomputable def zY (y:Int) (t:T7 × Str):Bool:=decide (t.2 = "standing") && decide (t.1.y=y)
noncomputable def zdl (y:Int) (t:T7 × Str):T7 × Str:=if zY y t then (t.1, "settled") else t
theorem zfB {y:Int} {ts:List (T7 × Str)}:zby "settled" ts (zv (zY y) ts ts.length)=ts.map (zdl y):=by
 refine zdy (by rw [za5,List.length_map]) fun i a b ha hb=>?_
 have hi:i < ts.length:=by have:=(List.getElem?_eq_some_iff.mp ha).1; rwa [za5] at this
 obtain ⟨t,ht⟩:=zu hi
 rw [zbo ht] at ha
 rw [List.getElem?_map,ht] at hb
 have hiff:((i:Int) ∈ zv (zY y) ts ts.length) ↔ zY y t=true:=by
  rw [zbg (Nat.le_refl _)]
  constructor
  ·rintro ⟨j,u,h1,h2,h3,h4⟩
   obtain rfl:i=j:=by omega
   rw [ht] at h3; cases h3; exact h4
  ·exact fun h=>⟨i,t,hi,rfl,ht,h⟩
 rw [show (if (i:Int) ∈ zv (zY y) ts ts.length then (t.1,("settled" : Str)) else t)=zdl y t from zbB hiff] at ha
 exact (Option.some.inj ha).symm.trans (Option.some.inj hb)
noncomputable def zg6 (C:Addr):Sp:=fun vs H Q _=>∃ (b d:Addr) (m w y n:Int) (s:Str) (ts:List (T7 × Str)) (t:T7 × Str),vs=[.ref b,.int n,.str s]/\Bk C H b d m w y ts/\0<=n/\ts[n.toNat]?=some t/\∀ H',Bk C H' b d m w y (ts.set n.toNat (t.1,s))->ButL d H H'->Q .non H'
noncomputable def onP (y:Int) (t:T7 × Str):Bool:=decide (t.1.y=y) && decide (¬ t.2 = "broken")
noncomputable def zga (C:Addr):Sp:=fun vs H Q _=>∃ (b d:Addr) (m w y z:Int) (ts:List (T7 × Str)),vs=[.ref b,.int z]/\Bk C H b d m w y ts/\ts.length<=1000/\∀ p H',H p=none->Same H H'->H' p=some (.lst ((zv (onP z) ts ts.length).map V.int))->Q (.ref p) H'
end Internal
set_option Elab.async false
set_option linter.all false
set_option maxRecDepth 100000
namespace Internal
open PySem PySem.Spec PyProof.Rows
noncomputable def DRows (H:Hp) (as:List Addr) (ts:List (T7 × Str)):Prop:=as.Nodup/\as.length=ts.length/\∀ (i:Nat) (a:Addr) (t:T7 × Str),as[i]?=some a->ts[i]?=some t->H a=some (.lst (zad t))
section
variable {H H':Hp} {as:List Addr} {ts:List (T7 × Str)}
theorem DRows.same (h:DRows H as ts) (e:Same H H'):DRows H' as ts:=⟨h.1,h.2.1,fun i a t h1 h2=>e.at (h.2.2 i a t h1 h2)⟩
theorem DRows.keep (h:DRows H as ts) (e:∀ a o,a ∈ as->H a=some o->H' a=some o):DRows H' as ts:=⟨h.1,h.2.1,fun i a t h1 h2=>e a _ (List.mem_of_getElem? h1) (h.2.2 i a t h1 h2)⟩
theorem DRows.mem (h:DRows H as ts) {a:Addr} (m:a ∈ as):∃ (i:Nat) (t:T7 × Str),as[i]?=some a/\ts[i]?=some t/\H a=some (.lst (zad t)):=by
 obtain ⟨i,hi,e⟩:=List.getElem_of_mem m
 have h1:as[i]?=some a:=by rw [List.getElem?_eq_getElem hi,e]
 obtain ⟨t,ht⟩:=zu (show i < ts.length by have:=h.2.1; omega)
 exact ⟨i,t,h1,ht,h.2.2 i a t h1 ht⟩
theorem DRows.fresh {p:Addr} (h:DRows H as ts) (hp:H p=none):p ∉ as:=fun m=>by
 obtain ⟨_,_,_,_,e⟩:=h.mem m
 rw [hp] at e; cases e
theorem DRows.neRef {d:Addr} {xs:List V} (h:DRows H as ts) (hd:H d=some (.lst xs)) (hx:∀ v ∈ xs,∃ a,v=.ref a):d ∉ as:=fun m=>by
 obtain ⟨_,t,_,_,e⟩:=h.mem m
 rw [hd] at e
 have e':xs=zad t:=by simpa using e
 obtain ⟨a,ha⟩:=hx (.int t.1.p) (by rw [e']; unfold zad zc0; simp)
 cases ha
theorem DRows.app {p:Addr} {t:T7 × Str} (h:DRows H as ts) (n:p ∉ as) (hp:H p=some (.lst (zad t))):DRows H (as ++ [p]) (ts ++ [t]):=by
 refine ⟨List.nodup_append.mpr ⟨h.1,by simp,fun a ha b hb e=>n (by rw [List.mem_singleton] at hb; subst hb; subst e; exact ha)⟩,by rw [List.length_append,List.length_append,h.2.1]; rfl,fun i a u h1 h2=>?_⟩
 rw [List.getElem?_append] at h1 h2
 have hl:=h.2.1
 split at h1
 ·rename_i hi
  rw [if_pos (by omega)] at h2
  exact h.2.2 i a u h1 h2
 ·rename_i hi
  rw [if_neg (by omega)] at h2
  have e0:i - as.length=0:=by
   cases e:i - as.length with
   | zero=>rfl
   | succ k=>rw [e] at h1; cases h1
  rw [e0] at h1
  rw [show i - ts.length=0 by omega] at h2
  cases h1; cases h2
  exact hp
theorem DRows.set {j:Nat} {a:Addr} {t:T7 × Str} (h:DRows H as ts) (ha:as[j]?=some a) (g:LBut a H H') (h':H' a=some (.lst (zad t))):DRows H' as (ts.set j t):=by
 refine ⟨h.1,by rw [List.length_set]; exact h.2.1,fun i b u h1 h2=>?_⟩
 by_cases e:i=j
 ·subst e
  rw [ha] at h1; cases h1
  rw [List.getElem?_set_self (by have:=(List.getElem?_eq_some_iff.mp ha).1; have:=h.2.1; omega)] at h2
  cases h2; exact h'
 ·rw [List.getElem?_set_ne (fun z=>e z.symm)] at h2
  exact g.lst (h.2.2 i b u h1 h2) fun z=>e (zhF h.1 h1 (z ▸ ha))
end
theorem zjd {K:PySem.W.Frag} {H:Hp} {Q:VK} {a:Addr} {xs:List V} (h:H a=some (.lst xs)) (q:∀ p H',H p=none->Same H H'->H' p=some (.tup xs)->Q (.ref p) H'):zdP K [.ref a] H Q:=⟨a,xs,rfl,.inl ⟨.of h,fun l hl=>q l _ hl (Same.new hl _) zK⟩⟩
end Internal
set_option Elab.async false
set_option linter.all false
set_option maxRecDepth 100000
namespace Internal
open PySem PySem.Spec PyProof.Rows
set_option genInjectivity false in
set_option genSizeOf false in
structure RoomH (k:Nat) (A:Around):Prop where
 dp:A.depth + 3 * k + 5 < recursionLimit
 un:A.units + 16 * k + 200 < cLine
theorem RoomH.deeper {k:Nat} {A:Around} (r:RoomH (k + 1) A) (env:Env):RoomH k (A.deeper env):=
 ⟨by have:=r.dp; show A.depth + 1 + 3 * k + 5 < _; omega,by have:=r.un; show A.units + 3 + 16 * k + 200 < _; omega⟩
theorem RoomH.depth {k:Nat} {A:Around} (r:RoomH k A):A.depth < recursionLimit:=by have:=r.dp; omega
theorem RoomH.units {k:Nat} {A:Around} (r:RoomH k A):A.units + 64 < cLine:=by have:=r.un; omega
theorem Room.mark {k:Nat} {A:Around} (r:Room k A) (h:Option Value):RoomH k (A.mark h):=⟨r.dp,r.un⟩
noncomputable abbrev Cx.toH (X:Cx) (A:Around):Cx:={ X with A:=A,calm:=false,xe:=fun _ _=>False }
theorem Inv.toH {X:Cx} {pins:List (Addr × Obj)} {σ:St} {H:Hp} {s:Shared} (I:Inv X pins σ H s) (A:Around) (hf:A.frames=some X.stack):Inv (X.toH A) pins σ H s:=
 ⟨⟨I.ok.mod,I.ok.kind,I.ok.glob,I.ok.blt,I.ok.above,I.ok.inj,I.ok.has,I.ok.cab,fun z=>(by cases z),hf,I.ok.stk,I.ok.exf,I.ok.bs,I.ok.bsz,I.ok.noex,I.ok.exfs,I.ok.funs,I.ok.frf⟩,I.os,I.bare,I.base,I.loc,I.cell,I.free,I.freeC,I.pin,I.hok,I.len⟩
set_option genInjectivity false in
set_option genSizeOf false in
structure FnOkH (P:Program) (w:World) (K:PySem.W.Frag) (mg:Str->Option Value) (base:Heap) (k:Nat) (f:Addr) (fd:FuncData) (ps:List Str) (sp:Sp):Prop where
 len:∀ vs H Q E,sp vs H Q E->vs.length=ps.length
 run:∀ (A:Around) (outer:List Env) (s:Shared) (H:Hp) (args:Args) (us:List Value) (vs:List V) (Q:VK) (E:XK),RoomH k A->Env0 P w K mg base A outer s H->BindsTo s fd args (ps.zip us)->Vals vs us->sp vs H Q E ->
  codeAny (model P w) A (.call (.ref f) args) (CR (fun _ _ _ _ _ _=>False) outer P w H s Q E) s
noncomputable abbrev cxH (P:Program) (w:World) (K:PySem.W.Frag) (mg:Str->Option Value) (base:Heap) (N:List Str) (qual:Str) (scope:Scope) (f:Addr) (cd:Value) (A:Around) (outer:List Env) (s:Shared) (H:Hp) (E:XK):Cx:=
 (zaB (CXF P w) P w K mg base N qual scope f cd A outer s H E).toH (A.deeper (envOfC qual scope s.heap.objs.size f cd))
theorem Fun.okH {P:Program} {w:World} {K:PySem.W.Frag} {mg:Str->Option Value} {base:Heap} {x qual:Str} {st:Stmt} {f:Addr} {fd:FuncData} {N ps:List Str} {k:Nat} {sp:Sp} (F:Fun K x qual st f fd) (S:FnScope N ps (zi st)) (len:∀ vs H Q E,sp vs H Q E->vs.length=ps.length)
  (hbody:∀ (cdv:Value) (A:Around) (outer:List Env) (s:Shared) (H:Hp) (vs:List V) (Q:VK) (E:XK),RoomH k (A.deeper (envOfC qual (zi st) s.heap.objs.size f cdv))->sp vs H Q E ->
   ∃ t,PSs (cxH P w K mg base N qual (zi st) f cdv A outer s H E) (zA st) t/\t { nx:=fun _ H'=>Q .non H',rt:=Q } (start N vs) H):FnOkH P w K mg base (k + 1) f fd ps sp:=by
 obtain ⟨oc,od,kV,doc,pm,an,cdv,ct,osl,rfl,lk,hcd⟩:=F.ex
 refine ⟨len,fun A outer s H args us vs Q E hr e0 hb r hsp=>?_⟩
 have hl:=len _ _ _ _ hsp
 have KX:K.In s.heap:=e0.mod.kin.keeps fun b o e=>(e0.bs b o e).1
 have lim:s.heap.NoLimit:=e0.mod.nolimit.keeps fun b o e=>(e0.bs b o e).1
 have hkind:∀ y ∈ ps.zip us,(zi st).names.lookup y.1=some .local\/((zi st).names.lookup y.1=some .cell/\((cellsFrom (s.heap.objs.size + 1) (zi st).names []).lookup y.1).isSome=true):=fun ⟨n,v⟩ hy=>by
  rcases S.par n (List.of_mem_zip hy).1 with q | q
  ·exact .inl q
  ·exact .inr ⟨q,PySem.W.cellsFrom_some _ _ _ (.inl q)⟩
 refine codeAny_call_function hr.depth (KX _ _ lk) rfl S.co S.gen rfl (PySem.W.codeRec_of KX hcd) (hb _ _ _ _ ?_)
 refine wpAny_newFunctionEnv_cells S.kind hkind fun env he s1 x=>?_
 subst he
 refine ⟨lim.keeps x.toInCall.keep,codeAny_func ?_⟩
 obtain ⟨t,ht,hq⟩:=hbody cdv A outer s H vs Q E (hr.deeper _) hsp
 have e0':Env0 P w K mg base { A with handled:=none } outer s H:=⟨e0.frames,e0.mod,e0.bs,e0.bsz,e0.funs,e0.frf,e0.hok,e0.bare⟩
 have I0:Inv (zaB (CXF P w) P w K mg base N qual (zi st) f cdv { A with handled:=none } outer s H E) [] (start N vs) H s1:=zff S rfl e0' hl r x
 have I:Inv (cxH P w K mg base N qual (zi st) f cdv A outer s H E) [] (start N vs) H s1:=I0.toH _ I0.ok.frames
 refine wpAny_mono (ht [] s1 (start N vs) H _ I hq) (fun fl s' hs=>?_) fun e s' hs=>hs.elim
 have fin:∀ {σ':St} {H':Hp} {v:V} {u:Value},Inv (cxH P w K mg base N qual (zi st) f cdv A outer s H E) [] σ' H' s'->RelV v u->Q v H'->CE outer P w H s Q u s':=
  fun {σ' H' v u} J rv q=>⟨v,H',J.os,J.bare,J.base,J.hok,rv,q⟩
 cases fl with
 | ret u=>
  obtain ⟨v,σ',H',J,rv,q⟩:=hs
  exact fin J rv q
 | next=>
  obtain ⟨σ',H',J,q⟩:=hs
  exact fin (v:=V.non) (u:=Value.none) J rfl q
 | brk=>
  obtain ⟨_,_,_,q⟩:=hs
  exact False.elim q
 | cont=>
  obtain ⟨_,_,_,q⟩:=hs
  exact False.elim q
theorem ziG {X:Cx} {k:Nat} {f:Addr} {fd:FuncData} {ps:List Str} {sp:Sp} {E:XK} {x:Str} {p pos:Pos} {e:Expr} {es:List Expr} {t:TA} (F:FnOkH X.prog X.w X.K X.mg X.base k f fd ps sp) (hr:RoomH k X.A) (hg:Gl X x) (hm:X.mg x=some (.ref f)) (hk:PySem.W.keepIn X.K (.ref f)=true) (hb:Binds X.K fd ps [])
  (ha:PA X (e :: es) t) (hdb:autoParam ((x == ("__debug__" : Str))=false) Internal.aut1._auto_1) (he:autoParam (starEach (e :: es) X.env=(false,eval e X.env) :: starEach es X.env) Internal.aut2._auto_1) (hpl:autoParam ((backTo pos (starEach es X.env)).any (·.1)=false) Internal.aut2._auto_1) :
  PE X (.Call (.Name x p) (e :: es) [] pos) (zd8 sp [] E t):=by
 intro pins s σ H Q I h
 refine wpAny_Call_Name_kw (zb7 I hg hm ?_ hdb)
 refine PySem.W.callWith_K (h₀:=X.base) I.ok.mod.kin hk (thn (ha pos pins s σ H _ I h) fun us s1 ⟨vs,H1,I1,r,q⟩=>⟨I1.kIn,?_⟩) he hpl
 have q:sp (vs ++ []) H1 Q E:=q
 rw [List.append_nil] at q
 have hl:us.length=ps.length:=by rw [<- r.length]; exact F.len _ _ _ _ q
 have hbd:=hb s1 us I1.kIn (by rw [List.append_nil]; exact hl)
 rw [List.append_nil] at hbd
 refine wpAny_call (codeAny_mono (F.run X.A X.stack s1 H1 ⟨us,[]⟩ us vs Q E hr I1.env0 hbd r q) fun res s' hq=>?_)
 cases res with
 | error e=>exact False.elim hq
 | ok fl=>
  cases fl with
  | ret u=>exact I1.after hq
  | next=>exact False.elim hq
  | brk=>exact False.elim hq
  | cont=>exact False.elim hq
end Internal
set_option Elab.async false
set_option linter.all false
set_option maxRecDepth 100000
namespace Internal
open PySem PySem.Spec PyProof.Rows
noncomputable def t0:T7 × Str:=(⟨0,0,0,0,0,0,0⟩, "")
noncomputable def St3 (ts:List (T7 × Str)):Prop:=∀ t ∈ ts,t.2=("standing" : Str)\/t.2=("settled" : Str)\/t.2=("broken" : Str)
noncomputable def zjp (w:Int) (ts:List (T7 × Str)):Prop:=∀ t ∈ ts,(0<=t.1.w/\t.1.w < w)/\(1<=t.1.u/\t.1.u<=1000000)/\(0<=t.1.r/\t.1.r<=2)
theorem zcW {α:Type} {xs:List α} {n:Nat} {x y:α} (h:y ∈ xs.set n x):y ∈ xs\/y=x:=by
 rcases List.mem_or_eq_of_mem_set h with h | h
 ·exact .inl h
 ·exact .inr h
theorem zjC {y:Int} {ts:List (T7 × Str)} (h:St3 ts):St3 (ts.map (zdl y)):=fun t ht=>by
 obtain ⟨u,hu,e⟩:=List.mem_map.mp ht
 rw [<- e]
 unfold zdl
 split
 ·exact .inr (.inl rfl)
 ·exact h u hu
noncomputable def chK (y:Int) (ts:List (T7 × Str)) (n a z:Int):Nat:=
 if ¬ (0<=n/\n < ts.length) then 1 else if (ts.getD n.toNat t0).2=("broken" : Str) then 2 else if (ts.getD n.toNat t0).2=("settled" : Str) then 3
 else if ¬ ((1<=a/\a<=1000000000)/\(0<=z/\z<=1000000)) then 4 else if z < y then 5 else 0
noncomputable def zfy:Nat->Str
 | 1 => "deal"
 | 2 => "gone"
 | 3 => "settled"
 | 4 => "terms"
 | 5 => "closed"
 | _ => ""
theorem zlC (y:Int) (ts:List (T7 × Str)) (n a z:Int):chK y ts n a z<=5:=by unfold chK; (repeat' split) <;> omega
theorem zeX (n:Nat):PyData.canLay0 (.str (zfy n))=true:=by
 unfold zfy
 split <;> decide +kernel
theorem zak {ts:List (T7 × Str)} {i:Nat} {t:T7 × Str} (h:ts[i]?=some t):ts.getD i t0=t:=by rw [List.getD_eq_getElem?_getD,h]; rfl
noncomputable def chg (t:T7 × Str) (a z:Int):T7 × Str:=({ t.1 with a:=a,y:=z },t.2)
noncomputable def zgX (C CN CG CS:Addr):Sp:=fun vs H Q E=>∃ (b d:Addr) (m w y n:Int) (ts:List (T7 × Str)),vs=[.ref b,.int n]/\Bk C H b d m w y ts /\
 ((∃ t,0<=n/\ts[n.toNat]?=some t/\¬ t.2=("broken" : Str)/\¬ t.2=("settled" : Str)/\∀ x,H x=some (.tup (zad t))->Q (.ref x) H) \/
  (¬ (0<=n/\n < ts.length)/\E (.ref CN) none H)\/(∃ t,0<=n/\ts[n.toNat]?=some t/\t.2=("broken" : Str)/\E (.ref CG) none H)\/(∃ t,0<=n/\ts[n.toNat]?=some t/\t.2=("settled" : Str)/\E (.ref CS) none H))
noncomputable def ziO (C CN CG CS CT CC:Addr):Sp:=fun vs H Q E=>∃ (b d:Addr) (m w y n a z:Int) (ts:List (T7 × Str)),vs=[.ref b,.int n,.int a,.int z]/\Bk C H b d m w y ts/\zjp w ts /\
 ((∃ t,chK y ts n a z=0/\ts[n.toNat]?=some t/\0<=n/\∀ H',Bk C H' b d m w y (ts.set n.toNat (chg t a z))->ButL d H H'->Q .non H') \/
  (chK y ts n a z=1/\∀ H',Same H H'->E (.ref CN) none H')\/(chK y ts n a z=2/\∀ H',Same H H'->E (.ref CG) none H')\/(chK y ts n a z=3/\∀ H',Same H H'->E (.ref CS) none H') \/
  (chK y ts n a z=4/\∀ H',Same H H'->E (.ref CT) none H')\/(chK y ts n a z=5/\∀ H',Same H H'->E (.ref CC) none H'))
noncomputable def zdx (t:T7 × Str):Due:=⟨t.1.p,t.1.q,t.1.r,t.1.a⟩
noncomputable def zbr (ts:List (T7 × Str)) (ns:List Int):List (T7 × Str):=ns.map fun n=>ts.getD n.toNat t0
noncomputable def zia (z:Int) (ts:List (T7 × Str)):List Due:=(zbr ts (zv (onP z) ts ts.length)).map zdx
noncomputable def zhG (C:Addr):Sp:=fun vs H Q _=>∃ (b d:Addr) (m w y z:Int) (ts:List (T7 × Str)),vs=[.ref b,.int z]/\Bk C H b d m w y ts/\ts.length<=1000/\∀ p H' vs,H p=none->Same H H'->H' p=some (.lst vs)->IsTs zcC H' vs (zia z ts)->Q (.ref p) H'
set_option genInjectivity false in
set_option genSizeOf false in
structure BR (C:Addr) (H:Hp) (b d ro:Addr) (m w y:Int) (ts:List (T7 × Str)) (as:List Addr):Prop where
 B:Bk C H b d m w y ts
 ro:H ro=some (.lst (as.map V.ref))
 R:DRows H as ts
 s:St3 ts
 g:zjp w ts
end Internal
set_option Elab.async false
set_option linter.all false
set_option maxRecDepth 100000
namespace Internal
open PySem PySem.W PyProof.Rows
section
variable {n:Nat} {kf:Nat->Int}
noncomputable def TOk (n:Nat) (kf:Nat->Int) {α:Type}:KasT α->(α->Prop)->Prop
 | .ret a,Q=>Q a
 | .ask i j k,Q=>i < n/\j < n/\TOk n kf (k (decide (kf i < kf j))) Q
theorem TOk.bind {α β:Type} {f:α->KasT β} {Q:β->Prop}:∀ {t:KasT α},TOk n kf t (fun a=>TOk n kf (f a) Q)->TOk n kf (t.bind f) Q
 | .ret _,h=>h
 | .ask i j k,h=>⟨h.1,h.2.1,TOk.bind (t:=k (decide (kf i < kf j))) h.2.2⟩
theorem TOk.mono {α:Type} {Q Q':α->Prop} (hq:∀ a,Q a->Q' a):∀ {t:KasT α},TOk n kf t Q->TOk n kf t Q'
 | .ret a,h=>hq a h
 | .ask i j k,h=>⟨h.1,h.2.1,TOk.mono hq (t:=k (decide (kf i < kf j))) h.2.2⟩
theorem TOk.wp {α:Type} {cmp:Nat->Nat->(Bool->Shared->Prop)->Shared->Prop} {Q:α->Shared->Prop} {s:Shared} (hc:∀ i j (C:Bool->Shared->Prop),i < n->j < n->C (decide (kf i < kf j)) s->cmp i j C s):∀ {t:KasT α},TOk n kf t (fun a=>Q a s)->t.kasWp cmp Q s
 | .ret _,h=>h
 | .ask i j k,h=>hc i j _ h.1 h.2.1 (TOk.wp hc (t:=k (decide (kf i < kf j))) h.2.2)
noncomputable def KP (kf:Nat->Int) (p:Array Nat) (i:Nat):Int:=kf (p.getD i 0)
noncomputable def PermR (n:Nat) (p:Array Nat):Prop:=p.toList.Perm (List.range n)
theorem PermR.size {p:Array Nat} (h:PermR n p):p.size=n:=by
 have:=h.length_eq
 rwa [Array.length_toList,List.length_range] at this
theorem PermR.lt {p:Array Nat} (h:PermR n p) (hn:0 < n) (i:Nat):p.getD i 0 < n:=by
 by_cases hi:i < p.size
 ·have:p.getD i 0=p[i]:=by simp [Array.getD,hi]
  rw [this]
  have hm:p[i] ∈ p.toList:=by simp
  exact List.mem_range.mp (h.mem_iff.mp hm)
 ·have:p.getD i 0=0:=by simp [Array.getD,hi]
  rw [this]; exact hn
theorem PermR.of {p q:Array Nat} (h:PermR n p) (hq:q.Perm p):PermR n q:=(Array.perm_iff_toList_perm.mp hq).trans h
theorem zbZ {p q:Array Nat} {i j:Nat} (h:p[i]?=q[j]?):p.getD i 0=q.getD j 0:=by
 rw [Array.getD_eq_getD_getElem?,Array.getD_eq_getD_getElem?,h]
theorem zel {p:Array Nat} {i j:Nat} (hj:j<=p.size) (k:Nat):KP kf (kas_rev p i j) k=if i<=k/\k < j then KP kf p (i + j - 1 - k) else KP kf p k:=by
 have e:=getElem?_mirror_all (i:=i) hj k
 unfold kas_rev KP
 by_cases h:i<=k/\k < j
 ·rw [if_pos h] at e ⊢; rw [zbZ e]
 ·rw [if_neg h] at e ⊢; rw [zbZ e]
theorem zcs {p:Array Nat} {i j:Nat} (h:PermR n p):PermR n (kas_rev p i j):=h.of (mirror_perm _ _ _ _)
theorem zfa {p:Array Nat} {src d:Nat} (hs:src < p.size) (hd:d<=src) (k:Nat):KP kf (bubble p src d) k=if k=src - d then KP kf p src else if src - d < k/\k<=src then KP kf p (k - 1) else KP kf p k:=by
 have e:=getElem?_bubble hs d hd k
 unfold KP
 by_cases h1:k=src - d
 ·rw [if_pos h1] at e ⊢; rw [zbZ e]
 ·rw [if_neg h1] at e ⊢
  by_cases h2:src - d < k/\k<=src
  ·rw [if_pos h2] at e ⊢; rw [zbZ e]
  ·rw [if_neg h2] at e ⊢; rw [zbZ e]
noncomputable def Up (kf:Nat->Int) (p:Array Nat) (k:Nat):Prop:=∀ i j,i<=j->j < k->KP kf p i<=KP kf p j
noncomputable def Down (kf:Nat->Int) (p:Array Nat) (k:Nat):Prop:=∀ i j,i<=j->j < k->KP kf p j<=KP kf p i
theorem Up.steps {p:Array Nat} {a:Nat}:∀ (b:Nat),Up kf p a->(∀ i,a<=i->i < b->1<=i->KP kf p (i - 1)<=KP kf p i)->Up kf p b
 | 0,_,_=>fun i j _ h=>by omega
 | b + 1,hu,hs=>by
  by_cases hb:b + 1<=a
  ·exact fun i j h1 h2=>hu i j h1 (by omega)
  ·have ih:=Up.steps b hu (fun i h1 h2 h3=>hs i h1 (by omega) h3)
   intro i j h1 h2
   by_cases hj:j=b
   ·subst hj
    by_cases hi:i=j
    ·subst hi; exact Int.le_refl _
    ·exact Int.le_trans (ih i (j - 1) (by omega) (by omega)) (hs j (by omega) (by omega) (by omega))
   ·exact ih i j h1 (by omega)
theorem zfJ {p:Array Nat} (hp:PermR n p) (h0:0 < n):∀ (f m:Nat),1<=m->TOk n kf (kas_asc p f m) fun r=>m<=r/\r<=m + f/\(∀ i,m<=i->i < r->KP kf p (i - 1)<=KP kf p i)/\(r < m + f->KP kf p r < KP kf p (r - 1))
 | 0,m,_=>⟨Nat.le_refl _,by omega,fun i h1 h2=>by omega,fun h=>by omega⟩
 | f + 1,m,hm=>by
  refine ⟨hp.lt h0 _,hp.lt h0 _,?_⟩
  by_cases h:KP kf p m < KP kf p (m - 1)
  ·rw [show decide (kf (p.getD m 0) < kf (p.getD (m - 1) 0))=true from decide_eq_true h]; dsimp only; rw [if_pos rfl]
   exact ⟨Nat.le_refl _,by omega,fun i h1 h2=>by omega,fun _=>h⟩
  ·rw [show decide (kf (p.getD m 0) < kf (p.getD (m - 1) 0))=false from decide_eq_false h]; dsimp only; rw [if_neg Bool.false_ne_true]
   refine TOk.mono (fun r hr=>?_) (zfJ hp h0 f (m + 1) (by omega))
   obtain ⟨r1,r2,r3,r4⟩:=hr
   refine ⟨by omega,by omega,fun i h1 h2=>?_,fun h=>r4 (by omega)⟩
   by_cases e:i=m
   ·subst e; exact Int.not_lt.mp h
   ·exact r3 i (by omega) h2
noncomputable def ziT (kf:Nat->Int) (p:Array Nat) (k q:Nat):Prop:=q + 1<=k/\∀ i,k - (q + 1)<=i->i < k->KP kf p i=KP kf p (k - 1)
theorem zf7 {p:Array Nat} {k q:Nat} (hk:k<=p.size) (ht:ziT kf p k q) (i:Nat):KP kf (kas_rev p (k - (q + 1)) k) i=KP kf p i:=by
 rw [zel hk]
 have:=ht.1
 split
 ·rw [ht.2 _ (by omega) (by omega),ht.2 i (by omega) (by omega)]
 ·rfl
theorem Down.congr {p p':Array Nat} {k:Nat} (h:Down kf p k) (e:∀ i,KP kf p' i=KP kf p i):Down kf p' k:=fun i j h1 h2=>by rw [e,e]; exact h i j h1 h2
theorem Down.more {p:Array Nat} {k:Nat} (h:Down kf p k) (hk:1<=k) (hl:KP kf p k<=KP kf p (k - 1)):Down kf p (k + 1):=fun i j h1 h2=>by
 by_cases hj:j=k
 ·subst hj
  by_cases hi:i=j
  ·subst hi; exact Int.le_refl _
  ·exact Int.le_trans hl (h i (j - 1) (by omega) (by omega))
 ·exact h i j h1 (by omega)
theorem zdw (h0:0 < n):∀ (f:Nat) (p:Array Nat) (m q:Nat),PermR n p->1<=m->m + f<=n->Down kf p m->ziT kf p m q->TOk n kf (kas_desc f p m q) fun r=>PermR n r.1/\m<=r.2.1/\r.2.1<=m + f/\Down kf r.1 r.2.1/\ziT kf r.1 r.2.1 r.2.2
 | 0,p,m,q,hp,_,_,hd,ht=>⟨hp,Nat.le_refl _,by show m<=m + 0; omega,hd,ht⟩
 | f + 1,p,m,q,hp,hm,hf,hd,ht=>by
  refine ⟨hp.lt h0 _,hp.lt h0 _,?_⟩
  have hsz:=hp.size
  by_cases h:KP kf p m < KP kf p (m - 1)
  ·rw [show decide (kf (p.getD m 0) < kf (p.getD (m - 1) 0))=true from decide_eq_true h]; dsimp only; rw [if_pos rfl]
   have hd1:=hd.more hm (Int.le_of_lt h)
   split
   ·have e:=zf7 (by omega) ht
    have hd2:=hd1.congr e
    refine TOk.mono (fun r hr=>⟨hr.1,by omega,by omega,hr.2.2.2.1,hr.2.2.2.2⟩) (zdw h0 f _ (m + 1) 0 (zcs hp) (by omega) (by omega) hd2 ⟨by omega,fun i h1 h2=>?_⟩)
    have:i=m:=by omega
    subst this; rfl
   ·refine TOk.mono (fun r hr=>⟨hr.1,by omega,by omega,hr.2.2.2.1,hr.2.2.2.2⟩) (zdw h0 f p (m + 1) 0 hp (by omega) (by omega) hd1 ⟨by omega,fun i h1 h2=>?_⟩)
    have:i=m:=by omega
    subst this; rfl
  ·rw [show decide (kf (p.getD m 0) < kf (p.getD (m - 1) 0))=false from decide_eq_false h]; dsimp only; rw [if_neg Bool.false_ne_true]
   refine ⟨hp.lt h0 _,hp.lt h0 _,?_⟩
   by_cases h':KP kf p (m - 1) < KP kf p m
   ·rw [show decide (kf (p.getD (m - 1) 0) < kf (p.getD m 0))=true from decide_eq_true h']; dsimp only; rw [if_pos rfl]
    exact ⟨hp,Nat.le_refl _,by show m<=m + (f + 1); omega,hd,ht⟩
   ·rw [show decide (kf (p.getD (m - 1) 0) < kf (p.getD m 0))=false from decide_eq_false h']; dsimp only; rw [if_neg Bool.false_ne_true]
    have he:KP kf p m=KP kf p (m - 1):=by
     have:=Int.not_lt.mp h
     have:=Int.not_lt.mp h'
     omega
    refine TOk.mono (fun r hr=>⟨hr.1,by omega,by omega,hr.2.2.2.1,hr.2.2.2.2⟩) (zdw h0 f p (m + 1) (q + 1) hp (by omega) (by omega) (hd.more hm (by omega)) ⟨by have:=ht.1; omega,fun i h1 h2=>?_⟩)
    have:=ht.1
    show KP kf p i=KP kf p (m + 1 - 1)
    rw [show m + 1 - 1=m by omega]
    by_cases e:i=m
    ·subst e; rfl
    ·rw [he]; exact ht.2 i (by omega) (by omega)
theorem zfE (h0:0 < n) {p:Array Nat} {m:Nat} (hp:PermR n p) (hm:1<=m) (hn:m<=n) (hd:Down kf p m):TOk n kf (kas_tail3 m n p) fun r=>PermR n r.2/\1<=r.1/\r.1<=n/\Up kf r.2 r.1:=by
 have hsz:=hp.size
 refine TOk.bind (TOk.mono (fun r hr=>?_) (zfJ (zcs hp) h0 (n - m) m hm))
 obtain ⟨r1,r2,r3,_⟩:=hr
 refine ⟨zcs hp,by show 1<=r; omega,by show r<=n; omega,Up.steps (a:=m) r (fun i j h1 h2=>?_) fun i h1 h2 _=>r3 i h1 h2⟩
 rw [zel (by omega),zel (by omega),if_pos ⟨by omega,by omega⟩,if_pos ⟨by omega,h2⟩]
 exact hd _ _ (by omega) (by omega)
theorem zdK (h0:0 < n) {p:Array Nat} {m:Nat} (hp:PermR n p) (hm:1<=m) (hn:m + 1<=n) (hd:Down kf p (m + 1)):TOk n kf (kas_descPart m n p) fun r=>PermR n r.2/\1<=r.1/\r.1<=n/\Up kf r.2 r.1:=by
 refine TOk.bind (TOk.mono (fun r hr=>?_) (zdw h0 (n - (m + 1)) p (m + 1) 0 hp (by omega) (by omega) hd ⟨by omega,fun i h1 h2=>?_⟩))
 ·obtain ⟨r1,r2,r3,r4,r5⟩:=hr
  have hsz:=r1.size
  split
  ·exact zfE h0 (zcs r1) (by omega) (by omega) (r4.congr (zf7 (by omega) r5))
  ·exact zfE h0 r1 (by omega) (by omega) r4
 ·have:i=m:=by omega
  subst this; rfl
theorem zi2 (h0:0 < n) {p:Array Nat} (hp:PermR n p):TOk n kf (kas_count n p) fun r=>PermR n r.2/\1<=r.1/\r.1<=n/\Up kf r.2 r.1:=by
 have hsz:=hp.size
 refine TOk.bind (TOk.mono (fun r hr=>?_) (zfJ hp h0 (n - 1) 1 (Nat.le_refl _)))
 obtain ⟨r1,r2,r3,r4⟩:=hr
 have hu:Up kf p r:=Up.steps (a:=1) r (fun i j h1 h2=>by
  have:i=j:=by omega
  subst this; exact Int.le_refl _) fun i h1 h2 _=>r3 i h1 h2
 by_cases he:r=n
 ·rw [if_pos (by rw [he]; exact beq_self_eq_true n)]
  exact ⟨hp,r1,by show r<=n; omega,hu⟩
 ·rw [if_neg (fun z=>he (beq_iff_eq.mp z))]
  have hlt:=r4 (by omega)
  split
  ·rename_i h1
   refine ⟨hp.lt h0 _,hp.lt h0 _,?_⟩
   by_cases h:KP kf p 0 < KP kf p (r - 1)
   ·rw [show decide (kf (p.getD 0 0) < kf (p.getD (r - 1) 0))=true from decide_eq_true h]; dsimp only; rw [if_pos rfl]
    exact ⟨hp,r1,by show r<=n; omega,hu⟩
   ·rw [show decide (kf (p.getD 0 0) < kf (p.getD (r - 1) 0))=false from decide_eq_false h]; dsimp only; rw [if_neg Bool.false_ne_true]
    have hall:∀ i,i < r->KP kf p i=KP kf p (r - 1):=fun i hi=>by
     have a1:=hu 0 i (by omega) hi
     have a2:=hu i (r - 1) (by omega) (by omega)
     have a3:=Int.not_lt.mp h
     omega
    have e:∀ i,KP kf (kas_rev p 0 r) i=KP kf p i:=fun i=>by
     rw [zel (by omega)]
     split
     ·rw [hall _ (by omega),hall i (by omega)]
     ·rfl
    refine zdK h0 (zcs hp) r1 (by omega) (Down.congr (p:=p) (fun i j h1 h2=>?_) e)
    by_cases hj:j=r
    ·subst hj
     by_cases hi:i=j
     ·subst hi; exact Int.le_refl _
     ·rw [hall i (by omega)]; omega
    ·rw [hall i (by omega),hall j (by omega)]; exact Int.le_refl _
  ·have hr1:r=1:=by omega
   subst hr1
   refine zdK h0 hp r1 (by omega) fun i j h1 h2=>?_
   by_cases hi:i=j
   ·subst hi; exact Int.le_refl _
   ·have e1:i=0:=by omega
    have e2:j=1:=by omega
    subst e1; subst e2; exact Int.le_of_lt hlt
theorem zdN (h0:0 < n) {p:Array Nat} {k:Nat} (hp:PermR n p) (hu:Up kf p k):∀ (f l r:Nat),l<=r->r<=k->r - l<=f->(∀ i,i < l->KP kf p i<=KP kf p k)->(∀ i,r<=i->i < k->KP kf p k < KP kf p i)->TOk n kf (kas_place p k f l r) fun m=>m<=k/\(∀ i,i < m->KP kf p i<=KP kf p k)/\∀ i,m<=i->i < k->KP kf p k < KP kf p i
 | 0,l,r,h1,h2,h3,h4,h5=>by
  have:l=r:=by omega
  subst this
  exact ⟨h2,h4,h5⟩
 | f + 1,l,r,h1,h2,h3,h4,h5=>by
  unfold kas_place
  split
  ·have:l=r:=by omega
   subst this
   exact ⟨h2,h4,h5⟩
  ·rename_i hge
   refine ⟨hp.lt h0 _,hp.lt h0 _,?_⟩
   by_cases h:KP kf p k < KP kf p ((l + r) / 2)
   ·rw [show decide (kf (p.getD k 0) < kf (p.getD ((l + r) / 2) 0))=true from decide_eq_true h]; dsimp only; rw [if_pos rfl]
    exact zdN h0 hp hu f l ((l + r) / 2) (by omega) (by omega) (by omega) h4 fun i a b=>Int.lt_of_lt_of_le h (hu _ _ a b)
   ·rw [show decide (kf (p.getD k 0) < kf (p.getD ((l + r) / 2) 0))=false from decide_eq_false h]; dsimp only; rw [if_neg Bool.false_ne_true]
    exact zdN h0 hp hu f ((l + r) / 2 + 1) r (by omega) (by omega) (by omega) (fun i a=>Int.le_trans (hu i ((l + r) / 2) (by omega) (by omega)) (Int.not_lt.mp h)) h5
theorem zhZ (h0:0 < n):∀ (f:Nat) (p:Array Nat) (k:Nat),PermR n p->k + f=n->Up kf p k->TOk n kf (kas_bin f p k) fun r=>PermR n r/\Up kf r n
 | 0,p,k,hp,hk,hu=>by
  have:k=n:=by omega
  subst this
  exact ⟨hp,hu⟩
 | f + 1,p,k,hp,hk,hu=>by
  refine TOk.bind (TOk.mono (fun l hl=>?_) (zdN h0 hp hu k 0 k (by omega) (Nat.le_refl _) (by omega) (fun i h=>by omega) fun i h1 h2=>by omega))
  obtain ⟨l1,l2,l3⟩:=hl
  have hks:k < p.size:=by rw [hp.size]; omega
  refine zhZ h0 f _ (k + 1) (hp.of (bubble_perm _ _ _)) (by omega) fun i j hij hj=>?_
  rw [zfa hks (by omega),zfa hks (by omega),show k - (k - l)=l by omega]
  repeat' split
  all_goals first
   | (exfalso; omega)
   | exact Int.le_refl _
   | exact l2 _ (by omega)
   | exact Int.le_of_lt (l3 _ (by omega) (by omega))
   | exact hu _ _ (by omega) (by omega)
theorem zjP (h0:0 < n):TOk n kf (kas_sort n) fun r=>PermR n r/\Up kf r n:=by
 refine TOk.bind (TOk.mono (fun r hr=>?_) (zi2 h0 (p:=List.toArray (List.range n)) (by unfold PermR; rw [List.toList_toArray])))
 obtain ⟨r1,r2,r3,r4⟩:=hr
 split
 ·exact zhZ h0 _ _ _ r1 (by omega) (by rw [show max r.1 1=r.1 by omega]; exact r4)
 ·have:r.1=n:=by omega
  rw [this] at r4
  exact ⟨r1,r4⟩
end
end Internal
set_option Elab.async false
set_option linter.all false
set_option maxRecDepth 100000
set_option maxHeartbeats 4000000
namespace Internal
open PySem PySem.W PySem.Calls PyProof.Rows
section
variable {prog:Program} {w:World} {A:Around} {E:Value->Shared->Prop}
end
end Internal
set_option Elab.async false
set_option linter.all false
set_option maxRecDepth 100000
set_option maxHeartbeats 4000000
namespace Internal
open PySem PySem.W PySem.Spec PySem.Calls PyProof.Rows
section
variable {prog:Program} {w:World} {A:Around} {E:Value->Shared->Prop}
theorem zh9 {s:Shared} {a:Addr} {vs:List Value} {n0:Nat} {kf:Nat->Int} {P:PySem.Fin->Shared->Prop} (ho:s.heap.get? a=some (seqObj "list" vs.toArray n0)) (h64:vs.length < 64)
  (ht:∀ h',(∀ b o,b ≠ a->s.heap.get? b=some o->h'.get? b=some o)->∃ fs,KatTups h' vs fs/\(∀ v ∈ fs,∃ i t,v=Value.int i t)/\fs.length=vs.length)
  (hask:∀ h',(∀ b o,b ≠ a->s.heap.get? b=some o->h'.get? b=some o)->∀ i j (C:Bool->Shared->Prop),i < vs.length->j < vs.length->C (decide (kf i < kf j)) { s with heap:=h' }->wpAny (model prog w) A (keyLt' (tuples' true) (vs.getD i Value.none) (vs.getD j Value.none)) C (fun _ _=>False) { s with heap:=h' })
  (h:∀ (p:List Nat) h' c,p.Perm (List.range vs.length)->(∀ i j,i<=j->j < vs.length->kf (p.getD i 0)<=kf (p.getD j 0))->(∀ b o,b ≠ a->s.heap.get? b=some o->h'.get? b=some o) ->
   h'.get? a=some (seqObj "list" (List.toArray (p.map fun i=>vs.getD i Value.none)) c)->P (.done (.ret .none)) { s with heap:=h' }) :
  wpAny (model prog w) A (Builtin.«list.sort» ⟨[.ref a],[]⟩) P E s:=by
 have ha:a < s.heap.objs.size:=Heap.lt_size ho
 have s1:=Heap.SameBut.update s.heap a (Obj.mapSeq fun _=>(#[]:Array Value))
 obtain ⟨e1,ho1⟩:∃ e1,(s.heap.update a (Obj.mapSeq fun _=>(#[]:Array Value))).get? a=some (seqObj "list" #[] e1):=⟨_,get?_update_seq ho fun _=>#[]⟩
 have keep:∀ b o,b ≠ a->s.heap.get? b=some o->(((s.heap.update a (Obj.mapSeq fun _=>(#[]:Array Value))).push (seqObj "tuple" vs.toArray 0)).push (seqObj "list" #[] 0)).get? b=some o:=fun b o n q=>
  Heap.get?_push_of_some _ (Heap.get?_push_of_some _ ((s1.2 b n).trans q))
 have ho3:(((s.heap.update a (Obj.mapSeq fun _=>(#[]:Array Value))).push (seqObj "tuple" vs.toArray 0)).push (seqObj "list" #[] 0)).get? a=some (seqObj "list" #[] e1):=Heap.get?_push_of_some _ (Heap.get?_push_of_some _ ho1)
 rw [list_sort_plain]
 refine wpAny_bind (listItems_at ho rfl ?_)
 refine wpAny_bind (listUpdate_at ho rfl ?_ (by rw [List.size_toArray,sizeLine_eq]; omega) (Nat.zero_le _))
 refine wpAny_bind (seqEpoch_at ho1 rfl ?_)
 refine wpAny_bind (wpAny_newTuple ?_ (by show vs.length<=_; rw [sizeLine_eq]; omega))
 refine wpAny_bind (wpAny_newList ?_ (Nat.zero_le _))
 refine wpAny_holding ?_
 show wpAny (model prog w) A _ P E { s with heap:=((s.heap.update a (Obj.mapSeq fun _=>(#[]:Array Value))).push (seqObj "tuple" vs.toArray 0)).push (seqObj "list" #[] 0) }
 dsimp only
 generalize ((s.heap.update a (Obj.mapSeq fun _=>(#[]:Array Value))).push (seqObj "tuple" vs.toArray 0)).push (seqObj "list" #[] 0)=h3 at *
 have fin:∀ (out:List Value) (p:List Nat),out.length < 64->p.Perm (List.range vs.length)->(∀ i j,i<=j->j < vs.length->kf (p.getD i 0)<=kf (p.getD j 0))->out=(p.map fun i=>vs.getD i Value.none) ->
   P (.done (.ret .none)) { s with heap:=h3.update a (Obj.mapSeq fun _=>List.toArray out) }:=fun out p _ hp hs he=>by
  have s2:=Heap.SameBut.update h3 a (Obj.mapSeq fun _=>List.toArray out)
  obtain ⟨c2,hc2⟩:∃ c2,(h3.update a (Obj.mapSeq fun _=>List.toArray out)).get? a=some (seqObj "list" (List.toArray out) c2):=⟨_,get?_update_seq ho3 fun _=>List.toArray out⟩
  refine h p _ c2 hp hs (fun b o n q=>(s2.2 b n).trans (keep b o n q)) ?_
  rw [<- he]
  exact hc2
 by_cases h2:2<=vs.length
 ·have hn2:¬ vs.toArray.size < 2:=by rw [List.size_toArray]; omega
  rw [if_neg hn2,if_neg hn2]
  obtain ⟨fs,t1,t2,t3⟩:=ht h3 keep
  refine wpAny_bind (kat_kind (T:=.type "int") (s:={ s with heap:=h3 }) t1 (by omega) (fun v hv=>?_) (by rfl) ?_)
  ·obtain ⟨i,t,rfl⟩:=t2 v hv
   exact .now
  rw [show (Value.type "int" != Value.type "tuple")=true from by rfl]
  have tree:(kas_sort vs.length).kasWp (kas_ask prog w A (tuples' true) vs) (fun p s'=>s'={ s with heap:=h3 }/\PermR vs.length p/\Up kf p vs.length) { s with heap:=h3 }:=
   TOk.wp (n:=vs.length) (kf:=kf) (fun i j C hi hj hc=>hask h3 keep i j C hi hj hc) (TOk.mono (fun p hp=>⟨rfl,hp.1,hp.2⟩) (zjP (by omega)))
  refine wpAny_bind (wpAny_mono (kat_run (Q:=fun st' s'=>∃ p:Array Nat,p.size=vs.length/\arrOf st'=p.map (kas_item (vs.toArray.zip vs.toArray))/\failedOf st'=none/\s'={ s with heap:=h3 }/\PermR vs.length p/\Up kf p vs.length)
   rfl h2 h64 (fun p' st' s' a1 a2 a3 a4=>⟨p',a1,a2,a3,a4⟩) tree) ?_ fun _ _ x=>x)
  rintro ⟨⟨⟩,st'⟩ s' ⟨p,hp,har,hf,rfl,hpr,hup⟩
  try dsimp only
  have hout:=kat_snds rfl har
  have hsz:(List.toArray (p.toList.map fun i=>vs.getD i Value.none)).size=vs.length:=by rw [List.size_toArray,List.length_map,Array.length_toList,hp]
  rw [hout]
  refine wpAny_bind (seqEpoch_at ho3 rfl ?_)
  refine wpAny_bind (listUpdate_at ho3 rfl ?_ (Nat.zero_le _) (Nat.le_trans (Nat.le_of_eq hsz) (by rw [sizeLine_eq]; omega)))
  rw [hf]
  simp only [bne_self_eq_false,Bool.false_eq_true,if_false]
  refine wpAny_pure (fin _ p.toList (by rw [List.length_map,Array.length_toList,hp]; exact h64) hpr (fun i j hij hj=>?_) rfl)
  have:=hup i j hij hj
  unfold KP at this
  simpa [Array.getD_eq_getD_getElem?,List.getD_eq_getElem?_getD] using this
 ·have hn2:vs.toArray.size < 2:=by rw [List.size_toArray]; omega
  rw [if_pos hn2,if_pos hn2]
  refine wpAny_bind (wpAny_pure ?_)
  refine wpAny_bind (wpAny_pure ?_)
  try dsimp only
  have hout:(Array.map (fun x:Value × Value=>x.2) (vs.toArray.zip vs.toArray))=List.toArray vs:=by
   apply Array.toList_inj.mp
   rw [Array.toList_map,Array.toList_zip]
   exact List.map_snd_zip (Nat.le_refl _)
  have hsz:(List.toArray vs).size=vs.length:=by rw [List.size_toArray]
  refine wpAny_bind (seqEpoch_at ho3 rfl ?_)
  rw [show (Array.map (fun x:Value × Value=>x.2) (arrOf (SortSt.mk' general' (vs.toArray.zip vs.toArray) #[] 7 none)))=List.toArray vs from hout]
  refine wpAny_bind (listUpdate_at ho3 rfl ?_ (Nat.zero_le _) (Nat.le_trans (Nat.le_of_eq hsz) (by rw [sizeLine_eq]; omega)))
  simp only [bne_self_eq_false,Bool.false_eq_true,if_false]
  refine wpAny_pure (fin vs (List.range vs.length) h64 (List.Perm.refl _) (fun i j hij hj=>?_) ?_)
  ·obtain rfl:i=j:=by omega
   exact Int.le_refl _
  ·refine List.ext_getElem (by rw [List.length_map,List.length_range]) fun i h1 h2=>?_
   rw [List.getElem_map,List.getElem_range,List.getD_eq_getElem?_getD,List.getElem?_eq_getElem h1]; rfl
theorem zhc {s:Shared} {l:Addr} {vs:List Value} {kf:Nat->Int} {Q:Value->Shared->Prop} (hl:s.heap.IsList l vs.toArray) (h64:vs.length < 64)
  (ht:∀ h',(∀ b o,s.heap.get? b=some o->h'.get? b=some o)->∃ fs,KatTups h' vs fs/\(∀ v ∈ fs,∃ i t,v=Value.int i t)/\fs.length=vs.length)
  (hask:∀ h',(∀ b o,s.heap.get? b=some o->h'.get? b=some o)->∀ i j (C:Bool->Shared->Prop),i < vs.length->j < vs.length->C (decide (kf i < kf j)) { s with heap:=h' }->wpAny (model prog w) A.in1.in1 (keyLt' (tuples' true) (vs.getD i Value.none) (vs.getD j Value.none)) C (fun _ _=>False) { s with heap:=h' })
  (h:∀ (p:List Nat) h' D c,p.Perm (List.range vs.length)->(∀ i j,i<=j->j < vs.length->kf (p.getD i 0)<=kf (p.getD j 0))->(∀ b o,s.heap.get? b=some o->h'.get? b=some o)->s.heap.objs.size < D ->
   h'.get? D=some (seqObj "list" (List.toArray (p.map fun i=>vs.getD i Value.none)) c)->Q (.ref D) { s with heap:=h' }) :
  wpAny (model prog w) A (call (.builtin "sorted") [.ref l]) Q E s:=by
 refine Calls.call_function_entry kind_sorted plain_sorted entry_sorted (args_sorted1 _) ?_
 unfold Builtin.«sorted»
 refine wpAny_bind (m:=checkCount "sorted" 1 1 _) (wpAny_pure ?_)
 refine wpAny_bind (collect_list hl ?_ (by rw [sizeLine_eq]; omega))
 refine wpAny_bind (wpAny_newList ?_ (by rw [sizeLine_eq]; omega))
 have hsz:((s.heap.push (seqObj "list" #[] 0)).update s.heap.objs.size (Obj.mapSeq (· ++ vs.toArray))).objs.size=s.heap.objs.size + 1:=by
  rw [Heap.size_update,size_push']
 have hoL:(((s.heap.push (seqObj "list" #[] 0)).update s.heap.objs.size (Obj.mapSeq (· ++ vs.toArray))).push (seqObj "list" vs.toArray 0)).get? (s.heap.objs.size + 1)=some (seqObj "list" vs.toArray 0):=by
  rw [<- hsz]; exact Heap.get?_push_size _ rfl
 have keep:∀ b o,s.heap.get? b=some o->(((s.heap.push (seqObj "list" #[] 0)).update s.heap.objs.size (Obj.mapSeq (· ++ vs.toArray))).push (seqObj "list" vs.toArray 0)).get? b=some o:=fun b o q=>by
  have hlt:b < s.heap.objs.size:=Heap.lt_size q
  rw [Heap.get?_push_ne _ _ _ (by rw [hsz]; exact Nat.ne_of_lt (Nat.lt_succ_of_lt hlt)),Heap.get?_update_ne _ _ _ _ (Nat.ne_of_lt hlt),Heap.get?_push_ne _ _ _ (Nat.ne_of_lt hlt)]
  exact q
 have ne:∀ b o,s.heap.get? b=some o->b ≠ s.heap.objs.size + 1:=fun b o q=>Nat.ne_of_lt (Nat.lt_succ_of_lt (Heap.lt_size q))
 show wpAny _ _ _ _ _ { s with heap:=((s.heap.push (seqObj "list" #[] 0)).update s.heap.objs.size (Obj.mapSeq (· ++ vs.toArray))).push (seqObj "list" vs.toArray 0) }
 rw [hsz]
 refine wpAny_bind (wpAny_holding (wpAny_call_entry slot_list_sort ⟨_,hoL,rfl⟩ entry_list_sort ?body (args_list_sort _)))
 case body=>
  refine zh9 (kf:=kf) (s:={ s with heap:=((s.heap.push (seqObj "list" #[] 0)).update s.heap.objs.size (Obj.mapSeq (· ++ vs.toArray))).push (seqObj "list" vs.toArray 0) }) hoL h64
   (fun h' k=>ht h' fun b o q=>k b o (ne b o q) (keep b o q)) (fun h' k=>hask h' fun b o q=>k b o (ne b o q) (keep b o q)) fun p h' c hp hs k1 k2=>?_
  exact ⟨_,rfl,wpAny_pure ⟨_,rfl,h p h' _ c hp hs (fun b o q=>k1 b o (ne b o q) (keep b o q)) (Nat.lt_succ_self _) k2⟩⟩
end
noncomputable def Tup3 (h:Heap) (v:Value) (x:Int × Int × Int):Prop:=∃ (a:Addr) (ob:Obj) (t u r:Tok) (n:Nat),v=.ref a/\h.get? a=some ob/\ob.cls=.type "tuple" /\ ob.data=.seq #[.int x.1 t,.int x.2.1 u,.int x.2.2 r] n
theorem Tup3.mono {h h':Heap} {v:Value} {x:Int × Int × Int} (k:∀ b o,h.get? b=some o->h'.get? b=some o) (q:Tup3 h v x):Tup3 h' v x:=by
 obtain ⟨a,ob,t,u,r,n,e,h1,h2,h3⟩:=q
 exact ⟨a,ob,t,u,r,n,e,k _ _ h1,h2,h3⟩
theorem zfQ {h:Heap}:∀ (ks:List Value),(∀ (i:Nat) (v:Value),ks[i]?=some v->∃ x,Tup3 h v x)->∃ fs,KatTups h ks fs/\(∀ v ∈ fs,∃ i t,v=Value.int i t)/\fs.length=ks.length
 | [],_=>⟨[],.nil,(fun _ z=>nomatch z),rfl⟩
 | v :: ks,hk=>by
  obtain ⟨x,a,ob,t,u,r,n,rfl,h1,h2,h3⟩:=hk 0 v rfl
  obtain ⟨fs,f1,f2,f3⟩:=zfQ ks fun i v e=>hk (i + 1) v e
  refine ⟨.int x.1 t :: fs,.cons h1 h2 h3 rfl f1,fun v hv=>?_,by rw [List.length_cons,List.length_cons,f3]⟩
  rcases List.mem_cons.mp hv with rfl | hv
  ·exact ⟨_,_,rfl⟩
  ·exact f2 v hv
noncomputable def key3 (x:Int × Int × Int):Int:=x.1 * 1000000 + x.2.1
theorem zkn {prog:Program} {w:World} {A:Around} {s:Shared} {v v':Value} {x x':Int × Int × Int} {C:Bool->Shared->Prop} (h1:Tup3 s.heap v x) (h2:Tup3 s.heap v' x') (b1:0<=x.2.1/\x.2.1 < 1000000) (b2:0<=x'.2.1/\x'.2.1 < 1000000) (he:x.2.1=x'.2.1->x=x')
  (h:C (decide (key3 x < key3 x')) s):wpAny (model prog w) A (keyLt' (tuples' true) v v') C (fun _ _=>False) s:=by
 obtain ⟨a,ob,t,u,r,n,rfl,a1,a2,a3⟩:=h1
 obtain ⟨b,oc,t',u',r',n',rfl,c1,c2,c3⟩:=h2
 refine kat_lt a1 a3 c1 c3 ?_
 show KatLex prog w A true (decide (3 < 3)) C [(.int x.1 t,.int x'.1 t'),(.int x.2.1 u,.int x'.2.1 u'),(.int x.2.2 r,.int x'.2.2 r')] 0 s
 unfold key3 at h
 refine kat_cons (wpAny_eqBool_int ?_)
 by_cases e:x.1=x'.1
 ·rw [show (x.1 == x'.1)=true from beq_iff_eq.mpr e]
  refine kat_yes (kat_cons (wpAny_eqBool_int ?_))
  by_cases e2:x.2.1=x'.2.1
  ·rw [show (x.2.1 == x'.2.1)=true from beq_iff_eq.mpr e2]
   refine kat_yes (kat_cons (wpAny_eqBool_int ?_))
   have e3:=he e2
   rw [show (x.2.2 == x'.2.2)=true from beq_iff_eq.mpr (by rw [e3])]
   refine kat_yes (kat_nil ?_)
   have:decide (x.1 * 1000000 + x.2.1 < x'.1 * 1000000 + x'.2.1)=decide (3 < 3):=decide_eq_decide.mpr (by omega)
   rw [this] at h
   exact h
  ·rw [show (x.2.1 == x'.2.1)=false from beq_eq_false_iff_ne.mpr e2]
   refine kat_no ?_
   show wpAny _ _ (oneLt' false _ _) _ _ _
   have:decide (x.1 * 1000000 + x.2.1 < x'.1 * 1000000 + x'.2.1)=decide (x.2.1 < x'.2.1):=decide_eq_decide.mpr (by omega)
   rw [this] at h
   exact kat_one _ _ (PyProof.Rows.lt_int h)
 ·rw [show (x.1 == x'.1)=false from beq_eq_false_iff_ne.mpr e]
  refine kat_no ?_
  show wpAny _ _ (oneLt' true _ _) _ _ _
  have:decide (x.1 * 1000000 + x.2.1 < x'.1 * 1000000 + x'.2.1)=decide (x.1 < x'.1):=decide_eq_decide.mpr (by omega)
  rw [this] at h
  exact oneLt_int h
noncomputable def e3V (x:Int × Int × Int):List V:=[.int x.1,.int x.2.1,.int x.2.2]
noncomputable def zeu (xs:List (Int × Int × Int)):Prop:=(∀ x ∈ xs,0<=x.2.1/\x.2.1 < 1000000)/\∀ x ∈ xs,∀ y ∈ xs,x.2.1=y.2.1->x=y
noncomputable def zcQ (K:PySem.W.Frag):List V->Hp->VK->Prop:=fun vs H Q=>∃ (a:Addr) (us:List V) (xs:List (Int × Int × Int)),vs=[.ref a]/\SqL K H a us/\IsTs e3V H us xs/\xs.length < 64/\zeu xs /\
 ∀ l us' xs',H l=none->xs'.Perm xs->xs'.Pairwise (fun a b=>key3 a<=key3 b)->IsTs e3V H us' xs'->Q (.ref l) (upd H l (.lst us'))
theorem zfi {H:Hp} {us:List V} {xs:List (Int × Int × Int)} (h:IsTs e3V H us xs):∀ p:List Nat,(∀ i ∈ p,i < xs.length)->IsTs e3V H (p.map fun i=>us.getD i .non) (p.map fun i=>xs.getD i (0,0,0))
 | [],_=>trivial
 | i :: p,hp=>by
  obtain ⟨x,hx⟩:=zu (hp i List.mem_cons_self)
  obtain ⟨a,ha,ht⟩:=h.getI hx
  rw [List.map_cons,List.map_cons]
  refine ⟨⟨a,?_,?_⟩,zfi h p fun j hj=>hp j (List.mem_cons_of_mem _ hj)⟩
  ·rw [List.getD_eq_getElem?_getD,ha]; rfl
  ·rw [List.getD_eq_getElem?_getD,hx]; exact ht
theorem zfh {us:List V} {its:List Value} (h:Vals us its):∀ p:List Nat,(∀ i ∈ p,i < us.length)->Vals (p.map fun i=>us.getD i .non) (p.map fun i=>its.getD i Value.none)
 | [],_=>.nil
 | i :: p,hp=>by
  rw [List.map_cons,List.map_cons]
  refine .cons ?_ (zfh h p fun j hj=>hp j (List.mem_cons_of_mem _ hj))
  obtain ⟨x,hx⟩:=zu (hp i List.mem_cons_self)
  obtain ⟨v,hv,r⟩:=h.get hx
  rw [List.getD_eq_getElem?_getD,List.getD_eq_getElem?_getD,hx,hv]
  exact r
theorem zdq {X:Cx}:CallR X (.builtin "sorted") (zcQ X.K):=by
 intro pins s σ H ys us0 Q I r h
 obtain ⟨a,us,xs,rfl,hq,hI,hl,⟨hb,hap⟩,q⟩:=h
 obtain ⟨u,rfl,r1⟩:=vals1 r
 cases r1
 obtain ⟨its,rv,pl,hil,hlt⟩:=I.walk hq
 have hul:=hI.length
 have tup:∀ (i:Nat),i < xs.length->Tup3 s.heap (its.getD i Value.none) (xs.getD i (0,0,0)):=fun i hi=>by
  obtain ⟨x,hx⟩:=zu hi
  obtain ⟨b,hb1,ht⟩:=hI.getI hx
  obtain ⟨v,hv,rb⟩:=rv.get hb1
  cases rb
  obtain ⟨tis,tr,⟨o,e,hc,n,hd⟩,_⟩:=I.tuple (SqT.of ht)
  rw [List.getD_eq_getElem?_getD,List.getD_eq_getElem?_getD,hx,hv]
  match tis,tr with
  | [_,_,_],.cons ⟨t1,rfl⟩ (.cons ⟨t2,rfl⟩ (.cons ⟨t3,rfl⟩ .nil))=>exact ⟨b,o,t1,t2,t3,n,rfl,e,hc,hd⟩
 have mem:∀ i,i < xs.length->xs.getD i (0,0,0) ∈ xs:=fun i hi=>by
  obtain ⟨x,hx⟩:=zu hi
  rw [List.getD_eq_getElem?_getD,hx]
  exact List.mem_of_getElem? hx
 have hlen:its.length=xs.length:=by rw [hil]; exact hul
 refine zhc (vs:=its) (kf:=fun i=>key3 (xs.getD i (0,0,0))) pl (by omega) (fun h' k=>zfQ its fun i v hv=>?_) (fun h' k i j C hi hj hC=>?_) fun p h' D c hp hs k hD hget=>?_
 ·have hi:=(List.getElem?_eq_some_iff.mp hv).1
  have:=(tup i (by omega)).mono k
  rw [List.getD_eq_getElem?_getD,hv] at this
  exact ⟨_,this⟩
 ·exact zkn (s:={ s with heap:=h' }) ((tup i (by omega)).mono k) ((tup j (by omega)).mono k) (hb _ (mem i (by omega))) (hb _ (mem j (by omega))) (hap _ (mem i (by omega)) _ (mem j (by omega))) hC
 ·rw [hlen] at hp hs
  have hpl:p.length=xs.length:=by rw [hp.length_eq,List.length_range]
  have hpm:∀ i ∈ p,i < xs.length:=fun i hi=>List.mem_range.mp (hp.mem_iff.mp hi)
  have J:Inv X pins σ (upd H D (.lst (p.map fun i=>us.getD i .non))) { s with heap:=h',toks:=s.toks }:=I.laid (fun b o z=>k b o z) (Nat.le_of_lt hD) ⟨by rw [List.length_map]; exact zbQ (by omega),_,c,zfh rv p (fun i hi=>by rw [hul]; exact hpm i hi),hget⟩
  refine ⟨.ref D,_,J,rfl,q D _ (p.map fun i=>xs.getD i (0,0,0)) (I.hok.fresh (Nat.le_of_lt hD)) ?_ ?_ (zfi hI p hpm)⟩
  ·have e:(List.range xs.length).map (fun i=>xs.getD i (0,0,0))=xs:=by
    refine List.ext_getElem (by rw [List.length_map,List.length_range]) fun i h1 h2=>?_
    rw [List.getElem_map,List.getElem_range,List.getD_eq_getElem?_getD,List.getElem?_eq_getElem h2]; rfl
   have:=hp.map fun i=>xs.getD i (0,0,0)
   rw [e] at this
   exact this
  ·refine List.pairwise_iff_getElem.mpr fun i j h1 h2 hij=>?_
   rw [List.length_map] at h1 h2
   rw [List.getElem_map,List.getElem_map]
   have:=hs i j (by omega) (by omega)
   have g:∀ k (h:k < p.length),p.getD k 0=p[k]:=fun k h=>by rw [List.getD_eq_getElem?_getD,List.getElem?_eq_getElem h]; rfl
   rw [g i h1,g j h2] at this
   exact this
theorem zgw {K:PySem.W.Frag} {H:Hp} {Q:VK} {a:Addr} {us:List V} {xs:List (Int × Int × Int)} (h:H a=some (.lst us)) (hI:IsTs e3V H us xs) (hl:xs.length < 64) (ha:zeu xs) (q:∀ l H' us' xs',H l=none->Same H H'->H' l=some (.lst us')->IsTs e3V H' us' xs'->xs'.Perm xs->xs'.Pairwise (fun a b=>key3 a<=key3 b)->Q (.ref l) H'):zcQ K [.ref a] H Q:=
 ⟨a,us,xs,rfl,.of h,hI,hl,ha,fun l us' xs' fl hp hs hI'=>q l _ us' xs' fl (Same.new fl _) zK (hI'.same (Same.new fl _)) hp hs⟩
theorem ziu {xs ys zs:List (Int × Int × Int)} (ha:zeu xs) (h1:ys.Perm xs) (h2:zs.Perm xs) (s1:ys.Pairwise (fun a b=>key3 a<=key3 b)) (s2:zs.Pairwise (fun a b=>key3 a<=key3 b)):ys=zs:=by
 refine List.Perm.eq_of_pairwise (fun a b hy hz k1 k2=>?_) s1 s2 (h1.trans h2.symm)
 have ma:=h1.mem_iff.mp hy
 have mb:=h2.mem_iff.mp hz
 have c1:=ha.1 a ma
 have c2:=ha.1 b mb
 refine ha.2 a ma b mb ?_
 unfold key3 at k1 k2
 omega
end Internal
set_option Elab.async false
set_option linter.all false
set_option maxRecDepth 100000
namespace Internal
open PySem PySem.Spec PyProof.Rows
noncomputable def zcj (t:T7 × Str) (m:Int) (j:Nat):Int:=if t.2=("standing" : Str)/\t.1.w=(j:Int) then (if t.1.p=m then t.1.u else if t.1.q=m then -t.1.u else 0) else 0
noncomputable def zbu:List (T7 × Str)->Int->Nat->Int
 | [],_,_=>0
 | t :: ts,m,j=>zcj t m j + zbu ts m j
theorem ziJ (ts us:List (T7 × Str)) (m:Int) (j:Nat):zbu (ts ++ us) m j=zbu ts m j + zbu us m j:=by
 induction ts with
 | nil=>show zbu us m j=0 + zbu us m j; omega
 | cons t ts ih=>show zcj t m j + zbu (ts ++ us) m j=zcj t m j + zbu ts m j + zbu us m j; rw [ih]; omega
theorem zeZ {ts:List (T7 × Str)} {i:Nat} {t:T7 × Str} (h:ts[i]?=some t) (m:Int) (j:Nat):zbu (ts.take (i + 1)) m j=zbu (ts.take i) m j + zcj t m j:=by
 rw [List.take_succ,h,ziJ]
 show _ + (zcj t m j + 0)=_
 omega
noncomputable def zgV (C:Addr):Sp:=fun vs H Q _=>∃ (b d:Addr) (m y n:Int) (w:Nat) (ts:List (T7 × Str)),vs=[.ref b,.int n]/\Bk C H b d m (w:Int) y ts/\(∀ t ∈ ts,0<=t.1.w/\t.1.w < (w:Int))/\w<=1000/\∀ p H',H p=none->Same H H'->H' p=some (.lst ((vec w (zbu ts n)).map V.int))->Q (.ref p) H'
noncomputable def zbv (n:Nat) (t:T7 × Str) (m:Int):List (Int × Int × Int):=if t.2=("broken" : Str) then [] else if t.1.p=m then [(t.1.y,(n:Int),-t.1.a)] else if t.1.q=m then [(t.1.y,(n:Int),t.1.a)] else []
noncomputable def za9 (ts:List (T7 × Str)) (m:Int):Nat->List (Int × Int × Int)
 | 0=>[]
 | i + 1=>za9 ts m i ++ (match ts[i]? with | some t=>zbv i t m | none=>[])
section
variable {ts:List (T7 × Str)} {m:Int} {i:Nat}
theorem zcx {t:T7 × Str} (h:ts[i]?=some t):za9 ts m (i + 1)=za9 ts m i ++ zbv i t m:=by
 show za9 ts m i ++ (match ts[i]? with | some t=>zbv i t m | none=>[])=_
 rw [h]
theorem zit (n:Nat) (t:T7 × Str):(zbv n t m).length<=1:=by
 unfold zbv
 (repeat' split) <;> simp
theorem zbL:∀ i,(za9 ts m i).length<=i
 | 0=>Nat.le_refl _
 | i + 1=>by
  show (za9 ts m i ++ (match ts[i]? with | some t=>zbv i t m | none=>[])).length<=i + 1
  rw [List.length_append]
  have ih:=zbL i
  split
  ·rename_i t _
   have:=zit (m:=m) i t
   omega
  ·simp only [List.length_nil]; omega
theorem zcS {x:Int × Int × Int}:∀ {i},x ∈ za9 ts m i->∃ j t,j < i/\ts[j]?=some t/\x ∈ zbv j t m
 | 0,h=>nomatch h
 | i + 1,h=>by
  rcases List.mem_append.mp h with h | h
  ·obtain ⟨j,t,h1,h2,h3⟩:=zcS h
   exact ⟨j,t,by omega,h2,h3⟩
  ·split at h
   ·rename_i t ht
    exact ⟨i,t,by omega,ht,h⟩
   ·exact nomatch h
theorem zdV {j:Nat} {t:T7 × Str} {x:Int × Int × Int} (h:x ∈ zbv j t m):x.2.1=(j:Int):=by
 unfold zbv at h
 split at h
 ·exact nomatch h
 ·split at h
  ·rw [List.mem_singleton.mp h]
  ·split at h
   ·rw [List.mem_singleton.mp h]
   ·exact nomatch h
theorem zi5 {j:Nat} {t:T7 × Str} {x y:Int × Int × Int} (hx:x ∈ zbv j t m) (hy:y ∈ zbv j t m):x=y:=by
 unfold zbv at hx hy
 split at hx
 ·exact nomatch hx
 ·rename_i h0
  rw [if_neg h0] at hy
  split at hx
  ·rename_i h1
   rw [if_pos h1] at hy
   rw [List.mem_singleton.mp hx,List.mem_singleton.mp hy]
  ·rename_i h1
   rw [if_neg h1] at hy
   split at hx
   ·rename_i h2
    rw [if_pos h2] at hy
    rw [List.mem_singleton.mp hx,List.mem_singleton.mp hy]
   ·exact nomatch hx
theorem zcX (hi:i<=1000000):zeu (za9 ts m i):=by
 refine ⟨fun x hx=>?_,fun x hx y hy e=>?_⟩
 ·obtain ⟨j,t,h1,h2,h3⟩:=zcS hx
  rw [zdV h3]; omega
 ·obtain ⟨j,t,h1,h2,h3⟩:=zcS hx
  obtain ⟨j',t',h1',h2',h3'⟩:=zcS hy
  rw [zdV h3,zdV h3'] at e
  obtain rfl:j=j':=by omega
  rw [h2] at h2'; cases h2'
  exact zi5 h3 h3'
end
noncomputable def dsum:List (Int × Int × Int)->Int->Int
 | [],_=>0
 | x :: xs,z=>(if x.1=z then x.2.2 else 0) + dsum xs z
theorem zd3 (xs ys:List (Int × Int × Int)) (z:Int):dsum (xs ++ ys) z=dsum xs z + dsum ys z:=by
 induction xs with
 | nil=>show dsum ys z=0 + dsum ys z; omega
 | cons x xs ih=>show (if x.1=z then x.2.2 else 0) + dsum (xs ++ ys) z=(if x.1=z then x.2.2 else 0) + dsum xs z + dsum ys z; rw [ih]; omega
theorem zh1 {xs ys:List (Int × Int × Int)} (h:xs.Perm ys) (z:Int):dsum xs z=dsum ys z:=by
 induction h with
 | nil=>rfl
 | cons x _ ih=>show _ + dsum _ z=_ + dsum _ z; rw [ih]
 | swap x y l=>show (if y.1=z then y.2.2 else 0) + ((if x.1=z then x.2.2 else 0) + dsum l z)=(if x.1=z then x.2.2 else 0) + ((if y.1=z then y.2.2 else 0) + dsum l z); omega
 | trans _ _ h1 h2=>rw [h1,h2]
noncomputable def tsum (f:Int->Int):List Int->Int
 | []=>0
 | k :: ks=>f k + tsum f ks
theorem zd4 (f g:Int->Int):∀ ks,tsum (fun k=>f k + g k) ks=tsum f ks + tsum g ks
 | []=>rfl
 | k :: ks=>by show f k + g k + tsum (fun k=>f k + g k) ks=f k + tsum f ks + (g k + tsum g ks); rw [zd4 f g ks]; omega
theorem ze2:∀ ks,tsum (fun _=>0) ks=0
 | []=>rfl
 | k :: ks=>by show 0 + tsum (fun _=>0) ks=0; rw [ze2 ks]; rfl
theorem ziq (f:Int->Int) (ks:List Int) (k:Int):tsum f (ks ++ [k])=tsum f ks + f k:=by
 induction ks with
 | nil=>show f k + 0=0 + f k; omega
 | cons j ks ih=>show f j + tsum f (ks ++ [k])=f j + tsum f ks + f k; rw [ih]; omega
theorem zf0 {p c:Int}:∀ {ks:List Int},p ∉ ks->tsum (fun k=>if p=k then c else 0) ks=0
 | [],_=>rfl
 | k :: ks,h=>by
  show (if p=k then c else 0) + tsum _ ks=0
  rw [if_neg (fun z=>h (by rw [z]; exact List.mem_cons_self)),zf0 fun z=>h (List.mem_cons_of_mem _ z)]; rfl
theorem zd1 {p c:Int}:∀ {ks:List Int},ks.Nodup->p ∈ ks->tsum (fun k=>if p=k then c else 0) ks=c
 | [],_,h=>nomatch h
 | k :: ks,nd,h=>by
  obtain ⟨n1,n2⟩:=List.nodup_cons.mp nd
  show (if p=k then c else 0) + tsum _ ks=c
  by_cases e:p=k
  ·rw [if_pos e,zf0 (by rw [e]; exact n1)]; omega
  ·rw [if_neg e,zd1 n2 ((List.mem_cons.mp h).resolve_left e)]; omega
theorem even {ts:List (T7 × Str)} {ks:List Int} (nd:ks.Nodup) (hk:∀ t ∈ ts,t.1.p ∈ ks/\t.1.q ∈ ks/\t.1.p ≠ t.1.q) (z:Int):∀ i,tsum (fun k=>dsum (za9 ts k i) z) ks=0
 | 0=>ze2 ks
 | i + 1=>by
  cases ht:ts[i]? with
  | none=>
   have e:(fun k=>dsum (za9 ts k (i + 1)) z)=fun k=>dsum (za9 ts k i) z:=funext fun k=>by
    show dsum (za9 ts k i ++ (match ts[i]? with | some t=>zbv i t k | none=>[])) z=_
    rw [ht,List.append_nil]
   rw [e]; exact even nd hk z i
  | some t=>
   have e:(fun k=>dsum (za9 ts k (i + 1)) z)=fun k=>dsum (za9 ts k i) z + dsum (zbv i t k) z:=funext fun k=>by rw [zcx ht,zd3]
   rw [e,zd4,even nd hk z i]
   obtain ⟨m1,m2,m3⟩:=hk t (List.mem_of_getElem? ht)
   have e2:(fun k=>dsum (zbv i t k) z)=fun k=>(if t.1.p=k then (if t.2=("broken" : Str) then 0 else if t.1.y=z then -t.1.a else 0) else 0) + (if t.1.q=k then (if t.2=("broken" : Str) then 0 else if t.1.y=z then t.1.a else 0) else 0):=funext fun k=>by
    unfold zbv
    by_cases h0:t.2=("broken" : Str)
    ·rw [if_pos h0,if_pos h0,if_pos h0]
     show (0:Int)=_
     (repeat' split) <;> rfl
    ·rw [if_neg h0,if_neg h0,if_neg h0]
     by_cases h1:t.1.p=k
     ·rw [if_pos h1,if_pos h1,if_neg (show ¬ t.1.q=k from fun w=>m3 (h1.trans w.symm))]
      show (if t.1.y=z then -t.1.a else 0) + 0=_
      rfl
     ·rw [if_neg h1,if_neg h1]
      by_cases h2:t.1.q=k
      ·rw [if_pos h2,if_pos h2]
       show (if t.1.y=z then t.1.a else 0) + 0=0 + _
       omega
      ·rw [if_neg h2,if_neg h2]; rfl
   rw [e2,zd4,zd1 nd m1,zd1 nd m2]
   split
   ·rfl
   ·split <;> omega
noncomputable def zh2 (C:Addr):Sp:=fun vs H Q _=>∃ (b d:Addr) (m w y n:Int) (ts:List (T7 × Str)),vs=[.ref b,.int n]/\Bk C H b d m w y ts/\ts.length < 64/\∀ p H' us xs,H p=none->Same H H'->H' p=some (.lst us)->IsTs e3V H' us xs->xs.Perm (za9 ts n ts.length)->xs.Pairwise (fun a b=>key3 a<=key3 b)->Q (.ref p) H'
noncomputable abbrev FE:=Int ⊕ List Int
noncomputable def feV (H:Hp) (v:V):FE->Prop
 | .inl n=>v=.int n
 | .inr ns=>∃ a,v=.ref a/\H a=some (.tup (ns.map V.int))
noncomputable def Fls (H:Hp):List V->List FE->Prop
 | [],[]=>True
 | v :: vs,e :: es=>feV H v e/\Fls H vs es
 | _,_=>False
noncomputable def feD:FE->PyData
 | .inl n=>.int n
 | .inr ns=>.tuple (ns.map PyData.int)
section
variable {H H':Hp}
theorem Fls.ts {α:Type} {f:α->List V} {g:α->List Int} (e:∀ x,f x=(g x).map V.int):∀ {vs:List V} {xs:List α},IsTs f H vs xs->Fls H vs (xs.map fun x=>.inr (g x))
 | [],[],_=>trivial
 | [],_ :: _,h=>h.elim
 | _ :: _,[],h=>h.elim
 | _ :: _,x :: _,⟨⟨a,q,h⟩,r⟩=>⟨⟨a,q,by rw [<- e x]; exact h⟩,Fls.ts e r⟩
theorem zgu {K:PySem.W.Frag}:∀ ns:List Int,RepAll K H (ns.map V.int) (ns.map PyData.int)
 | []=>.nil
 | n :: ns=>.cons (.int n) (zgu ns)
theorem Fls.rep {K:PySem.W.Frag}:∀ {vs:List V} {es:List FE},Fls H vs es->RepAll K H vs (es.map feD)
 | [],[],_=>.nil
 | [],_ :: _,h=>h.elim
 | _ :: _,[],h=>h.elim
 | _ :: _,.inl n :: _,⟨h,r⟩=>by rw [show _=V.int n from h]; exact .cons (.int n) (Fls.rep r)
 | _ :: _,.inr ns :: _,⟨⟨a,e,h⟩,r⟩=>by rw [e]; exact .cons (.tup (.of h) (zgu ns)) (Fls.rep r)
end
theorem zdX:∀ es:List FE,PyData.depthAll (es.map feD)<=1
 | []=>by simp [PyData.depthAll]
 | .inl n :: es=>by have:=zdX es; simp [feD,PyData.depthAll,PyData.depth]; omega
 | .inr ns :: es=>by have:=zdX es; simp [feD,PyData.depthAll,PyData.depth,zck]; omega
set_option genInjectivity false in
set_option genSizeOf false in
structure ZE where
 t:Addr
 u:Addr
 e1:List FE
 e2:List FE
noncomputable def zmv (z:ZE):List V:=[.ref z.t,.ref z.u]
noncomputable def HZ (H:Hp) (z:ZE):Prop:=(∃ vs,H z.t=some (.lst vs)/\Fls H vs z.e1)/\∃ ws,H z.u=some (.lst ws)/\Fls H ws z.e2
set_option genInjectivity false in
set_option genSizeOf false in
structure HeldAt (H:Hp) (hl:Addr) (zs:List ZE):Prop where
 ls:∃ vs,H hl=some (.lst vs)/\IsTs zmv H vs zs
 hz:∀ z ∈ zs,HZ H z
 nd:(zs.map (·.t)).Nodup
 tu:∀ z ∈ zs,∀ z' ∈ zs,z.t ≠ z'.u
 n:∀ z ∈ zs,z.t ≠ hl/\z.u ≠ hl
noncomputable def e13:FE:=.inr [1,1,1]
end Internal
set_option Elab.async false
set_option linter.all false
set_option maxRecDepth 100000
namespace Internal
open PySem PySem.Spec PyProof.Rows
set_option genInjectivity false in
set_option genSizeOf false in
structure GT (m w y:Int) (t:T7):Prop where
 p0:0<=t.p
 p1:t.p < m
 q0:0<=t.q
 q1:t.q < m
 pq:t.p ≠ t.q
 w0:0<=t.w
 w1:t.w < w
 u0:1<=t.u
 u1:t.u<=1000000
 a0:1<=t.a
 a1:t.a<=1000000000
 y0:0<=t.y
 y1:t.y<=y + 4
 r0:0<=t.r
 r1:t.r<=2
noncomputable def GTs (m w y:Int) (ts:List (T7 × Str)):Prop:=∀ t ∈ ts,GT m w y t.1
noncomputable def Eqz (zs:List ZE):Prop:=∀ z ∈ zs,z.e1=z.e2
noncomputable def zhs:Sp:=fun vs H Q _=>∃ (ro:Addr) (n:Int) (ts:List (T7 × Str)) (as:List Addr),vs=[.ref ro,.int n]/\H ro=some (.lst (as.map V.ref))/\DRows H as ts/\ts.length < 64/\(∀ t ∈ ts,t.1.p ≠ t.1.q) /\
 ∀ p H' us xs,H p=none->Same H H'->H' p=some (.lst us)->IsTs e3V H' us xs->xs.Perm (za9 ts n ts.length)->xs.Pairwise (fun a b=>key3 a<=key3 b)->Q (.ref p) H'
set_option genInjectivity false in
set_option genSizeOf false in
structure HB (C:Addr) (H:Hp) (b d ro hl:Addr) (m w y:Int) (ts:List (T7 × Str)) (as:List Addr) (zs:List ZE):Prop where
 br:BR C H b d ro m w y ts as
 ht:HeldAt H hl zs
 eq:Eqz zs
 gt:GTs m w y ts
 tl:ts.length < 64
 zl:zs.length<=50000
 n1:hl ≠ d
 n2:hl ≠ ro
 n3:hl ∉ as
 n4:hl ≠ b
section
variable {C:Addr} {H H':Hp} {b d ro hl:Addr} {m w y:Int} {ts:List (T7 × Str)} {as:List Addr} {zs:List ZE}
end
noncomputable def e3I (x:Int × Int × Int):List Int:=[x.1,x.2.1,x.2.2]
theorem zhS (x:Int × Int × Int):e3V x=(e3I x).map V.int:=rfl
theorem zhy (n:Nat):(vec n fun i=>(i:Int)).Nodup:=by
 unfold vec
 exact List.pairwise_map.mpr (List.nodup_range.imp fun h e=>h (by omega))
theorem zgt {n:Nat} {k:Int} (h0:0<=k) (h1:k < n):k ∈ vec n fun i=>(i:Int):=by
 unfold vec
 exact List.mem_map.mpr ⟨k.toNat,List.mem_range.mpr (by omega),by omega⟩
set_option genInjectivity false in
set_option genSizeOf false in
structure LS (C:Addr) (H0 H:Hp) (b d ro hl:Addr) (m w y:Int) (ts:List (T7 × Str)) (as:List Addr) (zs:List ZE):Prop where
 hb:HB C H b d ro hl m w y ts as zs
 e0:Same H0 H
 f1:H0 d=none
 f2:H0 ro=none
 f3:H0 hl=none
 f6:H0 b=none
 f4:∀ c ∈ as,H0 c=none
 f5:∀ z ∈ zs,H0 z.t=none
 n:d ≠ ro
 nz:∀ z ∈ zs,(z.t ≠ d/\z.t ≠ ro/\z.t ∉ as)/\z.u ≠ d/\z.u ≠ ro/\z.u ∉ as
section
variable {C:Addr} {H0 H H':Hp} {b d ro hl:Addr} {m w y:Int} {ts:List (T7 × Str)} {as:List Addr} {zs:List ZE}
end
end Internal
set_option Elab.async false
set_option linter.all false
set_option maxRecDepth 100000
namespace Internal
open PySem PySem.Spec PyProof.Rows
noncomputable def zaP (m w:Int) (ts:List (T7 × Str)):Prop:=∀ t ∈ ts,TermOk m w 0 t.1
theorem ze7 {m w:Int} {ts:List (T7 × Str)} {n:Nat} {t:T7 × Str} (h:zaP m w ts) (ht:TermOk m w 0 t.1):zaP m w (ts.set n t):=fun u hu=>by
 rcases zcW hu with z | z
 ·exact h u z
 ·rw [z]; exact ht
theorem ze6 {m w:Int} {ts:List (T7 × Str)} {t:T7 × Str} (h:zaP m w ts) (ht:TermOk m w 0 t.1):zaP m w (ts ++ [t]):=fun u hu=>by
 rcases List.mem_append.mp hu with z | z
 ·exact h u z
 ·rw [List.mem_singleton.mp z]; exact ht
theorem zhI {m w y:Int} {ts:List (T7 × Str)} (h:zaP m w ts):zaP m w (ts.map (zdl y)):=fun t ht=>by
 obtain ⟨u,hu,e⟩:=List.mem_map.mp ht
 rw [<- e]
 unfold zdl
 split <;> exact h u hu
noncomputable def ctK (y:Int) (ts:List (T7 × Str)) (n z:Int):Nat:=
 if ¬ (0<=n/\n < ts.length) then 1 else if (ts.getD n.toNat t0).2=("broken" : Str) then 2 else if (ts.getD n.toNat t0).2=("standing" : Str) then 3
 else if ¬ (0<=z/\z<=1000000) then 4 else if z < y then 5 else 0
noncomputable def zgT:Nat->Str
 | 1 => "deal"
 | 2 => "gone"
 | 3 => "standing"
 | 4 => "terms"
 | 5 => "closed"
 | _ => ""
theorem zld (y:Int) (ts:List (T7 × Str)) (n z:Int):ctK y ts n z<=5:=by unfold ctK; (repeat' split) <;> omega
theorem zhM (n:Nat):PyData.canLay0 (.str (zgT n))=true:=by
 unfold zgT
 split <;> decide +kernel
noncomputable def swp (t:T7 × Str) (z:Int):T7:=⟨t.1.q,t.1.p,t.1.w,t.1.u,t.1.a,z,t.1.r⟩
theorem zhD {m w y z:Int} {t:T7 × Str} (h:TermOk m w 0 t.1) (z0:0<=z) (z1:z<=1000000) (yz:y<=z):TermOk m w y (swp t z):=⟨h.q0,h.q1,h.p0,h.p1,fun e=>h.pq e.symm,h.w0,h.w1,h.u0,h.u1,h.a0,h.a1,z0,z1,h.r0,h.r1,yz⟩
theorem zgj {m w:Int} {z:Int} {t:T7 × Str} (h:TermOk m w 0 t.1):zcR m (swp t z).p (swp t z).q:=⟨⟨h.q0,h.q1⟩,⟨h.p0,h.p1⟩,fun e=>h.pq e.symm⟩
theorem zgq {m w:Int} {z:Int} {t:T7 × Str} (h:TermOk m w 0 t.1) (hz:0<=z/\z<=1000000):zbV w (swp t z):=⟨⟨h.w0,h.w1⟩,⟨h.u0,h.u1⟩,⟨h.a0,h.a1⟩,hz,h.r0,h.r1⟩
set_option genInjectivity false in
set_option genSizeOf false in
structure BQ (C:Addr) (H:Hp) (b d ro:Addr) (m w y:Int) (ts:List (T7 × Str)) (as:List Addr):Prop where
 B:Bk C H b d m w y ts
 ro:H ro=some (.lst (as.map V.ref))
 R:DRows H as ts
 s:St3 ts
 g:zaP m w ts
theorem BQ.same {C:Addr} {H H':Hp} {b d ro:Addr} {m w y:Int} {ts:List (T7 × Str)} {as:List Addr} (h:BQ C H b d ro m w y ts as) (e:Same H H'):BQ C H' b d ro m w y ts as:=⟨h.B.same e,e.at h.ro,h.R.same e,h.s,h.g⟩
noncomputable def zhj (C CN CG CS:Addr):Sp:=fun vs H Q E=>∃ (b d:Addr) (m w y n:Int) (ts:List (T7 × Str)),vs=[.ref b,.int n]/\Bk C H b d m w y ts /\
 ((∃ t,0<=n/\ts[n.toNat]?=some t/\¬ t.2=("broken" : Str)/\¬ t.2=("standing" : Str)/\∀ x H',Same H H'->H' x=some (.tup [.int t.1.q,.int t.1.p,.int t.1.w,.int t.1.u,.int t.1.a,.int t.1.y,.int t.1.r,.str t.2])->Q (.ref x) H') \/
  (¬ (0<=n/\n < ts.length)/\E (.ref CN) none H)\/(∃ t,0<=n/\ts[n.toNat]?=some t/\t.2=("broken" : Str)/\E (.ref CG) none H)\/(∃ t,0<=n/\ts[n.toNat]?=some t/\t.2=("standing" : Str)/\E (.ref CS) none H))
noncomputable def zgO (C CN CG CS CT CC:Addr):Sp:=fun vs H Q E=>∃ (b d:Addr) (m w y n z:Int) (ts:List (T7 × Str)),vs=[.ref b,.int n,.int z]/\Bk C H b d m w y ts/\zaP m w ts/\ts.length<=1000 /\
 ((∃ t,ctK y ts n z=0/\ts[n.toNat]?=some t/\0<=n/\∀ H',Bk C H' b d m w y (ts ++ [(swp t z,("standing" : Str))])->ButL d H H'->Q (.int ts.length) H') \/
  (ctK y ts n z=1/\∀ H',Same H H'->E (.ref CN) none H')\/(ctK y ts n z=2/\∀ H',Same H H'->E (.ref CG) none H')\/(ctK y ts n z=3/\∀ H',Same H H'->E (.ref CS) none H') \/
  (ctK y ts n z=4/\∀ H',Same H H'->E (.ref CT) none H')\/(ctK y ts n z=5/\∀ H',Same H H'->E (.ref CC) none H'))
noncomputable def zio (C:Addr):Sp:=fun vs H Q _=>∃ (b d:Addr) (m w y:Int) (ts:List (T7 × Str)),vs=[.ref b]/\Bk C H b d m w y ts/\ts.length<=1000/\∀ p H',H p=none->Bk C H' b d m w (y + 1) (ts.map (zdl y))->(∀ c o,c ≠ d->c ≠ b->H c=some o->H' c=some o)->H' p=some (.lst ((zv (zY y) ts ts.length).map V.int))->Q (.ref p) H'
end Internal
set_option Elab.async false
set_option linter.all false
set_option maxRecDepth 100000
namespace Internal
open PySem PySem.Spec PyProof.Rows
section
variable {κ:Type} [DecidableEq κ]
noncomputable def zaM (kvs:List (κ × V)) (k:κ):Option V:=(kvs.find? fun kv=>decide (kv.1=k)).map (·.2)
noncomputable def zbN (kvs:List (κ × V)) (k:κ) (v:V):List (κ × V):=
 if (kvs.any fun kv=>decide (kv.1=k))=true then kvs.map (fun kv=>if kv.1=k then (kv.1,v) else kv) else kvs ++ [(k,v)]
theorem za1 {p:κ × V} {r:List (κ × V)} {k:κ} (e:p.1=k):zaM (p :: r) k=some p.2:=by simp [zaM,List.find?_cons,e]
theorem zaX {p:κ × V} {r:List (κ × V)} {k:κ} (e:¬ p.1=k):zaM (p :: r) k=zaM r k:=by simp [zaM,List.find?_cons,e]
theorem zcp (k:κ):∀ kvs:List (κ × V),(kvs.any fun kv=>decide (kv.1=k))=(zaM kvs k).isSome
 | []=>rfl
 | p :: r=>by
  rw [List.any_cons]
  by_cases e:p.1=k
  ·simp only [za1 e,decide_eq_true e,Bool.true_or,Option.isSome_some]
  ·rw [zaX e,decide_eq_false e,Bool.false_or]; exact zcp k r
theorem zfX (k j:κ) (y:V):∀ kvs:List (κ × V),zaM (kvs.map fun kv=>if kv.1=k then (kv.1,y) else kv) j=(zaM kvs j).map fun x=>if j=k then y else x
 | []=>rfl
 | p :: r=>by
  have ih:=zfX k j y r
  rw [List.map_cons]
  by_cases h:p.1=k
  ·rw [if_pos h]
   by_cases e:p.1=j
   ·rw [za1 (p:=(p.1,y)) e,za1 e,Option.map_some,if_pos (e.symm.trans h)]
   ·rw [zaX (p:=(p.1,y)) e,zaX e,ih]
  ·rw [if_neg h]
   by_cases e:p.1=j
   ·rw [za1 (p:=p) e,za1 e,Option.map_some,if_neg (fun z=>h (e.trans z))]
   ·rw [zaX (p:=p) e,zaX e,ih]
theorem ze3 (k j:κ) (y:V):∀ kvs:List (κ × V),zaM kvs k=none->zaM (kvs ++ [(k,y)]) j=if j=k then some y else zaM kvs j
 | [],_=>by
  by_cases e:k=j
  ·rw [if_pos e.symm]; exact za1 (p:=(k,y)) e
  ·rw [if_neg (fun z=>e z.symm)]; exact zaX (p:=(k,y)) e
 | p :: r,hn=>by
  rw [List.cons_append]
  have hk:¬ p.1=k:=fun z=>by rw [za1 z] at hn; cases hn
  rw [zaX hk] at hn
  have ih:=ze3 k j y r hn
  by_cases e:p.1=j
  ·rw [za1 e,za1 e,if_neg (fun z=>hk (e.trans z))]
  ·rw [zaX e,zaX e,ih]
theorem ziI (kvs:List (κ × V)) (k j:κ) (y:V):zaM (zbN kvs k y) j=if j=k then some y else zaM kvs j:=by
 unfold zbN
 by_cases a:(kvs.any fun kv=>decide (kv.1=k))=true
 ·rw [if_pos a,zfX]
  rw [zcp] at a
  by_cases e:j=k
  ·obtain ⟨x,hx⟩:=Option.isSome_iff_exists.mp a
   rw [if_pos e,e,hx,Option.map_some,if_pos rfl]
  ·rw [if_neg e]
   cases zaM kvs j with
   | none=>rfl
   | some x=>rw [Option.map_some,if_neg e]
 ·rw [if_neg a]
  refine ze3 k j y kvs ?_
  rw [zcp] at a
  cases q:zaM kvs k with
  | none=>rfl
  | some x=>rw [q] at a; exact (a rfl).elim
theorem zcH (kvs:List (κ × V)) (k:κ) (v:V):(zbN kvs k v).length<=kvs.length + 1:=by
 unfold zbN
 split
 ·rw [List.length_map]; omega
 ·rw [List.length_append,List.length_cons,List.length_nil]; omega
theorem RelO.isSome_eq {o:Option V} {u:Option Value} (r:RelO o u):o.isSome=u.isSome:=by
 cases o with
 | none=>cases u with
  | none=>rfl
  | some _=>exact (show False from r).elim
 | some _=>cases u with
  | none=>exact (show False from r).elim
  | some _=>rfl
theorem RelO.getD {o:Option V} {u:Option Value} {d:V} {d':Value} (r:RelO o u) (rd:RelV d d'):RelV (o.getD d) (u.getD d'):=by
 cases o with
 | none=>cases u with
  | none=>exact rd
  | some _=>exact (show False from r).elim
 | some _=>cases u with
  | none=>exact (show False from r).elim
  | some _=>exact r
theorem KV.val {kvs:List (κ × V)} {vs:List (κ × Value)} (r:KV kvs vs) (k:κ):RelO (zaM kvs k) (valueAt vs k):=by
 unfold KV at r
 induction r with
 | nil=>exact True.intro
 | @cons p q ps qs h t ih=>
  obtain ⟨h1,h2⟩:=h
  by_cases e:p.1=k
  ·have e':q.1=k:=h1.symm.trans e
   have b:valueAt (q :: qs) k=some q.2:=by simp [valueAt,List.find?_cons,e']
   rw [za1 e,b]; exact h2
  ·have e':¬ q.1=k:=fun z=>e (h1.trans z)
   have b:valueAt (q :: qs) k=valueAt qs k:=by simp [valueAt,List.find?_cons,e']
   rw [zaX e,b]; exact ih
theorem KV.any {kvs:List (κ × V)} {vs:List (κ × Value)} (r:KV kvs vs) (k:κ):(kvs.any fun kv=>decide (kv.1=k))=vs.any fun kv=>decide (kv.1=k):=by
 unfold KV at r
 induction r with
 | nil=>rfl
 | cons h t ih=>rw [List.any_cons,List.any_cons,ih,h.1]
theorem KV.repl {kvs:List (κ × V)} {vs:List (κ × Value)} (r:KV kvs vs) (k:κ) {y:V} {u:Value} (ry:RelV y u) :
  KV (kvs.map fun kv=>if kv.1=k then (kv.1,y) else kv) (vs.map fun kv=>if kv.1=k then (kv.1,u) else kv):=by
 unfold KV at r ⊢
 induction r with
 | nil=>exact .nil
 | @cons p q ps qs h t ih=>
  rw [List.map_cons,List.map_cons]
  refine .cons ?_ ih
  obtain ⟨h1,h2⟩:=h
  by_cases e:p.1=k
  ·rw [if_pos e,if_pos (h1.symm.trans e)]; exact ⟨h1,ry⟩
  ·rw [if_neg e,if_neg (fun z=>e (h1.trans z))]; exact ⟨h1,h2⟩
theorem KV.put {kvs:List (κ × V)} {vs:List (κ × Value)} (r:KV kvs vs) (k:κ) {y:V} {u:Value} (ry:RelV y u):KV (zbN kvs k y) (stored vs k u):=by
 unfold zbN stored
 rw [r.any k]
 by_cases e:(vs.any fun kv=>decide (kv.1=k))=true
 ·rw [if_pos e,if_pos e]; exact r.repl k ry
 ·rw [if_neg e,if_neg e]; exact Paired.snoc r ⟨rfl,ry⟩
theorem KV.length {kvs:List (κ × V)} {vs:List (κ × Value)} (r:KV kvs vs):kvs.length=vs.length:=Paired.length r
end
theorem zej {P:Program} {w:World} {k:Key} {u:Value} (r:RelV (kV k) u):(z7 P w).is k u=true:=by
 cases k with
 | inl i=>obtain ⟨t,e⟩:=(show ∃ t,u=Value.int i t from r); subst e; exact zge P w i t
 | inr x=>obtain ⟨t,e⟩:=(show ∃ t,u=Value.str x t from r); subst e; exact zgb P w x t
theorem zfb {P:Program} {w:World}:∀ {ks:List Key} {us:List Value},Vals (ks.map kV) us->ItemsAre (z7 P w) ks us
 | [],_,r=>by rw [List.map_nil] at r; cases r; exact .nil
 | k :: ks,_,r=>by
  rw [List.map_cons] at r
  cases r with
  | cons h t=>exact .cons (zej h) (zfb t)
noncomputable abbrev KT (H:Hp):List (List Key × V)->List (List Key × Addr × Value)->Prop:=Paired fun p q=>p.1=q.1/\H q.2.1=some (.tup (p.1.map kV))/\RelV p.2 q.2.2
theorem KT.val {H:Hp} {kvs:List (List Key × V)} {xs:List (List Key × Addr × Value)} (r:KT H kvs xs) (k:List Key):RelO (zaM kvs k) ((atKey xs k).map (·.2)):=by
 induction r with
 | nil=>exact True.intro
 | @cons p q ps qs h t ih=>
  obtain ⟨h1,_,h2⟩:=h
  by_cases e:p.1=k
  ·have e':q.1=k:=h1.symm.trans e
   have b:atKey (q :: qs) k=some q.2:=by simp [atKey,List.find?_cons,e']
   rw [za1 e,b]; exact h2
  ·have e':¬ q.1=k:=fun z=>e (h1.trans z)
   have b:atKey (q :: qs) k=atKey qs k:=by simp [atKey,List.find?_cons,e']
   rw [zaX e,b]; exact ih
theorem KT.repl {H:Hp} {kvs:List (List Key × V)} {xs:List (List Key × Addr × Value)} (r:KT H kvs xs) (k:List Key) {y:V} {u:Value} (ry:RelV y u) :
  KT H (kvs.map fun kv=>if kv.1=k then (kv.1,y) else kv) (xs.map (putAt k u)):=by
 induction r with
 | nil=>exact .nil
 | @cons p q ps qs h t ih=>
  rw [List.map_cons,List.map_cons]
  refine .cons ?_ ih
  obtain ⟨h1,h2,h3⟩:=h
  unfold putAt
  by_cases e:p.1=k
  ·rw [if_pos e,if_pos (h1.symm.trans e)]; exact ⟨h1,h2,ry⟩
  ·rw [if_neg e,if_neg (fun z=>e (h1.trans z))]; exact ⟨h1,h2,h3⟩
theorem KT.put {H:Hp} {kvs:List (List Key × V)} {xs:List (List Key × Addr × Value)} (r:KT H kvs xs) (k:List Key) {b:Addr} {y:V} {u:Value} (hb:H b=some (.tup (k.map kV))) (ry:RelV y u) :
  KT H (zbN kvs k y) (storedH xs k b u):=by
 have e:(kvs.any fun kv=>decide (kv.1=k))=(atKey xs k).isSome:=by
  rw [zcp,(r.val k).isSome_eq,Option.isSome_map]
 unfold zbN storedH
 rw [e]
 by_cases q:(atKey xs k).isSome=true
 ·rw [if_pos q,if_pos q]; exact r.repl k ry
 ·rw [if_neg q,if_neg q]; exact Paired.snoc r ⟨rfl,hb,ry⟩
theorem KT.keeps {H H':Hp} {kvs:List (List Key × V)} {xs:List (List Key × Addr × Value)} (r:KT H kvs xs) (ht:∀ b ys,H b=some (.tup ys)->H' b=some (.tup ys)):KT H' kvs xs:=
 Paired.mapP r fun _ _ z=>⟨z.1,ht _ _ z.2.1,z.2.2⟩
section
variable {P:Program} {w:World} {H:Hp} {h:Heap} {a:Addr}
theorem zjt {u:HO} (ok:HOk P w H h) (e:Rd H a u):ObjOk P w H h a u:=e.ok ok
theorem zdt {kvs:List (Key × V)} (ok:HOk P w H h) (e:Rd H a (.dK kvs)):kvs.length<=sizeLine/\(a == sysModules)=false/\∃ vs,KV kvs vs/\h.DictOf (z7 P w) a vs:=
 show ObjOk P w H h a (.dK kvs) from zjt ok e
theorem zmA {kvs:List (Key × V)} (ok:HOk P w H h) (e:H a=some (.dK kvs)):kvs.length<=sizeLine/\(a == sysModules)=false/\∃ vs,KV kvs vs/\h.DictOf (z7 P w) a vs:=zdt ok (.inl e)
theorem zdo {ks:List Key} (ok:HOk P w H h) (e:H a=some (.tup (ks.map kV))):(tupleKind (z7 P w)).is h ks a:=by
 obtain ⟨_,its,r,o,h1,h2,n,h3⟩:=(show ObjOk P w H h a (.tup (ks.map kV)) from ok a _ e)
 exact ⟨o,its.toArray,n,h1,h2,h3,by simpa using zfb r⟩
theorem zdB {kvs:List (List Key × V)} (ok:HOk P w H h) (e:Rd H a (.dT kvs)):kvs.length<=sizeLine/\(a == sysModules)=false /\
  ∃ xs,KT H kvs xs/\h.DictOfH (tupleKind (z7 P w)) a xs:=by
 obtain ⟨z,y,xs,r,o,es,ep,h1,h2,h3,h4,h5⟩:=(show ObjOk P w H h a (.dT kvs) from zjt ok e)
 refine ⟨z,y,xs,r,o,es,ep,h1,h2,h3,h4,fun x hx=>?_,h5⟩
 have all:∀ {l:List (List Key × V)} {m:List (List Key × Addr × Value)},KT H l m->∀ x ∈ m,(tupleKind (z7 P w)).is h x.1 x.2.1:=by
  intro l m q
  induction q with
  | nil=>intro x hx; exact nomatch hx
  | @cons p q ps qs hq t ih=>
   intro x hx
   rcases List.mem_cons.mp hx with e | hx
   ·subst e
    exact zdo ok (by rw [<- hq.1]; exact hq.2.1)
   ·exact ih x hx
 exact all r x hx
theorem zmw {kvs:List (List Key × V)} (ok:HOk P w H h) (e:H a=some (.dT kvs)):kvs.length<=sizeLine/\(a == sysModules)=false /\
  ∃ xs,KT H kvs xs/\h.DictOfH (tupleKind (z7 P w)) a xs:=zdB ok (.inl e)
end
noncomputable def DGet (H:Hp) (a:Addr) (y:V) (r:Option V):Prop:=
 (∃ kvs k,Rd H a (.dK kvs)/\y=kV k/\r=zaM kvs k)\/∃ kvs k b,Rd H a (.dT kvs)/\y=.ref b/\H b=some (.tup (k.map kV))/\r=zaM kvs k
noncomputable def DPut (H:Hp) (a:Addr) (y v:V) (H':Hp):Prop:=
 (∃ kvs k,H a=some (.dK kvs)/\y=kV k/\kvs.length < sizeLine/\H'=upd H a (.dK (zbN kvs k v))) \/
 ∃ kvs k b,H a=some (.dT kvs)/\y=.ref b/\H b=some (.tup (k.map kV))/\kvs.length < sizeLine/\H'=upd H a (.dT (zbN kvs k v))
theorem DGet.k {H:Hp} {a:Addr} {kvs:List (Key × V)} {k:Key} (e:H a=some (.dK kvs)):DGet H a (kV k) (zaM kvs k):=.inl ⟨kvs,k,.inl e,rfl,rfl⟩
theorem DPut.k {H:Hp} {a:Addr} {kvs:List (Key × V)} {k:Key} {v:V} (e:H a=some (.dK kvs)) (hl:kvs.length < sizeLine):DPut H a (kV k) v (upd H a (.dK (zbN kvs k v))):=.inl ⟨kvs,k,e,rfl,hl,rfl⟩
section
variable {X:Cx} {pins:List (Addr × Obj)} {σ:St} {H:Hp} {s:Shared} {a:Addr} {y v:V} {u r:Value} {o:Option V} {A:Around} {E:Value->Shared->Prop}
theorem Inv.big (I:Inv X pins σ H s):sysModules < s.heap.objs.size:=by
 have h:mainGlobals < s.heap.objs.size:=(I.mod.glob.keeps I.bk).lt
 exact Nat.lt_trans (by decide) h
theorem zhC {Q:Value->Shared->Prop} (hu:A.units + 1 < cLine) (I:Inv X pins σ H s) (g:DGet H a y (some v)) (ry:RelV y u) (h:∀ w' s',Inv X pins σ H s'->RelV v w'->Q w' s') :
  wpAny (model X.prog X.w) A (getItem (.ref a) u) Q E s:=by
 rcases g with ⟨kvs,k,e,ey,l⟩ | ⟨kvs,k,b,e,ey,eb,l⟩
 ·subst ey
  obtain ⟨z,hd,vs,rel,dd⟩:=zdt I.hok e
  obtain ⟨w',hw,rw'⟩:=RelO.some_of (v:=v) (o:=valueAt vs k) (by rw [l]; exact rel.val k)
  exact wpAny_getItem_of (zej ry) dd.mapOf hw (h w' _ (I.tok _) rw')
 ·subst ey
  cases (show u=Value.ref b from ry)
  obtain ⟨z,hd,xs,rel,dd⟩:=zdB I.hok e
  obtain ⟨w',hw,rw'⟩:=RelO.some_of (v:=v) (o:=(atKey xs k).map (·.2)) (by rw [l]; exact rel.val k)
  obtain ⟨p,hp,hp2⟩:=Option.map_eq_some_iff.mp hw
  refine wpAny_getItem_heap (tupleKind_room_in1 hu) (zdo I.hok eb) dd hp ?_
  rw [hp2]
  exact h w' _ (I.tok _) rw'
theorem zkw {Q:Value->Shared->Prop} (hu:A.units + 1 < cLine) (I:Inv X pins σ H s) (g:DGet H a y o) (ry:RelV y u) (h:∀ s',Inv X pins σ H s'->Q (.bool (!o.isSome)) s') :
  wpAny (model X.prog X.w) A (compareOp .NotIn u (.ref a)) Q E s:=by
 rcases g with ⟨kvs,k,e,ey,l⟩ | ⟨kvs,k,b,e,ey,eb,l⟩
 ·subst ey
  obtain ⟨z,hd,vs,rel,dd⟩:=zdt I.hok e
  refine wpAny_notIn_of (zej ry) hd dd.mapOf ?_
  rw [<- (rel.val k).isSome_eq,<- l]
  exact h _ (I.tok _)
 ·subst ey
  cases (show u=Value.ref b from ry)
  obtain ⟨z,hd,xs,rel,dd⟩:=zdB I.hok e
  refine wpAny_notIn_heap (tupleKind_room_in1 hu) (zdo I.hok eb) hd dd ?_
  have q:=(rel.val k).isSome_eq
  rw [Option.isSome_map] at q
  rw [<- q,<- l]
  exact h _ (I.tok _)
theorem zgB {h':Heap} {t':Nat} {ob:HO} (I:Inv X pins σ H s) (mu:Mut (H a)) (hs:Heap.SameBut a s.heap h') (he:∃ q,h'.get? a=some q) (new:ObjOk X.prog X.w (upd H a ob) h' a ob) :
  Inv X pins σ (upd H a ob) { s with heap:=h',toks:=t' }:=
 I.write (x:=a) (e:=a) mu (.inl rfl) (fun b q hb z=>(hs.2 b hb).trans z) he new
theorem zkW {P:Program} {w:World} {H':Hp} {h':Heap} {kvs:List (Key × V)} {vs:List (Key × Value)} (z:kvs.length<=sizeLine) (hd:(a == sysModules)=false) (rel:KV kvs vs) (dd:h'.DictOf (z7 P w) a vs) :
  ObjOk P w H' h' a (.dK kvs):=⟨z,hd,vs,rel,dd⟩
theorem zhJ {H':Hp} {Q:Unit->Shared->Prop} (hu:A.units + 1 < cLine) (I:Inv X pins σ H s) (g:DPut H a y v H') (ry:RelV y u) (rv:RelV v r) (h:∀ s',Inv X pins σ H' s'->Q () s') :
  wpAny (model X.prog X.w) A (setItem (.ref a) u r) Q E s:=by
 rcases g with ⟨kvs,k,e,ey,l,eH⟩ | ⟨kvs,k,b,e,ey,eb,l,eH⟩
 ·subst ey eH
  obtain ⟨z,hd,vs,rel,dd⟩:=zmA I.hok e
  have hz:vs.length<=sizeLine:=by rw [<- rel.length]; exact z
  have hl:(zbN kvs k v).length<=sizeLine:=by have:=zcH kvs k v; omega
  refine wpAny_setItem_pairs (hsz:=hz) (zej ry) dd fun h' dd' hs=>h _ ?_
  have he:∃ q,h'.get? a=some q:=let ⟨q,_,_,hq,_⟩:=dd'; ⟨q,hq⟩
  exact zgB I (by rw [e]; exact True.intro) hs he (zkW hl hd (rel.put k rv) dd')
 ·subst ey eH
  cases (show u=Value.ref b from ry)
  obtain ⟨z,hd,xs,rel,dd⟩:=zmw I.hok e
  have hz:xs.length<=sizeLine:=by rw [<- Paired.length rel]; exact z
  have hl:(zbN kvs k v).length<=sizeLine:=by have:=zcH kvs k v; omega
  refine wpAny_setItem_heap (hsz:=hz) (tupleKind_room_in1 hu) (zdo I.hok eb) dd fun h' dd' hs=>h _ ?_
  obtain ⟨q,es,ep,hq,h2,h3,h4,_,h5⟩:=dd'
  refine zgB I (by rw [e]; exact True.intro) hs ⟨q,hq⟩ ⟨hl,hd,_,(rel.put k eb rv).keeps fun c ys ec=>?_,q,es,ep,hq,h2,h3,h4,h5⟩
  rw [zG (zbI ec e (fun z=>nomatch z))]
  exact ec
end
section
variable {X:Cx} {pins:List (Addr × Obj)} {σ:St} {H:Hp} {s:Shared} {a:Addr} {kvs:List (Key × V)} {k:Key} {u:Value} {A:Around} {E:Value->Shared->Prop}
end
noncomputable def zkV (i:Expr):Prop:=∀ ov iv,subscripted i false ov iv=operate [ov,iv] (getItem ov iv)
theorem zj2 {prog:Program} {w:World} {A:Around} {E:Value->Shared->Prop} {s:Shared} {env:Env} {value slice:Expr} {pos:Pos} {T id:String} {Q:Value->Shared->Prop}
  (hl:typeLookup (.type T) "__getitem__" = pure (some (.builtin id))) (hs:zkV slice)
  (h:wpAny (model prog w) A (eval value env) (fun o s₁=>wpAny (model prog w) A (eval slice env) (fun i s₂=>s₂.TypeIs o T/\wpAny (model prog w) A (getItem o i) Q E s₂) E s₁) E s) :
  wpAny (model prog w) A (eval (.Subscript value slice pos) env) Q E s:=by
 refine Subscript_ (wpAny_mono h (fun o s₁ h₁=>wpAny_mono h₁ (fun i s₂ h₂=>?_) fun _ _ x=>x) fun _ _ x=>x)
 obtain ⟨hT,h₂⟩:=h₂
 unfold subscriptTail
 refine wpAny_bind ?_
 rw [getitemInPython_of_ne hT.not_modules]
 refine wpAny_bind (wpAny_specialOf hT hl ?_)
 have fin:wpAny (model prog w) A (subscripted slice false o i) (fun r s₃=>wpAny (model prog w) A (letTemporaryGo value o r >>= fun _=>pure r) Q E s₃) E s₂:=by
  rw [hs o i]
  exact wpAny_operating (wpAny_mono h₂ (fun r s₃ h₃=>wpAny_bind (wpAny_letTemporaryGo (wpAny_pure h₃))) fun _ _ x=>x)
 first
  | exact wpAny_pure (wpAny_bind fin)
  | exact wpAny_bind (wpAny_pure (wpAny_bind fin))
  | exact wpAny_bind fin
theorem zgd {X:Cx} {pins:List (Addr × Obj)} {σ:St} {H:Hp} {s:Shared} {a:Addr} {y:V} {o:Option V} (I:Inv X pins σ H s) (g:DGet H a y o):s.TypeIs (.ref a) "dict" := by
 rcases g with ⟨kvs,k,e,_,_⟩ | ⟨kvs,k,b,e,_,_,_⟩
 ·obtain ⟨_,_,vs,_,dd⟩:=zdt I.hok e
  exact dd.typeIs
 ·obtain ⟨_,_,xs,_,dd⟩:=zdB I.hok e
  exact dd.typeIs
noncomputable def zmk (td ty:TE):TE:=fun σ H Q=>td σ H fun x H1=>ty σ H1 fun y H2=>∃ a v,x=.ref a/\DGet H2 a y (some v)/\Q v H2
noncomputable def zjE (ty td:TE):TE:=fun σ H Q=>ty σ H fun y H1=>td σ H1 fun x H2=>∃ a o,x=.ref a/\DGet H2 a y o/\Q (.bl (!o.isSome)) H2
noncomputable def zjv (td ty tv:TE):TS:=fun D σ H=>tv σ H fun v H1=>td σ H1 fun x H2=>ty σ H2 fun y H3=>∃ a H4,x=.ref a/\DPut H3 a y v H4/\D.nx σ H4
section
variable {X:Cx} {o i e value:Expr} {pos pos' tpos:Pos} {td ty tv:TE}
theorem zj0 (hu:X.A.units + 1 < cLine) (ho:PE X o td) (hi:PE X i ty) (hs:zkV i):PE X (.Subscript o i pos) (zmk td ty):=by
 intro pins s σ H Q I h
 refine zj2 PySem.F.slot_dict_getitem.lookup hs (thn (ho pins s σ H _ I h) fun u s1 ⟨x,H1,I1,rx,q1⟩=>thn (hi pins s1 σ H1 _ I1 q1) fun iv s2 zz=>?_)
 obtain ⟨y,H2,I2,ry,a,v,ex,g,q2⟩:=zz
 subst ex
 obtain rfl:u=Value.ref a:=rx
 exact ⟨zgd I2 g,zhC hu I2 g ry fun w' s3 I3 rw'=>⟨v,H2,I3,rw',q2⟩⟩
theorem zib (hu:X.A.units + 1 < cLine) (hi:PE X i ty) (ho:PE X o td):PC X .NotIn i o (zjE ty td):=by
 intro pins s σ H Q I h
 refine thn (hi pins s σ H _ I h) fun iv s1 ⟨y,H1,I1,ry,q1⟩=>thn (ho pins s1 σ H1 _ I1 q1) fun u s2 zz=>?_
 obtain ⟨x,H2,I2,rx,a,ov,ex,g,q2⟩:=zz
 subst ex
 obtain rfl:u=Value.ref a:=rx
 exact zkw hu I2 g ry fun s3 I3=>⟨.bl (!ov.isSome),H2,I3,rfl,q2⟩
theorem zko (hu:X.A.units + 1 < cLine) (ho:PE X o td) (hi:PE X i ty) (hv:PE X value tv) (hs:swapsWith value (some (.Subscript o i pos')) pos.line X.env=pure false) :
  PS X (.Assign [.Subscript o i pos'] value pos) (zjv td ty tv):=by
 intro pins s σ H D I h
 refine wpAny_Assign_Subscript (thn (hv pins s σ H _ I h) fun r s1 ⟨v,H1,I1,rv,q1⟩=>thn (ho pins s1 σ H1 _ I1 q1) fun u s2 ⟨x,H2,I2,rx,q2⟩=>thn (hi pins s2 σ H2 _ I2 q2) fun iv s3 zz=>?_) hs
 obtain ⟨y,H3,I3,ry,a,H4,ex,g,q3⟩:=zz
 subst ex
 obtain rfl:u=Value.ref a:=rx
 exact zhJ hu I3 g ry rv fun s4 I4=>⟨σ,H4,I4,q3⟩
end
theorem zin {P:Program} {w:World} {H:Hp} (h:Heap) (hb:sysModules < h.objs.size):ObjOk P w H (h.push { cls:=.type "dict",data:=.dict #[] }) h.objs.size (.dK []):=
 ⟨Nat.zero_le _,beq_eq_false_iff_ne.mpr (Ne.symm (Nat.ne_of_lt hb)),[],.nil,Heap.DictOf.new h⟩
noncomputable def zkN:TE:=fun _ H Q=>∀ p,H p=none->Q (.ref p) (upd H p (.dK []))
section
variable {X:Cx} {pos:Pos}
theorem ziF:PE X (.Dict [] [] pos) zkN:=fun pins s σ H Q I h=>
 wpAny_Dict_empty ⟨.ref s.heap.objs.size,_,I.laid (a:=s.heap.objs.size) (o:=.dK []) (t':=s.toks) (fun _ _ q=>Heap.get?_push_of_some _ q) (Nat.le_refl _) (zin s.heap I.big),rfl,h _ (I.hok.fresh (Nat.le_refl _))⟩
end
noncomputable abbrev VV:List (V × V)->List (Value × Value)->Prop:=Paired fun p q=>RelV p.1 q.1/\RelV p.2 q.2
set_option genInjectivity false in
set_option genSizeOf false in
structure M1 (X:Cx) (o:Expr) (m:Str) (apos:Pos) (e:Expr) (cpos:Pos):Prop where
 base:attributeBase o m X.env (eval o X.env)=eval o X.env
 few:((backTo cpos (starEach [e] X.env)).all (fun x=>!x.1) && (backToKw cpos (keywordEach [] X.env)).all (fun x=>x.1.isSome)
  && decide (([e]:List Expr).length + ([]:List Keyword).length + (if ([]:List Keyword).isEmpty then 0 else 1) < 30))=true
 line:(apos.endLine == cpos.line)=true
 trees:backTo cpos (starEach [e] X.env)=[(false,eval e X.env)]
set_option genInjectivity false in
set_option genSizeOf false in
structure M2 (X:Cx) (o:Expr) (m:Str) (apos:Pos) (e f:Expr) (cpos:Pos):Prop where
 base:attributeBase o m X.env (eval o X.env)=eval o X.env
 few:((backTo cpos (starEach [e,f] X.env)).all (fun x=>!x.1) && (backToKw cpos (keywordEach [] X.env)).all (fun x=>x.1.isSome)
  && decide (([e,f]:List Expr).length + ([]:List Keyword).length + (if ([]:List Keyword).isEmpty then 0 else 1) < 30))=true
 line:(apos.endLine == cpos.line)=true
 trees:backTo cpos (starEach [e,f] X.env)=[(false,eval e X.env),(false,eval f X.env)]
noncomputable def IsD (H:Hp) (a:Addr):Prop:=(∃ kvs,Rd H a (.dK kvs))\/∃ kvs,Rd H a (.dT kvs)
theorem zk9 {X:Cx} {pins:List (Addr × Obj)} {σ:St} {H:Hp} {s:Shared} {a:Addr} (I:Inv X pins σ H s) (d:IsD H a) :
  s.TypeIs (.ref a) "dict" /\ (∀ b,Value.ref a=.ref b->∃ ob,s.heap.get? b=some ob/\ob.dict=none)/\(a == sysModules)=false:=by
 rcases d with ⟨kvs,e⟩ | ⟨kvs,e⟩
 ·obtain ⟨_,hd,vs,_,dd⟩:=zdt I.hok e
  refine ⟨dd.typeIs,fun b q=>?_,hd⟩
  cases q
  obtain ⟨ob,_,_,h1,h2,_⟩:=dd
  exact ⟨ob,h1,h2.2.1⟩
 ·obtain ⟨_,hd,xs,_,dd⟩:=zdB I.hok e
  refine ⟨dd.typeIs,fun b q=>?_,hd⟩
  cases q
  obtain ⟨ob,_,_,h1,h2,_⟩:=dd
  exact ⟨ob,h1,h2.2.1⟩
section
variable {X:Cx} {pins:List (Addr × Obj)} {σ:St} {H:Hp} {s:Shared} {a:Addr} {y d:V} {u r:Value} {o:Option V} {A:Around} {E:Value->Shared->Prop}
theorem zkQ {Q:Value->Shared->Prop} (hu:A.units + 1 < cLine) (I:Inv X pins σ H s) (g:DGet H a y o) (ry:RelV y u) (rd:RelV d r) (h:∀ w' s',Inv X pins σ H s'->RelV (o.getD d) w'->Q w' s') :
  wpAny (model X.prog X.w) A (call (.builtin "dict.get") [.ref a,u,r]) Q E s:=by
 rcases g with ⟨kvs,k,e,ey,l⟩ | ⟨kvs,k,b,e,ey,eb,l⟩
 ·subst ey
  obtain ⟨z,hd,vs,rel,dd⟩:=zdt I.hok e
  refine call_meetsIn PySem.F.slot_dict_get dd.typeIs PySem.F.entry_dict_get (PySem.F.args_dict_get_3 _ _ _) (meets_dict_get_default (z7 X.prog X.w) a (zej ry) hd r) ⟨_,dd.mapOf,h _ _ (I.tok _) ?_⟩
  rw [l]
  exact (rel.val k).getD rd
 ·subst ey
  cases (show u=Value.ref b from ry)
  obtain ⟨z,hd,xs,rel,dd⟩:=zdB I.hok e
  refine call_meetsIn PySem.F.slot_dict_get dd.typeIs PySem.F.entry_dict_get (PySem.F.args_dict_get_3 _ _ _) (meetsH_dict_get_default (tupleKind (z7 X.prog X.w)) a b hd r) ⟨tupleKind_room_in1 hu,k,xs,zdo I.hok eb,dd,h _ _ (I.tok _) ?_⟩
  rw [l]
  exact (rel.val k).getD rd
end
noncomputable def zlq (td ty tx:TE):TE:=fun σ H Q=>td σ H fun x H1=>∃ a,x=.ref a/\IsD H1 a/\ty σ H1 fun y H2=>tx σ H2 fun z H3=>∃ o,DGet H3 a y o/\Q (o.getD z) H3
section
variable {X:Cx} {o e f:Expr} {apos cpos:Pos} {td ty tx:TE}
theorem zje (hu:X.A.units + 1 < cLine) (ho:PE X o td) (he:PE X e ty) (hf:PE X f tx) (m:M2 X o "get" apos e f cpos):PE X (.Call (.Attribute o "get" apos) [e,f] [] cpos) (zlq td ty tx):=by
 intro pins s σ H Q I h
 refine wpAny_Call_method m.base m.few m.line PySem.F.plainAttrs_dict PySem.F.slot_dict_get PySem.F.type_dict_get (thn (ho pins s σ H _ I h) fun u s1 zz=>?_)
 obtain ⟨x,H1,I1,rx,a,ex,d,q1⟩:=zz
 subst ex
 obtain rfl:u=Value.ref a:=rx
 obtain ⟨t1,t2,_⟩:=zk9 I1 d
 refine ⟨t1,t2,?_⟩
 rw [m.trees]
 refine Calls.callWith_builtin rfl (Calls.evalArgs_plain (Calls.spliced_cons (thn (he pins s1 σ H1 _ I1 q1) fun iv s2 ⟨y,H2,I2,ry,q2⟩=>
  Calls.spliced_cons (thn (hf pins s2 σ H2 _ I2 q2) fun fv s3 ⟨z,H3,I3,rz,ov,g,q3⟩=>Calls.spliced_nil ?_))))
 exact zkQ hu I3 g ry rz fun w' s4 I4 rw'=>⟨_,H3,I4,rw',q3⟩
end
section
variable {X:Cx} {pins:List (Addr × Obj)} {σ:St} {H:Hp} {s:Shared} {a:Addr} {kvs:List (Key × V)} {A:Around} {E:Value->Shared->Prop}
end
section
variable {X:Cx} {pins:List (Addr × Obj)} {σ:St} {H:Hp} {s:Shared} {a:Addr} {y:V} {u:Value} {A:Around} {E:Value->Shared->Prop}
end
end Internal
set_option Elab.async false
set_option linter.all false
set_option maxRecDepth 100000
namespace Internal
open PySem PySem.Spec PyProof.Rows
section
variable {X:Cx} {tg:Expr}
end
theorem zlR {K:PySem.W.Frag} {H:Hp} {Q:VK} {a:Addr} {i j k:Int} (h:H a=some (.tup [.int j,.int k])) (q:Q (.bl (decide (i ∈ [j,k]))) H):rIn K false (.int i) (.ref a) H Q:=
 ⟨a,[.int j,.int k],rfl,.inr (.of h),rfl,rfl,by rw [if_neg Bool.false_ne_true,show inV (.int i) [.int j,.int k]=inV (.int i) ([j,k].map V.int) from rfl,zeK]; exact q⟩
end Internal
set_option Elab.async false
set_option linter.all false
set_option maxRecDepth 100000
namespace Internal
open PySem PySem.Spec PyProof.Rows
noncomputable def zf9 (C CN CG CS:Addr):Sp:=fun vs H Q E=>∃ (b d:Addr) (m w y n:Int) (ts:List (T7 × Str)),vs=[.ref b,.int n]/\Bk C H b d m w y ts /\
 ((∃ t,0<=n/\ts[n.toNat]?=some t/\¬ t.2=("broken" : Str)/\¬ t.2=("settled" : Str)/\∀ H',Bk C H' b d m w y (ts.set n.toNat (t.1, "broken"))->ButL d H H'->Q .non H') \/
  (¬ (0<=n/\n < ts.length)/\E (.ref CN) none H)\/(∃ t,0<=n/\ts[n.toNat]?=some t/\t.2=("broken" : Str)/\E (.ref CG) none H)\/(∃ t,0<=n/\ts[n.toNat]?=some t/\t.2=("settled" : Str)/\E (.ref CS) none H))
noncomputable def brK (ts:List (T7 × Str)) (n:Int):Nat:=
 if ¬ (0<=n/\n < ts.length) then 1 else if (ts.getD n.toNat t0).2=("broken" : Str) then 2 else if (ts.getD n.toNat t0).2=("settled" : Str) then 3 else 0
noncomputable def zap (i:Int) (t:T7 × Str):Bool:=decide (t.2 = "standing") && (decide (t.1.p=i) || decide (t.1.q=i))
noncomputable def zdh (i:Int) (t:T7 × Str):T7 × Str:=if zap i t then (t.1, "broken") else t
theorem zfP {m:Int} {ts:List (T7 × Str)}:zby "broken" ts (zv (zap m) ts ts.length)=ts.map (zdh m):=by
 refine zdy (by rw [za5,List.length_map]) fun i a b ha hb=>?_
 have hi:i < ts.length:=by have:=(List.getElem?_eq_some_iff.mp ha).1; rwa [za5] at this
 obtain ⟨t,ht⟩:=zu hi
 rw [zbo ht] at ha
 rw [List.getElem?_map,ht] at hb
 have hiff:((i:Int) ∈ zv (zap m) ts ts.length) ↔ zap m t=true:=by
  rw [zbg (Nat.le_refl _)]
  constructor
  ·rintro ⟨j,u,h1,h2,h3,h4⟩
   obtain rfl:i=j:=by omega
   rw [ht] at h3; cases h3; exact h4
  ·exact fun h=>⟨i,t,hi,rfl,ht,h⟩
 rw [show (if (i:Int) ∈ zv (zap m) ts ts.length then (t.1,("broken" : Str)) else t)=zdh m t from zbB hiff] at ha
 exact (Option.some.inj ha).symm.trans (Option.some.inj hb)
theorem zkc {m:Int} {ts:List (T7 × Str)} (h:St3 ts):St3 (ts.map (zdh m)):=fun t ht=>by
 obtain ⟨u,hu,e⟩:=List.mem_map.mp ht
 rw [<- e]
 unfold zdh
 split
 ·exact .inr (.inr rfl)
 ·exact h u hu
theorem zh0 {m w i:Int} {ts:List (T7 × Str)} (h:zaP m w ts):zaP m w (ts.map (zdh i)):=fun t ht=>by
 obtain ⟨u,hu,e⟩:=List.mem_map.mp ht
 rw [<- e]
 unfold zdh
 split <;> exact h u hu
noncomputable def zgG (C:Addr):Sp:=fun vs H Q _=>∃ (b d:Addr) (m w y i:Int) (ts:List (T7 × Str)),vs=[.ref b,.int i]/\Bk C H b d m w y ts/\ts.length<=1000/\∀ p H',H p=none->Bk C H' b d m w y (ts.map (zdh i))->(∀ c o,c ≠ d->H c=some o->H' c=some o)->H' p=some (.lst ((zv (zap i) ts ts.length).map V.int))->Q (.ref p) H'
end Internal
set_option Elab.async false
set_option linter.all false
set_option maxRecDepth 100000
namespace Internal
open PySem PySem.Spec PyProof.Rows
end Internal
set_option Elab.async false
set_option linter.all false
set_option maxRecDepth 100000
namespace Internal
open PySem PySem.Spec PyProof.Rows
section
variable {prog:Program} {w:World} {A:Around} {E:Value->Shared->Prop} {s:Shared}
end
end Internal
set_option Elab.async false
set_option linter.all false
set_option maxRecDepth 100000
namespace Internal
open PySem PySem.Spec PyProof.Rows
section
variable {g h:Due->Int}
end
end Internal
set_option Elab.async false
set_option linter.all false
set_option maxRecDepth 100000
namespace Internal
open PySem PySem.Spec PyProof.Rows
open AutoSeq1 (wpAny_loadPart')
open MeetsSeq MeetsSeq2 MeetsSeq3 SeqRoads2
section
variable {X:Cx}
end
end Internal
set_option Elab.async false
set_option linter.all false
set_option maxRecDepth 100000
set_option maxHeartbeats 1000000
namespace Internal
open PySem PySem.Spec PyProof.Rows
open AutoSeq1 (wpAny_loadPart')
section
variable {prog:Program} {w:World} {A:Around} {E:Value->Shared->Prop} {s:Shared}
theorem zhg {it d:Addr} {i ep:Nat} {o od:Obj} {es:Array DictEntry} (hc:o.cls=.type "dict_keyiterator") (hd:o.data=.fields #[.ref d,.int i 0,.int es.size 0,.int ep 0]) (hdd:od.data=.dict es ep) (hlt:i < es.size) :
  Meets (Builtin.«dict_keyiterator.__next__» ⟨[.ref it],[]⟩) (fun A R s=>s.heap.get? it=some o/\s.heap.get? d=some od/\R (.ok (.ret es[i].key)) { s with heap:=s.heap.update it (Obj.mapFields (·.setIfInBounds 1 (rawInt ((i:Int) + 1)))) }):=
 .of_wp fun prog w A R s h=>by
  obtain ⟨ho,hod,h⟩:=h
  have hT:s.TypeIs (.ref it) "dict_keyiterator" := ⟨o,ho,hc⟩
  have hown:Builtin.Dict_items.ownsTuple "dict_keyiterator" = false:=by decide
  wp_walk using wpAny_typeNameOfWhole_keyiter hT,wpAny_fieldsOf ho hd,wpAny_dictEntries hod hdd,wpAny_dictEpoch hod hdd,wpAny_isOneOf_keyiter hT
  have eget:(if (i:Int) < 0 then none else es[(i:Int).toNat]?)=some es[i]:=by rw [if_neg (by omega),Int.toNat_natCast,Array.getElem?_eq_getElem hlt]
  rw [eget]
  have hT2:∀ f,({ s with heap:=s.heap.update it (Obj.mapFields f) }:Shared).TypeIs (.ref it) "dict_keyiterator" := fun f=>⟨_,Heap.get?_update_self _ ho (Obj.isFreed_of_fields (Obj.data_mapFields hd _)),(Obj.cls_mapFields ..).trans hc⟩
  wp_walk using wpAny_typeNameOfWhole_keyiter hT,wpAny_isOneOf_keyiter hT,wpAny_setField ho hd (by rw [hown]; decide),wpAny_isOneOf_keyiter (hT2 _)
  rw [hd]
  simp only [hown,Bool.false_eq_true,if_false,Nat.zero_add]
  rw [if_pos (show 1 < (#[Value.ref d,.int i 0,.int es.size 0,.int ep 0]:Array Value).size from (show _ < 4 by decide))]
  rw [if_neg]
  case hnc=>decide
  wp_walk using wpAny_isOneOf_keyiter (hT2 _)
  exact ⟨_,rfl,h⟩
theorem zjg {it d:Addr} {i ep:Nat} {o od:Obj} {es:Array DictEntry} (hc:o.cls=.type "dict_keyiterator") (hd:o.data=.fields #[.ref d,.int i 0,.int es.size 0,.int ep 0]) (hdd:od.data=.dict es ep) (hge:es.size<=i) {prog:Program} {w:World} {A:Around} {Q:PySem.Fin->Shared->Prop} {E:Value->Shared->Prop} {s:Shared} (hh:A.handled=none) (ho:s.heap.get? it=some o) (hod:s.heap.get? d=some od)
  (hE:∀ h' x,Heap.ExtBut it s.heap h'->(∃ ob,h'.get? x=some ob/\ob.cls=.type "StopIteration")->E (.ref x) { s with heap:=h' }) :
  wpAny (model prog w) A (Builtin.«dict_keyiterator.__next__» ⟨[.ref it],[]⟩) Q E s:=by
 have hT:s.TypeIs (.ref it) "dict_keyiterator" := ⟨o,ho,hc⟩
 have hown:Builtin.Dict_items.ownsTuple "dict_keyiterator" = false:=by decide
 unfold Builtin.«dict_keyiterator.__next__»
 wp_walk using wpAny_typeNameOfWhole_keyiter hT,wpAny_fieldsOf ho hd,wpAny_dictEntries hod hdd,wpAny_dictEpoch hod hdd,wpAny_isOneOf_keyiter hT
 have eget:(if (i:Int) < 0 then none else es[(i:Int).toNat]?)=none:=by rw [if_neg (by omega),Int.toNat_natCast,Array.getElem?_eq_none hge]
 rw [eget]
 wp_walk using wpAny_typeNameOfWhole_keyiter hT,wpAny_setField ho hd (by rw [hown]; decide)
 rw [hd]
 simp only [hown,Bool.false_eq_true,if_false,Nat.zero_add]
 rw [if_pos (show 0 < (#[Value.ref d,.int i 0,.int es.size 0,.int ep 0]:Array Value).size from (show _ < 4 by decide))]
 wp_walk
 unfold raiseNew
 refine wpAny_bind (wpAny_handled ?_)
 rw [hh]
 refine wpAny_bind (wpAny_pure (wpAny_throw ?_))
 exact hE _ _ (((Heap.SameBut.update ..).extBut.push _).push _) ⟨_,Heap.get?_push_size _ rfl,rfl⟩
theorem zgf {it d:Addr} {i ep:Nat} {o od:Obj} {es:Array DictEntry} {Q:Option Value->Shared->Prop} (hc:o.cls=.type "dict_keyiterator") (hd:o.data=.fields #[.ref d,.int i 0,.int es.size 0,.int ep 0]) (hdd:od.data=.dict es ep) (hlt:i < es.size) (ho:s.heap.get? it=some o) (hod:s.heap.get? d=some od)
  (hQ:Q (some es[i].key) { s with heap:=s.heap.update it (Obj.mapFields (·.setIfInBounds 1 (rawInt ((i:Int) + 1)))) }):wpAny (model prog w) A (pyNext (.ref it)) Q E s:=by
 unfold pyNext
 refine wpAny_bind (wpAny_attempt (wpAny_callSpecial?_slot (name:=Str.ofString "__next__") ⟨o,ho,hc⟩ PySem.F.slot_dict_keyiterator_next (call_meets PySem.F.slot_dict_keyiterator_next ⟨o,ho,hc⟩ PySem.F.entry_dict_keyiterator_next (PySem.F.args_dict_keyiterator_next_1 _) (zhg hc hd hdd hlt) ⟨ho,hod,?_⟩)))
 exact wpAny_pure hQ
theorem zgK {it d:Addr} {i ep:Nat} {o od:Obj} {es:Array DictEntry} {Q:Option Value->Shared->Prop} (hh:A.handled=none) (hc:o.cls=.type "dict_keyiterator") (hd:o.data=.fields #[.ref d,.int i 0,.int es.size 0,.int ep 0]) (hdd:od.data=.dict es ep) (hge:es.size<=i) (ho:s.heap.get? it=some o) (hod:s.heap.get? d=some od)
  (hQ:∀ h',Heap.ExtBut it s.heap h'->Q none { s with heap:=h' }):wpAny (model prog w) A (pyNext (.ref it)) Q E s:=by
 unfold pyNext
 refine wpAny_bind (wpAny_attempt (wpAny_callSpecial?_slot (name:=Str.ofString "__next__") ⟨o,ho,hc⟩ PySem.F.slot_dict_keyiterator_next (wpAny_call_entry PySem.F.slot_dict_keyiterator_next ⟨o,ho,hc⟩ PySem.F.entry_dict_keyiterator_next (zjg hc hd hdd hge hh ho hod fun h' x ext hx=>?_) (PySem.F.args_dict_keyiterator_next_1 _))))
 refine wpAny_bind (wpAny_isInstance (T := "StopIteration") (b:=true) hx isSubtype_stop ?_)
 exact wpAny_pure (hQ _ ext)
theorem zgL {d:Addr} {ep:Nat} {od:Obj} {es:Array DictEntry} {Q:Value->Shared->Prop} (hs:(d == sysModules)=false) (hod:s.heap.get? d=some od) (hx:od.ExactDict) (hdd:od.data=.dict es ep)
  (hQ:Q (.ref s.heap.objs.size) { s with heap:=s.heap.push { cls:=.type "dict_keyiterator",data:=.fields #[.ref d,.int 0 0,.int es.size 0,.int ep 0] } }):wpAny (model prog w) A (pyIter (.ref d)) Q E s:=by
 have hT:s.TypeIs (.ref d) "dict" := ⟨od,hod,hx.1⟩
 refine wpAny_pyIter_slot hT PySem.F.slot_dict_iter (wpAny_call_entry PySem.F.slot_dict_iter hT PySem.F.entry_dict_iter ?_ (PySem.F.args_dict_iter_1 _))
 unfold Builtin.«dict.__iter__» Builtin.Dict.dictSlotNone
 refine wpAny_bind (wpAny_bind (wpAny_notOrdered_dict hT ?_))
 unfold Builtin.Dict.showsAll
 wp_walk using wpAny_dictEntries hod hdd,wpAny_dictEpoch hod hdd
 exact ⟨_,rfl, "dict_keyiterator",_,⟨_,Heap.get?_push_size _ rfl,rfl⟩,PySem.F.slot_dict_keyiterator_next.lookup,hQ⟩
end
theorem zei {α β:Type} {F:α->β->Prop}:∀ {l:List α} {m:List β},Paired F l m->∀ {i:Nat} {a:α},l[i]?=some a->∃ b,m[i]?=some b/\F a b
 | _,_,.nil,i,a,h=>by cases h
 | _,_,.cons r t,0,a,h=>by cases h; exact ⟨_,rfl,r⟩
 | _,_,.cons r t,i + 1,a,h=>zei t h
theorem zeh {α β:Type} {F:α->β->Prop}:∀ {l:List α} {m:List β},Paired F l m->l.length=m.length
 | _,_,.nil=>rfl
 | _,_,.cons _ t=>congrArg (· + 1) (zeh t)
section
variable {X:Cx} {pins:List (Addr × Obj)} {σ:St} {H:Hp} {s:Shared}
end
end Internal
set_option Elab.async false
set_option linter.all false
set_option maxRecDepth 100000
set_option maxHeartbeats 1000000
namespace Internal
open PySem PySem.Spec PyProof.Rows
theorem zfd {P:Program} {w:World}:∀ {es:List DictEntry} {kvs:List (Key × Value)},Pairs (z7 P w) es kvs->∀ {i:Nat} {x:Key × Value},kvs[i]?=some x->∃ e,es[i]?=some e/\(z7 P w).is x.1 e.key=true
 | _,_,.nil,i,x,h=>by cases h
 | _,_,.cons r _ t,0,x,h=>by cases h; exact ⟨_,rfl,r⟩
 | _,_,.cons _ _ t,i + 1,x,h=>zfd t h
theorem zlm {P:Program} {w:World} {k:Key} {v:Value} (h:(z7 P w).is k v=true):RelV (kV k) v:=by
 rw [zhd] at h
 rcases zan h with ⟨i,t,rfl,rfl⟩ | ⟨x,t,rfl,rfl⟩
 ·exact ⟨t,rfl⟩
 ·exact ⟨t,rfl⟩
section
variable {X:Cx} {pins:List (Addr × Obj)} {σ:St} {H:Hp} {s:Shared}
theorem Inv.freezeK {d:Addr} {kvs:List (Key × V)} (I:Inv X pins σ H s) (e:H d=some (.dK kvs)) :
  ∃ (o:Obj) (es:Array DictEntry) (ep:Nat),s.heap.get? d=some o/\o.ExactDict/\o.data=.dict es ep/\es.size=kvs.length/\(d == sysModules)=false/\Inv X pins σ (upd H d (.frz o (.dK kvs))) s:=by
 obtain ⟨z,y,xs,r,o,es,ep,h1,h2,h3,h4,h5,h6⟩:=(show ObjOk X.prog X.w H s.heap d (.dK kvs) from I.hok d _ e)
 have hsz:es.size=kvs.length:=by rw [zeh r,<- h5.length,Array.length_toList]
 have nd:∀ b u,H b=some u->u ≠ .dK kvs->b ≠ d:=fun b u q n z=>by rw [z,e] at q; exact n (Option.some.inj q).symm
 have hok:HOk X.prog X.w (upd H d (.frz o (.dK kvs))) s.heap:=HOk.write I.hok (by rw [e]; trivial) (.inl rfl) (fun b u _ q=>q) ⟨o,h1⟩
  ⟨h1,z,y,xs,r,o,es,ep,h1,h2,h3,h4,h5,h6⟩
 refine ⟨o,es,ep,h1,h2,h3,hsz,y,?_⟩
 exact I.step (g':=s.gens) (d':=s.drawn) (t':=s.toks) (ch:=[]) (fun _ q=>nomatch q) (fun b ob _ _ _ q _=>q) (fun b ob _ _ _ q _=>⟨ob.slots,q⟩) (fun b ob _ q n=>by rw [zG (zJ e n).symm]; exact n) (fun b ob _ q=>⟨ob,q⟩)
  (fun b xs q=>by rw [zG (nd _ _ q (by intro z; cases z))]; exact q) (fun b ob u q=>by rw [zG (nd _ _ q (by intro z; cases z))]; exact q) (fun b ps q=>⟨#[],by rw [zG (nd _ _ q (by intro z; cases z)),q]; simp⟩) (fun m q=>q) hok I.bare
end
noncomputable def ziU (a:Addr) (o:Obj) (kvs:List (Key × V)):It:=⟨fun i H=>H a=some (.frz o (.dK kvs))/\i < kvs.length,fun i H x H'=>H'=H/\∃ k v,kvs[i]?=some (k,v)/\x=kV k,fun i H=>H a=some (.frz o (.dK kvs))/\kvs.length<=i⟩
theorem zjU {P:Program} {w:World} {K:PySem.W.Frag} {tg:Expr} (it a:Addr) (o:Obj) (kvs:List (Key × V)) (es:Array DictEntry) (ep:Nat) (hdd:o.data=.dict es ep) (hsz:es.size=kvs.length) :
  Turn P w K tg (ziU a o kvs) [it] it (fun i h=>∃ oi,h.get? it=some oi/\oi.cls=.type "dict_keyiterator" /\ oi.data=.fields #[.ref a,.int i 0,.int es.size 0,.int ep 0]) where
 mem:=by simp
 obj:=fun i h st b hb=>by
  have e:b=it:=by simpa using hb
  subst e
  obtain ⟨oi,h1,h2,h3⟩:=st
  exact ⟨oi,h1,fun v z=>by rw [h3] at z; cases z⟩
 keep:=fun i h h' st k=>by
  obtain ⟨oi,h1,h2,h3⟩:=st
  exact ⟨oi,k it (by simp) _ h1,h2,h3⟩
 item:=by
  intro X hP hw hK hc i pins s σ H E I hf st hg
  subst hP hw hK
  obtain ⟨f0,f1,f2,f3,f4,f5⟩:=hf it (by simp)
  obtain ⟨oi,h1,h2,h3⟩:=st
  obtain ⟨ha,hlt⟩:=hg
  obtain ⟨ga,z,y,xs,r,o',es',ep',g1,g2,g3,g4,g5,g6⟩:=(show ObjOk X.prog X.w H s.heap a (.frz o (.dK kvs)) from I.hok a _ ha)
  rw [ga] at g1; cases g1
  rw [hdd] at g3; cases g3
  obtain ⟨kv,hkv⟩:=zu hlt
  obtain ⟨x,hx,q1,q2⟩:=zei r hkv
  obtain ⟨en,hen,hk⟩:=zfd g5 hx
  have hes:es[i]'(by omega)=en:=by
   rw [Array.getElem?_toList,Array.getElem?_eq_getElem (by omega)] at hen
   exact Option.some.inj hen
  refine zgf h2 h3 hdd (by omega) h1 ga ?_
  have I1:Inv X pins σ H { s with heap:=s.heap.update it (Obj.mapFields (·.setIfInBounds 1 (rawInt ((i:Int) + 1)))),toks:=s.toks }:=I.turned (t':=s.toks) (fun b ob hb q=>(Heap.SameBut.update s.heap it _).extBut b ob hb q) f0 f1 f3 f4 f5
  have hnew:(s.heap.update it (Obj.mapFields (·.setIfInBounds 1 (rawInt ((i:Int) + 1))))).get? it=some (Obj.mapFields (·.setIfInBounds 1 (rawInt ((i:Int) + 1))) oi):=Heap.get?_update_self _ h1 (Obj.isFreed_of_fields (Obj.data_mapFields h3 _))
  have hcls:(Obj.mapFields (·.setIfInBounds 1 (rawInt ((i:Int) + 1))) oi).cls=.type "dict_keyiterator" := (Obj.cls_mapFields ..).trans h2
  have hdat:(Obj.mapFields (·.setIfInBounds 1 (rawInt ((i:Int) + 1))) oi).data=.fields #[.ref a,.int ((i + 1:Nat):Int) 0,.int es.size 0,.int ep 0]:=by rw [Obj.data_mapFields h3]; simp [rawInt]
  refine ⟨_,rfl,zfx (n := "dict_keyiterator") hnew hcls hdat (by decide) ⟨kV kv.1,H,I1,by rw [hes]; exact zlm (q1 ▸ hk),⟨rfl,kv.1,kv.2,hkv,rfl⟩,⟨_,hnew,hcls,hdat⟩,fun b hb=>(hf b hb).1⟩⟩
 done:=by
  intro X hP hw hK hc i pins s σ H E I hf st hg
  subst hP hw hK
  obtain ⟨f0,f1,f2,f3,f4,f5⟩:=hf it (by simp)
  obtain ⟨oi,h1,h2,h3⟩:=st
  obtain ⟨ha,hge⟩:=hg
  obtain ⟨ga,_⟩:=(show ObjOk X.prog X.w H s.heap a (.frz o (.dK kvs)) from I.hok a _ ha)
  exact zgK (I.ok.hd hc) h2 h3 hdd (by omega) h1 ga fun h' eb=>⟨rfl,I.turned (t':=s.toks) (fun b o hb e=>eb b o hb e) f0 f1 f3 f4 f5⟩
 self:=fun A i s Q E st h=>by
  obtain ⟨oi,h1,h2,h3⟩:=st
  exact wpAny_pyIter_keyiter ⟨oi,h1,h2,h3⟩ h
noncomputable def iDK (tl:TE):TI:=fun σ H R=>tl σ H fun x H1=>∃ a kvs,x=.ref a/\H1 a=some (.dK kvs)/\∀ o,R (ziU a o kvs) (upd H1 a (.frz o (.dK kvs)))
theorem zmu {X:Cx} {tg l:Expr} {tl:TE} (hl:PE X l tl):PI X tg l (iDK tl):=by
 intro pins s σ H R I h
 refine thn (hl pins s σ H _ I h) fun v s1 zz=>?_
 obtain ⟨x,H1,I1,r1,a,kvs,e,hq,q⟩:=zz
 subst e
 cases r1
 obtain ⟨o,es,ep,g1,g2,g3,g4,g5,I2⟩:=I1.freezeK hq
 refine zgL g5 g1 g2 g3 ?_
 refine ⟨s1.heap.objs.size,[s1.heap.objs.size],_,_,_,rfl,I2.kept (t':=s1.toks) fun b ob e=>Heap.get?_push_of_some _ e,zjU _ a o kvs es ep g3 g4,⟨_,Heap.get?_push_size _ rfl,rfl,rfl⟩,fun b hb=>?_,q o⟩
 have e:b=s1.heap.objs.size:=by simpa using hb
 subst e
 exact I2.fpOk (Nat.le_refl _) (I2.hok.fresh (Nat.le_refl _))
theorem zkM {a:Addr} {o:Obj} {kvs:List (Key × V)}:Src (ziU a o kvs) (fun H=>H a=some (.frz o (.dK kvs))) kvs.length (fun i x H=>∃ k v,kvs[i]?=some (k,v)/\x=kV k):=
 ⟨fun i H h hi=>⟨h,hi⟩,fun H h=>⟨h,Nat.le_refl _⟩,fun i H x H' h hi ⟨q,r⟩=>by subst q; exact ⟨Same.refl _,r⟩⟩
end Internal
set_option Elab.async false
set_option linter.all false
set_option maxRecDepth 100000
set_option maxHeartbeats 1000000
namespace Internal
open PySem PySem.Spec PyProof.Rows
inductive Dd
 | st (t:T7)
 | ch (n a z:Int)
 | br (n:Int)
 | al (i:Int)
 | ct (n z:Int)
 | cl
noncomputable def dV:Dd->List V
 | .st t=>.str "strike" :: zc0 t
 | .ch n a z=>[.str "change",.int n,.int a,.int z]
 | .br n=>[.str "break",.int n]
 | .al i=>[.str "all",.int i]
 | .ct n z=>[.str "contrary",.int n,.int z]
 | .cl=>[.str "close"]
noncomputable def dW (m w y:Int) (ts:List (T7 × Str)):Dd->Option Str
 | .st t=>if zR m w y t=0 then none else some (zcU (zR m w y t))
 | .ch n a z=>if chK y ts n a z=0 then none else some (zfy (chK y ts n a z))
 | .br n=>if brK ts n=0 then none else some (zfy (brK ts n))
 | .al _=>none
 | .ct n z=>if ctK y ts n z=0 then none else some (zgT (ctK y ts n z))
 | .cl=>none
noncomputable def dN (y:Int) (ts:List (T7 × Str)):Dd->List (T7 × Str)
 | .st t=>ts ++ [(t,("standing" : Str))]
 | .ch n a z=>ts.set n.toNat (chg (ts.getD n.toNat t0) a z)
 | .br n=>ts.set n.toNat ((ts.getD n.toNat t0).1,("broken" : Str))
 | .al i=>ts.map (zdh i)
 | .ct n z=>ts ++ [(swp (ts.getD n.toNat t0) z,("standing" : Str))]
 | .cl=>ts.map (zdl y)
noncomputable def dY (y:Int):Dd->Int
 | .cl=>y + 1
 | _=>y
noncomputable def dT (y:Int) (ts:List (T7 × Str)) (H0 H:Hp) (v:V):Dd->Prop
 | .st _=>v=.int ts.length
 | .ch _ _ _=>v=.non
 | .br _=>v=.non
 | .al i=>∃ p,v=.ref p/\H0 p=none/\H p=some (.lst ((zv (zap i) ts ts.length).map V.int))
 | .ct _ _=>v=.int ts.length
 | .cl=>∃ p,v=.ref p/\H0 p=none/\H p=some (.lst ((zv (zY y) ts ts.length).map V.int))
noncomputable def nT (m w y:Int) (ts:List (T7 × Str)) (D:Dd):List (T7 × Str):=if dW m w y ts D=none then dN y ts D else ts
noncomputable def dO (m w y:Int) (ts:List (T7 × Str)) (D:Dd) (H0 H:Hp) (s:Str) (v:V):Prop:=(dW m w y ts D=none/\s=("told" : Str)/\dT y ts H0 H v D)\/∃ x:Str,dW m w y ts D=some x/\s=("refused" : Str)/\v=.str x
theorem zlX (m w y:Int) (ts:List (T7 × Str)) (D:Dd) (h:¬ dW m w y ts D=none):dY y D=y:=by
 cases D with
 | cl=>exact absurd rfl h
 | _=>rfl
noncomputable def W7 (CM CT CD CC CG CS CN A:Addr) (n:Nat) (s:Str):Prop:=(A=CM/\n=1/\s=("member" : Str))\/(A=CT/\n=2/\s=("terms" : Str))\/(A=CD/\n=3/\s=("deal" : Str))\/(A=CC/\n=4/\s=("closed" : Str))\/(A=CG/\n=5/\s=("gone" : Str))\/(A=CS/\n=6/\s=("settled" : Str))\/(A=CN/\n=7/\s=("standing" : Str))
noncomputable def zhi (d b:Addr) (H H':Hp):Prop:=∀ c o,c ≠ d->c ≠ b->H c=some o->H' c=some o
section
variable (C CM CT CD CC CG CS CN:Addr)
noncomputable def zi0:Sp:=fun vs H Q E=>∃ (b d l:Addr) (m w y:Int) (ts:List (T7 × Str)) (D:Dd),vs=[.ref b,.ref l]/\Bk C H b d m w y ts/\zaP m w ts/\St3 ts/\ts.length<=100/\H l=some (.lst (dV D)) /\
 (dW m w y ts D=none->∀ v H',Bk C H' b d m w (dY y D) (dN y ts D)->zhi d b H H'->dT y ts H H' v D->Q v H') /\
 (∀ s,dW m w y ts D=some s->∀ H' A n,Same H H'->W7 CM CT CD CC CG CS CN A n s->E (.ref A) none H')
noncomputable def zhO:Sp:=fun vs H Q _=>∃ (b d l:Addr) (m w y:Int) (ts:List (T7 × Str)) (D:Dd),vs=[.ref b,.ref l]/\Bk C H b d m w y ts/\zaP m w ts/\St3 ts/\ts.length<=100/\H l=some (.lst (dV D)) /\
 ∀ r v s H',Bk C H' b d m w (dY y D) (nT m w y ts D)->zhi d b H H'->H' r=some (.tup [.str s,v])->dO m w y ts D H H' s v->Q (.ref r) H'
noncomputable def ziw:Sp:=fun vs H Q _=>∃ (er A:Addr) (n:Nat) (s:Str),vs=[.ref er]/\H er=some (zbK er A)/\W7 CM CT CD CC CG CS CN A n s/\∀ H',Same H H'->Q (.str s) H'
end
noncomputable def zfg (K:PySem.W.Frag):Sp:=fun vs H Q _=>∃ (a:Addr) (ns:List Int) (k lo hi:Int),vs=[.ref a,.int k,.int lo,.int hi]/\SqL K H a (ns.map V.int)/\0<=k/\k<=4000/\lo<=hi/\hi - lo<=1000000000000/\∀ x H',Same H H'->Q (.int x) H'
noncomputable def zjX (K:PySem.W.Frag):Sp:=fun vs H Q _=>∃ (a:Addr) (ns:List Int) (k y:Int),vs=[.ref a,.int k,.int y]/\SqL K H a (ns.map V.int)/\0<=k/\k<=3900/\∀ x H',Same H H'->Q (.int x) H'
noncomputable def zhf (K:PySem.W.Frag):Sp:=fun vs H Q _=>∃ (a ro:Addr) (ns:List Int) (k:Int) (xs:List V),vs=[.ref a,.int k,.ref ro]/\SqL K H a (ns.map V.int)/\0<=k/\k<=3900/\H ro=some (.lst xs)/\∀ x,Q (.int x) H
noncomputable def zi3 (K:PySem.W.Frag):Sp:=fun vs H Q _=>∃ (a ro:Addr) (ns:List Int) (k m w y:Int) (xs:List V),vs=[.ref a,.int k,.ref ro,.int m,.int w,.int y]/\SqL K H a (ns.map V.int)/\0<=k/\k<=3000/\H ro=some (.lst xs)/\1<=m/\m<=100/\1<=w/\w<=100/\∀ l H' D,H l=none->Same H H'->H' l=some (.lst (dV D))->Q (.ref l) H'
set_option genInjectivity false in
set_option genSizeOf false in
structure RW (H:Hp) (ro:Addr) (as:List Addr) (m w:Int) (ts:List (T7 × Str)):Prop where
 ro:H ro=some (.lst (as.map V.ref))
 R:DRows H as ts
 s:St3 ts
 g:zaP m w ts
noncomputable def zfu (ro:Addr) (as:List Addr) (H H':Hp):Prop:=∀ c o,c ≠ ro->c ∉ as->H c=some o->H' c=some o
noncomputable def zmS (H:Hp) (as as':List Addr):Prop:=∀ c ∈ as',c ∈ as\/H c=none
noncomputable def zeR (m w y:Int) (ts:List (T7 × Str)) (ro:Addr) (as:List Addr) (D:Dd) (H H':Hp) (r:Addr):Prop:=∃ (as':List Addr) (s:Str) (v:V),zfu ro as H H'/\zmS H as as'/\H' ro=some (.lst (as'.map V.ref))/\DRows H' as' (nT m w y ts D)/\H' r=some (.tup [.str s,v])/\dO m w y ts D H H' s v
noncomputable def zg3:Sp:=fun vs H Q _=>∃ (ro l:Addr) (as:List Addr) (m w y:Int) (ts:List (T7 × Str)) (t:T7) (D:Dd),vs=[.ref ro,.int m,.int w,.int y,.ref l]/\RW H ro as m w ts/\H l=some (.lst (zc0 t))/\ts.length<=100/\(D=.st t\/(∃ n z,D=.ct n z/\dW m w y ts D=(if zR m w y t=0 then none else some (zcU (zR m w y t)))/\swp (ts.getD n.toNat t0) z=t))/\∀ r H',zeR m w y ts ro as D H H' r->Q (.ref r) H'
noncomputable def zgS:Sp:=fun vs H Q _=>∃ (ro l:Addr) (as:List Addr) (m w y:Int) (ts:List (T7 × Str)) (D:Dd),vs=[.ref ro,.int y,.ref l]/\RW H ro as m w ts/\H l=some (.lst (dV D))/\ts.length<=100/\((∃ n a z,D=.ch n a z)\/∃ n,D=.br n)/\∀ r H',zeR m w y ts ro as D H H' r->Q (.ref r) H'
noncomputable def zfY:Sp:=fun vs H Q _=>∃ (ro l:Addr) (as:List Addr) (m w y:Int) (ts:List (T7 × Str)) (n z:Int),vs=[.ref ro,.int m,.int w,.int y,.ref l]/\RW H ro as m w ts/\H l=some (.lst (dV (.ct n z)))/\ts.length<=100/\∀ r H',zeR m w y ts ro as (.ct n z) H H' r->Q (.ref r) H'
noncomputable def zcT:Sp:=fun vs H Q _=>∃ (ro nl:Addr) (as:List Addr) (ts:List (T7 × Str)) (P:T7 × Str->Bool) (s:Str),vs=[.ref ro,.ref nl,.str s]/\H ro=some (.lst (as.map V.ref))/\DRows H as ts/\H nl=some (.lst ((zv P ts ts.length).map V.int))/\nl ≠ ro/\nl ∉ as/\ts.length<=100/\∀ r H',zfu ro as H H'->H' ro=some (.lst (as.map V.ref))->DRows H' as (zby s ts (zv P ts ts.length))->H' r=some (.tup [.str "told",.ref nl])->Q (.ref r) H'
noncomputable def zkp:Sp:=fun vs H Q _=>∃ (ro l:Addr) (as:List Addr) (m w y:Int) (ts:List (T7 × Str)) (D:Dd),vs=[.ref ro,.int m,.int w,.int y,.ref l]/\RW H ro as m w ts/\H l=some (.lst (dV D))/\ts.length<=100/\∀ r H',zeR m w y ts ro as D H H' r->Q (.ref r) H'
noncomputable def zg4:Sp:=fun vs H Q _=>∃ (ro:Addr) (n:Int) (w:Nat) (ts:List (T7 × Str)) (as:List Addr),vs=[.ref ro,.int n,.int (w:Int)]/\H ro=some (.lst (as.map V.ref))/\DRows H as ts/\(∀ t ∈ ts,(0<=t.1.w/\t.1.w < (w:Int))/\t.1.p ≠ t.1.q)/\ts.length<=1000/\w<=1000/\∀ p H',H p=none->Same H H'->H' p=some (.lst ((vec w (zbu ts n)).map V.int))->Q (.ref p) H'
set_option genInjectivity false in
set_option genSizeOf false in
structure BB (C:Addr) (H:Hp) (b d ro:Addr) (m:Int) (w:Nat) (y:Int) (ts:List (T7 × Str)) (as:List Addr):Prop where
 q:BQ C H b d ro m (w:Int) y ts as
 l:ts.length < 64
 w1:w<=100
theorem BB.same {C:Addr} {H H':Hp} {b d ro:Addr} {m:Int} {w:Nat} {y:Int} {ts:List (T7 × Str)} {as:List Addr} (h:BB C H b d ro m w y ts as) (e:Same H H'):BB C H' b d ro m w y ts as:=⟨h.q.same e,h.l,h.w1⟩
noncomputable def zgD (C:Addr):Sp:=fun vs H Q _=>∃ (b d ro:Addr) (as:List Addr) (m y k n:Int) (w:Nat) (ts:List (T7 × Str)),vs=[.ref b,.ref ro,.int k,.int n,.int m,.int (w:Int),.int y]/\BB C H b d ro m w y ts as/\1<=m/\∀ H',Same H H'->Q (.bl true) H'
noncomputable def zgZ (C:Addr):Sp:=fun vs H Q _=>∃ (b d ro:Addr) (as:List Addr) (m y:Int) (w:Nat) (ts:List (T7 × Str)),vs=[.ref b,.ref ro,.int m]/\BB C H b d ro m w y ts as/\1<=m/\m<=100/\∀ H',Q (.bl true) H'
end Internal
set_option Elab.async false
set_option linter.all false
set_option maxRecDepth 100000
set_option maxHeartbeats 1000000
namespace Internal
open PySem PySem.Spec PyProof.Rows
theorem dT.mono {y:Int} {ts:List (T7 × Str)} {H H1 H2 H3:Hp} {v:V} {D:Dd} (h:dT y ts H1 H2 v D) (f:∀ p,H1 p=none->H p=none) (k:∀ p xs,H1 p=none->H2 p=some (.lst xs)->H3 p=some (.lst xs)):dT y ts H H3 v D:=by
 cases D with
 | st t=>exact h
 | ch n a z=>exact h
 | br n=>exact h
 | ct n z=>exact h
 | al i=>obtain ⟨p,e,h1,h2⟩:=h; exact ⟨p,e,f p h1,k p _ h1 h2⟩
 | cl=>obtain ⟨p,e,h1,h2⟩:=h; exact ⟨p,e,f p h1,k p _ h1 h2⟩
theorem dO.mono {m w y:Int} {ts:List (T7 × Str)} {H H1 H2 H3:Hp} {s:Str} {v:V} {D:Dd} (h:dO m w y ts D H1 H2 s v) (f:∀ p,H1 p=none->H p=none) (k:∀ p xs,H1 p=none->H2 p=some (.lst xs)->H3 p=some (.lst xs)):dO m w y ts D H H3 s v:=
 h.imp (fun z=>⟨z.1,z.2.1,z.2.2.mono f k⟩) id
theorem zhP (n:Nat):PyData.canLay0 (.str (zcU n))=true:=by
 unfold zcU
 split <;> decide +kernel
theorem zkK {m w y:Int} {ts:List (T7 × Str)} {D:Dd} {x:Str} (h:dW m w y ts D=some x):PyData.canLay0 (.str x)=true:=by
 cases D with
 | st t=>
  unfold dW at h
  dsimp only at h
  split at h
  ·cases h
  ·rw [<- Option.some.inj h]; exact zhP _
 | ch n a z=>
  unfold dW at h
  dsimp only at h
  split at h
  ·cases h
  ·rw [<- Option.some.inj h]; exact zeX _
 | br n=>
  unfold dW at h
  dsimp only at h
  split at h
  ·cases h
  ·rw [<- Option.some.inj h]; exact zeX _
 | ct n z=>
  unfold dW at h
  dsimp only at h
  split at h
  ·cases h
  ·rw [<- Option.some.inj h]; exact zhM _
 | al i=>cases h
 | cl=>cases h
noncomputable def dD (y:Int) (ts:List (T7 × Str)):Dd->PyData
 | .st _=>.int ts.length
 | .ch _ _ _=>.none
 | .br _=>.none
 | .al i=>.list ((zv (zap i) ts ts.length).map PyData.int)
 | .ct _ _=>.int ts.length
 | .cl=>.list ((zv (zY y) ts ts.length).map PyData.int)
theorem dT.rep {K:PySem.W.Frag} {y:Int} {ts:List (T7 × Str)} {H0 H:Hp} {v:V} {D:Dd} (h:dT y ts H0 H v D):RepD K H v (dD y ts D):=by
 cases D with
 | st t=>rw [show v=_ from h]; exact .int _
 | ch n a z=>rw [show v=_ from h]; exact .non
 | br n=>rw [show v=_ from h]; exact .non
 | ct n z=>rw [show v=_ from h]; exact .int _
 | al i=>obtain ⟨p,e,h1,h2⟩:=h; rw [e]; exact .lst (.of h2) (zcu _)
 | cl=>obtain ⟨p,e,h1,h2⟩:=h; rw [e]; exact .lst (.of h2) (zcu _)
theorem ziA (y:Int) (ts:List (T7 × Str)) (D:Dd):(dD y ts D).depth<=10:=by
 cases D <;> unfold dD <;> first | (rw [zcl,zck]; omega) | (show _<=10; simp [PyData.depth])
theorem zkx {K:PySem.W.Frag} {m w y:Int} {ts:List (T7 × Str)} {D:Dd} {H Ha Hb:Hp} {Q:VK} {a b:Addr} {s s':Str} {v v':V} (h1:H a=some (.tup [.str s,v])) (h2:H b=some (.tup [.str s',v'])) (o1:dO m w y ts D Ha H s v) (o2:dO m w y ts D Hb H s' v') (q:Q (.bl false) H):zbD K (.ref a) (.ref b) H Q:=by
 have go:∀ {d:PyData} {s0:Str},s=s0->s'=s0->PyData.canLay0 (.str s0)=true->RepD K H v d->RepD K H v' d->d.depth<=10->zbD K (.ref a) (.ref b) H Q:=fun {d s0} e1 e2 hs r1 r2 dd=>by
  subst e1
  subst e2
  have rep1:RepAll K H [.str s',v] [.str s',d]:=.cons (.str _ hs) (.cons r1 .nil)
  have rep2:RepAll K H [.str s',v'] [.str s',d]:=.cons (.str _ hs) (.cons r2 .nil)
  refine zl5 (.tup (.of h1) rep1) (.tup (.of h2) rep2) (by simp [PyData.depth,PyData.depthAll]; omega) ?_
  rw [PySem.SeqAt.eqv_refl _ (by rw [PyData.canLay0]; exact rep1.lay)]
  exact q
 rcases o1 with ⟨w1,e1,t1⟩ | ⟨x,w1,e1,t1⟩ <;> rcases o2 with ⟨w2,e2,t2⟩ | ⟨x',w2,e2,t2⟩
 ·exact go e1 e2 (by decide +kernel) t1.rep t2.rep (ziA _ _ _)
 ·rw [w1] at w2; cases w2
 ·rw [w1] at w2; cases w2
 ·rw [w1] at w2
  rw [<- Option.some.inj w2] at t2
  have hl:=zkK w1
  exact go e1 e2 (by decide +kernel) (by rw [t1]; exact .str _ hl) (by rw [t2]; exact .str _ hl) (by show _<=10; simp [PyData.depth])
theorem zjH {m w y:Int} {ts:List (T7 × Str)} {D:Dd} (y0:0<=y) (hG:zaP m w ts) (hS:St3 ts) (h:dW m w y ts D=none):zaP m w (dN y ts D)/\St3 (dN y ts D):=by
 cases D with
 | st t=>
  have hk:zR m w y t=0:=by
   unfold dW at h
   dsimp only at h
   split at h
   ·assumption
   ·cases h
  have ok:=zkb hk
  refine ⟨ze6 hG ⟨ok.p0,ok.p1,ok.q0,ok.q1,ok.pq,ok.w0,ok.w1,ok.u0,ok.u1,ok.a0,ok.a1,ok.y0,ok.y1,ok.r0,ok.r1,ok.y0⟩,fun u hu=>?_⟩
  rcases List.mem_append.mp hu with z | z
  ·exact hS u z
  ·rw [List.mem_singleton.mp z]; exact .inl rfl
 | ch n a z=>
  have hk:chK y ts n a z=0:=by
   unfold dW at h
   dsimp only at h
   split at h
   ·assumption
   ·cases h
  unfold chK at hk
  by_cases c1:0<=n/\n < ts.length
  ·rw [if_neg (Classical.not_not.mpr c1)] at hk
   obtain ⟨t,ht⟩:=zu (show n.toNat < ts.length by omega)
   have hg:=zak ht
   have hG7:=hG t (List.mem_of_getElem? ht)
   have c2:(1<=a/\a<=1000000000)/\(0<=z/\z<=1000000):=by
    split at hk
    ·cases hk
    ·split at hk
     ·cases hk
     ·split at hk
      ·cases hk
      ·rename_i q; exact Classical.not_not.mp q
   show zaP m w (ts.set n.toNat (chg (ts.getD n.toNat t0) a z))/\St3 (ts.set n.toNat (chg (ts.getD n.toNat t0) a z))
   rw [hg]
   refine ⟨ze7 hG ⟨hG7.p0,hG7.p1,hG7.q0,hG7.q1,hG7.pq,hG7.w0,hG7.w1,hG7.u0,hG7.u1,c2.1.1,c2.1.2,c2.2.1,c2.2.2,hG7.r0,hG7.r1,c2.2.1⟩,fun u hu=>?_⟩
   rcases zcW hu with q | q
   ·exact hS u q
   ·rw [q]; exact hS t (List.mem_of_getElem? ht)
  ·rw [if_pos c1] at hk; cases hk
 | br n=>
  have hk:brK ts n=0:=by
   unfold dW at h
   dsimp only at h
   split at h
   ·assumption
   ·cases h
  unfold brK at hk
  by_cases c1:0<=n/\n < ts.length
  ·obtain ⟨t,ht⟩:=zu (show n.toNat < ts.length by omega)
   have hg:=zak ht
   show zaP m w (ts.set n.toNat ((ts.getD n.toNat t0).1,("broken" : Str)))/\St3 (ts.set n.toNat ((ts.getD n.toNat t0).1,("broken" : Str)))
   rw [hg]
   refine ⟨ze7 hG (hG t (List.mem_of_getElem? ht)),fun u hu=>?_⟩
   rcases zcW hu with q | q
   ·exact hS u q
   ·rw [q]; exact .inr (.inr rfl)
  ·rw [if_pos c1] at hk; cases hk
 | al i=>exact ⟨zh0 hG,zkc hS⟩
 | ct n z=>
  have hk:ctK y ts n z=0:=by
   unfold dW at h
   dsimp only at h
   split at h
   ·assumption
   ·cases h
  unfold ctK at hk
  by_cases c1:0<=n/\n < ts.length
  ·rw [if_neg (Classical.not_not.mpr c1)] at hk
   obtain ⟨t,ht⟩:=zu (show n.toNat < ts.length by omega)
   have hg:=zak ht
   have c2:0<=z/\z<=1000000:=by
    split at hk
    ·cases hk
    ·split at hk
     ·cases hk
     ·split at hk
      ·cases hk
      ·rename_i q; exact Classical.not_not.mp q
   show zaP m w (ts ++ [(swp (ts.getD n.toNat t0) z,("standing" : Str))])/\St3 (ts ++ [(swp (ts.getD n.toNat t0) z,("standing" : Str))])
   rw [hg]
   refine ⟨ze6 hG (zhD (hG t (List.mem_of_getElem? ht)) c2.1 c2.2 c2.1),fun u hu=>?_⟩
   rcases List.mem_append.mp hu with q | q
   ·exact hS u q
   ·rw [List.mem_singleton.mp q]; exact .inl rfl
  ·rw [if_pos c1] at hk; cases hk
 | cl=>exact ⟨zhI hG,zjC hS⟩
theorem zkJ (y:Int) (ts:List (T7 × Str)) (D:Dd):(dN y ts D).length<=ts.length + 1:=by
 cases D with
 | st t=>show (ts ++ [_]).length<=_; rw [List.length_append]; exact Nat.le_refl _
 | ch n a z=>show (ts.set _ _).length<=_; rw [List.length_set]; omega
 | br n=>show (ts.set _ _).length<=_; rw [List.length_set]; omega
 | al i=>show (ts.map _).length<=_; rw [List.length_map]; omega
 | ct n z=>show (ts ++ [_]).length<=_; rw [List.length_append]; exact Nat.le_refl _
 | cl=>show (ts.map _).length<=_; rw [List.length_map]; omega
theorem zcF {P R:T7 × Str->Bool} {ts:List (T7 × Str)}:∀ n,n<=ts.length->(zv P ts n).filter (fun q=>R (ts.getD q.toNat t0))=zv (fun t=>P t && R t) ts n
 | 0,_=>rfl
 | n + 1,h=>by
  obtain ⟨t,ht⟩:=zu (show n < ts.length by omega)
  rw [zbn ht,zbn ht,List.filter_append,zcF n (by omega)]
  congr 1
  by_cases hp:P t=true
  ·rw [if_pos hp]
   by_cases hr:R t=true
   ·rw [if_pos (by rw [hp,hr]; rfl),List.filter_cons_of_pos (by rw [Int.toNat_natCast,zak ht]; exact hr)]; rfl
   ·rw [if_neg (by rw [hp,Bool.true_and]; exact hr),List.filter_cons_of_neg (by rw [Int.toNat_natCast,zak ht]; exact hr)]; rfl
  ·rw [if_neg hp,if_neg (by rw [Bool.and_eq_true]; exact fun z=>hp z.1)]; rfl
theorem at2 {x i j:Int} (h0:0<=x) (h1:x < 2):∃ v:Int,atI [V.int i,V.int j] x=some (V.int v):=by
 obtain rfl | rfl:x=0\/x=1:=by omega
 ·exact ⟨i,rfl⟩
 ·exact ⟨j,rfl⟩
end Internal
set_option Elab.async false
set_option linter.all false
set_option maxRecDepth 100000
set_option maxHeartbeats 1000000
namespace Internal
open PySem PySem.Spec PyProof.Rows
theorem zjD {K:PySem.W.Frag} {H:Hp} {Q:VK} {a b:Addr} {vs ws:List V} {es:List FE} (h1:H a=some (.lst vs)) (h2:H b=some (.lst ws)) (f1:Fls H vs es) (f2:Fls H ws es) (q:Q (.bl true) H):zC K (.ref a) (.ref b) H Q:=by
 refine zfv (.lst (.of h1) f1.rep) (.lst (.of h2) f2.rep) (by have:=zdX es; rw [zcl]; omega) ?_
 rw [PySem.SeqAt.eqv_refl _ (by rw [PyData.canLay0]; exact (f1.rep (K:=K)).lay)]
 exact q
end Internal
set_option Elab.async false
set_option linter.all false
set_option maxRecDepth 100000
set_option maxHeartbeats 1000000
namespace Internal
open PySem PySem.Spec PyProof.Rows
theorem zfj {z:Int}:∀ {L:List (Int × Int × Int)},z ∉ L.map (·.1)->dsum L z=0
 | [],_=>rfl
 | x :: L,h=>by
  rw [List.map_cons,List.mem_cons,not_or] at h
  show (if x.1=z then x.2.2 else 0) + dsum L z=0
  rw [if_neg (fun e=>h.1 e.symm),zfj h.2]; rfl
set_option genInjectivity false in
set_option genSizeOf false in
structure DI (L:List (Int × Int × Int)) (kvs:List (Key × V)):Prop where
 val:∀ z:Int,zaM kvs (.inl z)=if z ∈ L.map (·.1) then some (.int (dsum L z)) else none
 key:∀ kv ∈ kvs,∃ z:Int,kv.1=Sum.inl z
 len:kvs.length<=L.length
theorem DI.nil:DI [] []:=⟨(fun z=>by rw [if_neg (by simp)]; rfl),(fun kv h=>nomatch h),Nat.le_refl _⟩
theorem DI.getD {L:List (Int × Int × Int)} {kvs:List (Key × V)} (h:DI L kvs) (z:Int):(zaM kvs (.inl z)).getD (.int 0)=.int (dsum L z):=by
 rw [h.val]
 by_cases c:z ∈ L.map (·.1)
 ·rw [if_pos c]; rfl
 ·rw [if_neg c,zfj c]; rfl
theorem DI.snoc {L:List (Int × Int × Int)} {kvs:List (Key × V)} (h:DI L kvs) (x:Int × Int × Int):DI (L ++ [x]) (zbN kvs (.inl x.1) (.int (dsum L x.1 + x.2.2))):=by
 refine ⟨fun z=>?_,fun kv hk=>?_,?_⟩
 ·rw [ziI,h.val,zd3,List.map_append]
  have e:dsum [x] z=if x.1=z then x.2.2 else 0:=by show (if x.1=z then x.2.2 else 0) + 0=_; omega
  by_cases c:z=x.1
  ·subst c
   rw [if_pos rfl,if_pos (by simp),e,if_pos rfl]
  ·have n:¬ (Sum.inl z:Key)=Sum.inl x.1:=fun q=>c (Sum.inl.inj q)
   have e2:dsum [x] z=0:=by rw [e,if_neg (fun q=>c q.symm)]
   rw [if_neg n,e2,Int.add_zero]
   by_cases d:z ∈ L.map (·.1)
   ·rw [if_pos d,if_pos (List.mem_append_left _ d)]
   ·rw [if_neg d,if_neg (fun q=>(List.mem_append.mp q).elim d fun q=>c (by simpa using q))]
 ·unfold zbN at hk
  split at hk
  ·obtain ⟨kv',h1,h2⟩:=List.mem_map.mp hk
   obtain ⟨z,hz⟩:=h.key kv' h1
   rw [<- h2]
   split <;> exact ⟨z,hz⟩
  ·rcases List.mem_append.mp hk with q | q
   ·exact h.key kv q
   ·rw [List.mem_singleton.mp q]; exact ⟨_,rfl⟩
 ·have:=zcH kvs (.inl x.1) (.int (dsum L x.1 + x.2.2))
  have:=h.len
  rw [List.length_append]
  show _<=L.length + 1
  omega
theorem ziY {kvs:List (Key × V)} {kv:Key × V} (h:kv ∈ kvs):(zaM kvs kv.1).isSome=true:=by
 rw [<- zcp]
 exact List.any_eq_true.mpr ⟨kv,h,by simp⟩
theorem zf6 {ts:List (T7 × Str)} {i:Nat} {t:T7 × Str} (ht:ts[i]?=some t) (hb:¬ t.2=("broken" : Str)):∀ n,i < n->n<=ts.length->(t.1.y,(i:Int),-t.1.a) ∈ za9 ts t.1.p n
 | 0,h,_=>absurd h (by omega)
 | n + 1,h,hn=>by
  obtain ⟨u,hu⟩:=zu (show n < ts.length by omega)
  rw [zcx hu]
  by_cases e:i=n
  ·subst e
   rw [ht] at hu
   cases hu
   refine List.mem_append_right _ ?_
   unfold zbv
   rw [if_neg hb,if_pos rfl]
   exact List.mem_singleton.mpr rfl
  ·exact List.mem_append_left _ (zf6 ht hb n (by omega) (by omega))
end Internal
set_option Elab.async false
set_option linter.all false
set_option maxRecDepth 100000
set_option maxHeartbeats 1000000
namespace Internal
open PySem PySem.Spec PyProof.Rows
theorem zkf {K:PySem.W.Frag} {m w y:Int} {ts:List (T7 × Str)} {D:Dd} {Ha H:Hp} {Q:VK} {s:Str} {v:V} (o:dO m w y ts D Ha H s v) (q:Q (.bl false) H):zam K [v,.ty "bool"] H Q:=by
 have hI:∀ i:Int,zam K [.int i,.ty "bool"] H Q:=fun i=>zcA (zhl q)
 have hN:zam K [.non,.ty "bool"] H Q:=zcA (zfz (t':=.type "NoneType") (cv:=.type "bool") (b:=false) rfl .non (by with_unfolding_all rfl) q)
 have hS:∀ x:Str,zam K [.str x,.ty "bool"] H Q:=fun x=>zcA (zfz (t':=.type "str") (cv:=.type "bool") (b:=false) rfl (.str x) (by with_unfolding_all rfl) q)
 have hL:∀ {a:Addr} {xs:List V},H a=some (.lst xs)->zam K [.ref a,.ty "bool"] H Q:=fun h=>zcA (zfz (t':=.type "list") (cv:=.type "bool") (b:=false) rfl (.lst h) (by with_unfolding_all rfl) q)
 rcases o with ⟨_,_,t⟩ | ⟨x,_,_,t⟩
 ·cases D with
  | st t'=>rw [show v=_ from t]; exact hI _
  | ch n a z=>rw [show v=_ from t]; exact hN
  | br n=>rw [show v=_ from t]; exact hN
  | ct n z=>rw [show v=_ from t]; exact hI _
  | al i=>obtain ⟨p,e,_,h⟩:=t; rw [e]; exact hL h
  | cl=>obtain ⟨p,e,_,h⟩:=t; rw [e]; exact hL h
 ·rw [t]; exact hS x
set_option genInjectivity false in
set_option genSizeOf false in
structure LB (C:Addr) (H0 H:Hp) (b d ro:Addr) (m:Int) (w:Nat) (y:Int) (ts:List (T7 × Str)) (as:List Addr):Prop where
 q:BQ C H b d ro m (w:Int) y ts as
 e0:Same H0 H
 fb:H0 b=none
 fd:H0 d=none
 fr:H0 ro=none
 fa:∀ c ∈ as,H0 c=none
 n1:d ≠ ro
 n2:d ∉ as
section
variable {C:Addr} {H0 H H':Hp} {b d ro:Addr} {m:Int} {w:Nat} {y:Int} {ts:List (T7 × Str)} {as:List Addr}
theorem LB.same (h:LB C H0 H b d ro m w y ts as) (e:Same H H'):LB C H0 H' b d ro m w y ts as:=⟨h.q.same e,h.e0.trans e,h.fb,h.fd,h.fr,h.fa,h.n1,h.n2⟩
theorem LB.nro (h:LB C H0 H b d ro m w y ts as):ro ∉ as:=h.q.R.neRef h.q.ro (fun v hv=>by obtain ⟨a,_,e⟩:=List.mem_map.mp hv; exact ⟨a,e.symm⟩)
theorem LB.deed {K:PySem.W.Frag} {H1 H2:Hp} {D:Dd} {r r2:Addr} {s:Str} {v:V} (y0:0<=y) (h:LB C H0 H b d ro m w y ts as) (hB:Bk C H1 b d m (w:Int) (dY y D) (nT m w y ts D)) (k1:zhi d b H H1) (hr:H1 r=some (.tup [.str s,v])) (o1:dO m w y ts D H H1 s v) (hd:zeR m w y ts ro as D H1 H2 r2) :
  ∃ as',LB C H0 H2 b d ro m w (dY y D) (nT m w y ts D) as'/\H2 r=some (.tup [.str s,v])/\dO m w y ts D H H2 s v/\∃ s' v',H2 r2=some (.tup [.str s',v'])/\dO m w y ts D H1 H2 s' v':=by
 obtain ⟨as',s',v',k2,nw,hro,hR,hr2,o2⟩:=hd
 obtain ⟨⟨dx,hb0⟩,xs0,hd0,hI0⟩:=id h.q.B
 obtain ⟨⟨dx1,hb1⟩,xs1,hd1,hI1⟩:=id hB
 have nro:=h.nro
 have hrow:∀ c ∈ as,∃ t,H c=some (.lst (zad t)):=fun c hc=>by obtain ⟨_,t,_,_,e⟩:=h.q.R.mem hc; exact ⟨t,e⟩
 have nrob:ro ≠ b:=zbI h.q.ro hb0 (by intro z; cases z)
 have hro1:H1 ro=some (.lst (as.map V.ref)):=k1 ro _ h.n1.symm nrob h.q.ro
 have hrow1:∀ c ∈ as,∃ t,H1 c=some (.lst (zad t)):=fun c hc=>by
  obtain ⟨t,e⟩:=hrow c hc
  exact ⟨t,k1 c _ (fun z=>h.n2 (z ▸ hc)) (zbI e hb0 (by intro z; cases z)) e⟩
 have tup:∀ {a:Addr} {ys:List V},H1 a=some (.tup ys)->H2 a=some (.tup ys):=fun {a ys} e=>k2 a _ (zbI e hro1 (by intro z; cases z)) (fun hm=>by
  obtain ⟨t,e'⟩:=hrow1 a hm
  rw [e] at e'; cases e') e
 have hb2:H2 b=some (.ins C dx1 (bfl m w (dY y D) d)):=k2 b _ nrob.symm (fun hm=>by
  obtain ⟨t,e'⟩:=hrow1 b hm
  rw [hb1] at e'; cases e') hb1
 have hd2:H2 d=some (.lst xs1):=k2 d _ h.n1 h.n2 hd1
 have gs:zaP m w (nT m w y ts D)/\St3 (nT m w y ts D):=by
  unfold nT
  split
  ·rename_i hs; exact zjH y0 h.q.g h.q.s hs
  ·exact ⟨h.q.g,h.q.s⟩
 refine ⟨as',⟨⟨⟨⟨dx1,hb2⟩,xs1,hd2,hI1.keep fun a ys z=>tup z⟩,hro,hR,gs.2,gs.1⟩,fun c o z=>?_,h.fb,h.fd,h.fr,fun c hc=>?_,h.n1,fun hm=>?_⟩,tup hr,o1.mono (fun p hp=>hp) (fun p xs f z=>k2 p _ (fun e=>by rw [e,h.q.ro] at f; cases f) (h.q.R.fresh f) z),s',v',hr2,o2⟩
 ·have zH:=h.e0.at z
  exact k2 c o (zJ z h.fr) (fun hm=>by rw [h.fa c hm] at z; cases z) (k1 c o (zJ z h.fd) (zJ z h.fb) zH)
 ·rcases nw c hc with q | q
  ·exact h.fa c q
  ·cases z:H0 c with
   | none=>rfl
   | some o=>
    have:=k1 c o (zJ z h.fd) (zJ z h.fb) (h.e0.at z)
    rw [this] at q; cases q
 ·rcases nw d hm with q | q
  ·exact h.n2 q
  ·rw [hd1] at q; cases q
end
end Internal
set_option Elab.async false
set_option linter.all false
set_option maxRecDepth 100000
set_option maxHeartbeats 4000000
namespace Internal.K
open PySem Internal
local macro_rules | `(tactic| walk_at "z")=>`(tactic| first
 | assumption
 | exact sz200 (by omega) (by omega)
 | exact szL (by decide) (by omega) (by omega)
 | ((with_reducible apply Nat.le_trans (m:=_)); (focus assumption); omega))
local macro_rules | `(tactic| walk_at "h")=>`(tactic| first
 | assumption
 | (with_reducible exact Same.refl _)
 | ((with_reducible apply Same.at); (focus assumption); walk_at "h")
 | ((with_reducible apply LBut.tup); (focus assumption); walk_at "h")
 | ((with_reducible apply LBut.lst); (focus assumption); (focus walk_at "h"); walk_at "h")
 | ((with_reducible apply SqL.keep); (focus (show SqL _ _ _ _; assumption)); walk_at "h")
 | ((with_reducible apply SqL.of); walk_at "h")
 | ((with_reducible apply Same.after); (focus assumption); walk_at "h")
 | ((with_reducible apply LBut.same); (focus assumption); (focus walk_at "h"); walk_at "h")
 | ((with_reducible apply Same.none); (focus assumption); walk_at "h")
 | ((with_reducible apply LBut.isTs); (focus assumption); walk_at "h")
 | ((with_reducible apply Same.cuts); (focus assumption); walk_at "h")
 | ((with_reducible apply Same.isSh); (focus assumption); walk_at "h")
 | ((with_reducible apply IsSh.of); (focus walk_at "h"); walk_at "h")
 | ((with_reducible apply LBut.ins); (focus assumption); walk_at "h")
 | ((with_reducible apply Bk.same); (focus walk_at "h"); (focus assumption))
 | ((with_reducible apply zaS); (focus assumption); walk_at "h"))
local macro_rules | `(tactic| walk_at "x1")=>`(tactic| first
 | ((with_reducible apply zmh); (focus (exact rfl)))
 | (with_reducible (first
   | apply zmP
   | apply zls
   | apply zl7
   | apply zmf
   | apply zlV
   | apply zmC
   | apply zmn
   | apply zlF
   | apply zmi
   | apply zmy
   | apply zlh
   | apply zl8
   | apply zeg
   | apply zec
   | apply zku))
 | (with_reducible refine zkU (by assumption) ?_)
 | (with_reducible refine zkC (by assumption) ?_)
 | (with_reducible refine zkq (by assumption) ?_)
 | (with_reducible refine zjY (by assumption) ?_)
 | (with_reducible refine zl4 (fun _=>?_) (fun _=>?_))
 | (with_reducible refine zlT (fun _=>?_) (fun _=>?_))
 | (with_reducible refine zlK (fun _=>?_) (fun _=>?_))
 | (with_reducible refine zlD (fun _=>?_) (fun _=>?_))
 | (with_reducible (first
   | apply zmx
   | apply zma))
 | ((with_reducible show rIx _ (V.ref _) (V.int _) _ _); first
   | refine zh5 (by assumption) (by rfl) ?_
   | refine zgk (by assumption) (by omega) (by omega) ?_
   | refine zkd (by assumption) (by omega) (by assumption) ?_
   | refine zh5 (by walk_at "h") (by rfl) ?_
   | refine zgk (by walk_at "h") (by omega) (by omega) ?_
   | refine zek (by walk_at "h") (by assumption) ?_
   | refine zha (by walk_at "h") (by assumption) ?_
   | refine zek (by walk_at "h") (by rfl) ?_)
 | ((with_reducible show zam _ [V.int _,_] _ _); refine zcA ?_)
 | ((with_reducible show zam _ [V.bl _,_] _ _); refine zcA ?_)
 | (with_reducible refine zhl ?_)
 | ((with_reducible show zam _ [V.ref _,V.ty "tuple"] _ _); refine zcA ?_; first | refine IsQ.isT (by walk_at "h") ?_ | refine x_isTT (by walk_at "h") ?_ | refine x_isLT (by walk_at "h") ?_)
 | ((with_reducible show zam _ [V.ref _,V.ty "list"] _ _); refine zcA ?_; first | refine x_isLL (by walk_at "h") ?_ | refine x_isTL (by walk_at "h") ?_)
 | ((with_reducible show zam _ [V.ref _,V.ref _] _ _); refine zjw (by walk_at "h") (by assumption) rfl (by assumption) ?_)
 | ((with_reducible show zam _ [V.ref _,V.ty "ValueError"] _ _); refine zjw (by walk_at "h") (by assumption) rfl (by assumption) ?_)
 | (with_reducible refine zgp (by assumption) (fun _ _ _ _ _=>?_))
 | ((with_reducible show zeD _ [] _); refine zW (by first | decide | simp) (fun _ _ _ _ _=>?_))
 | ((with_reducible show zeD _ [_] _); refine zW (by first | decide | simp) (fun _ _ _ _ _=>?_))
 | ((with_reducible show zeD _ (_ :: _ :: _ :: _) _); refine zW (by first | decide | simp) (fun _ _ _ _ _=>?_))
 | (with_reducible (first
   | apply zjF
   | apply zlQ
   | apply zj1))
 | ((with_reducible show za4 _ [V.ref _] _ _); first | refine IsQ.len (by walk_at "h") ?_ | refine zle (by walk_at "h") ?_ | refine x_lenT' (by walk_at "h") ?_)
 | (with_reducible (first
   | apply zml
   | apply zln
   | apply zkS
   | apply zmI
   | apply zlv
   | apply zkr))
 | ((with_reducible show zd2 _ _ _ (V.ref _) _ _ _); refine zlj (by assumption) rfl ?_)
 | ((with_reducible show zdg _ (V.ref _) (V.int _) _ _); first
   | refine zix (by walk_at "h") (by omega) (by omega) ?_
   | refine zhp (by walk_at "h") (by assumption) ?_)
 | ((with_reducible show zcy (V.ref _) (V.int _) (V.int _) _ _); refine ziD (by walk_at "h") (by omega) (by omega) (fun _ _ _=>?_))
 | ((with_reducible show zds (V.ref _) (V.int _) _ _); first | refine ziL (by walk_at "h") (by omega) (by omega) (fun _ _ _ _ _=>?_) | refine x_repOpt (by walk_at "h") (by omega) (by omega) (fun _ _ _ _ _=>?_) | refine x_repBl (by walk_at "h") (by omega) (by omega) (fun _ _ _ _ _=>?_))
 | ((with_reducible show rIn _ false (V.int _) (V.ref _) _ _); refine zlz (by walk_at "h") ?_)
 | (with_reducible (first
   | apply zmj
   | apply zkH
   | apply zlH
   | apply zlN
   | apply zk6
   | apply zl6
   | apply zmo
   | apply zmg))
 | ((with_reducible show zir _ _ _ (V.ref _) _); refine zk1 (by walk_at "h") (by assumption) (by assumption) (by with_reducible first | exact zim | exact zhQ | exact zgy | exact zhq) ?_)
 | ((with_reducible show zgH _ _ _ _ _ _ _ (V.ref _) _); refine zjZ (by walk_at "h") (zla (by decide +kernel) (by decide +kernel) (by decide +kernel) (by decide +kernel)) ?_)
 | ((with_reducible show zfW _ _ _ _ _); refine ⟨_,_,_,_,_,_,_,rfl,(by walk_at "h"),(by walk_at "h"),?_⟩)
 | ((with_reducible show zgn _ _ _ _ _); refine ⟨_,_,_,_,_,_,rfl,(by walk_at "h"),?_⟩)
 | ((with_reducible show zeH _ _ _ _ _); refine zhu (by walk_at "h") (by omega) (fun _=>?_))
 | ((with_reducible show zeC _ _ _ _ _); refine zii (by walk_at "h") (by omega) (by omega) (by omega) (fun _ _ _=>?_))
 | ((with_reducible show zd0 _ _ _ _ _); refine zgM (by walk_at "h") (by omega) (by omega) (by omega) (by omega) (fun _ _ _=>?_))
 | ((with_reducible show zg5 _ [V.int _] _); refine zj6 (by omega) (by omega) ?_)
 | ((with_reducible show zij _ _ (V.ref _) _); refine zlU (by walk_at "h") ?_)
 | ((with_reducible show zg0 _ _ [V.ref _] _); refine zjO (by walk_at "h") ?_)
 | ((with_reducible show zdr (Itr _ _) _ _ zgE (tC (V.int _)) _ _ _); refine zkv rfl (by omega) (fun _ _ _ _ _=>?_))
 | ((with_reducible show zC _ (V.ref _) (V.ref _) _ _); first | refine ziW (by walk_at "h") (by walk_at "h") rfl ?_ | refine zk0 (by walk_at "h") (by walk_at "h") rfl ?_ | refine x_eqQs (by walk_at "h") (by walk_at "h") (by walk_at "h") (by walk_at "h") ?_)
 | (with_reducible (first
   | apply zkL
   | apply zlY
   | apply zmK
   | apply zlA
   | apply zky))
 | ((with_reducible show tyV _ "list" (V.ref _) _/\_); refine zlW (by walk_at "h") ?_)
 | ((with_reducible show zbx (V.ref _) [_] _ _); refine za6 (by walk_at "h") (by omega) (fun _ _ _=>?_))
 | ((with_reducible show zmQ _ _ _); intro _ _ _ _)
 | ((with_reducible show ziK _ _ _); refine zk7 (by first | decide | simp) (fun _ _ _ _ _=>?_))
 | ((with_reducible show zcN _ _ _ _); refine zhX (by walk_at "h") (fun _ _ _ _ _=>?_))
 | ((with_reducible show zdZ _ _ _ _ _ _); refine zll (by walk_at "h") (fun _ _ _ _ _=>?_))
 | ((with_reducible show zgJ _ _ _ _); refine zmz (by first | decide | omega) ?_)
 | ((with_reducible show zds _ _ _ _); refine zl2 (by first | assumption | (apply CMulS.of; (focus walk_at "z"); (focus walk_at "z"); first | decide | omega)) ?_)
 | ((with_reducible show rI zgQ _ _ _ _ _); refine zme ⟨by decide,by decide,by decide⟩ rfl ?_; (try simp only [Int.reduceToNat,Int.reducePow]))
 | ((with_reducible show Ends.nx _ _ _); dsimp only [List.set,Ends.gone]))
local macro_rules | `(tactic| walk_at "x")=>`(tactic| repeat' (walk_at "x1"))
noncomputable def top (i:Nat):Stmt:=PySem.Challenge.pw_quits_k73_whole_book.main.body.getD i (.Pass ⟨0,0,0,0⟩)
noncomputable abbrev zar:Stmt:=zaa (top 21) 0
noncomputable abbrev zaJ:Stmt:=zaa (top 21) 1
noncomputable abbrev zZ:Stmt:=zaa (top 21) 2
noncomputable abbrev z8:Stmt:=zaa (top 21) 3
noncomputable abbrev zaH:Stmt:=zaa (top 21) 4
noncomputable abbrev zah:Stmt:=zaa (top 21) 5
noncomputable abbrev z3:Stmt:=zaa (top 21) 6
noncomputable abbrev zag:Stmt:=zaa (top 21) 7
noncomputable abbrev zaf:Stmt:=zaa (top 21) 8
noncomputable abbrev zao:Stmt:=zaa (top 21) 9
noncomputable abbrev zX:Stmt:=zaa (top 21) 10
noncomputable abbrev zaW:Stmt:=zaa (top 21) 11
noncomputable abbrev zaZ:Stmt:=zaa (top 21) 12
noncomputable abbrev zaG:Stmt:=zaa (top 21) 13
noncomputable abbrev zbc:Stmt:=zaa (top 21) 14
noncomputable abbrev zab:Stmt:=zaa (top 21) 15
noncomputable abbrev zat:Stmt:=zaa (top 21) 16
noncomputable abbrev zaA:Stmt:=zaa (top 21) 17
noncomputable abbrev zaq:Stmt:=zaa (top 21) 18
noncomputable abbrev zbf:Stmt:=top 23
noncomputable abbrev zba:Stmt:=top 24
noncomputable abbrev zaY:Stmt:=top 25
noncomputable abbrev zaT:Stmt:=top 26
noncomputable abbrev zbt:Stmt:=top 27
noncomputable abbrev zaO:Stmt:=top 28
noncomputable abbrev zbd:Stmt:=top 29
noncomputable abbrev za8:Stmt:=top 30
noncomputable abbrev zbb:Stmt:=top 31
noncomputable abbrev za0:Stmt:=top 32
noncomputable abbrev zaF:Stmt:=top 33
noncomputable abbrev zaL:Stmt:=top 34
noncomputable abbrev zai:Stmt:=top 35
noncomputable abbrev zaK:Stmt:=top 36
noncomputable abbrev zbs:Stmt:=top 37
noncomputable abbrev z9:Stmt:=top 38
noncomputable abbrev z5:Stmt:=top 39
noncomputable abbrev zaI:Stmt:=top 40
noncomputable abbrev zaN:Stmt:=top 41
noncomputable abbrev zcV:Stmt:=top 42
theorem zdQ:FnScope ["self", "many", "wares"] ["self", "many", "wares"] (zi zar):=⟨rfl,rfl,rfl,by decide +kernel,rfl,by decide +kernel,by decide +kernel⟩
theorem zey:FnScope ["self", "payer", "payee", "ware", "units", "amount", "day", "rank"] ["self", "payer", "payee", "ware", "units", "amount", "day", "rank"] (zi zaJ):=⟨rfl,rfl,rfl,by decide +kernel,rfl,by decide +kernel,by decide +kernel⟩
theorem sc_Book_check_members:FnScope ["self", "payer", "payee", "member"] ["self", "payer", "payee"] (zi zZ):=⟨rfl,rfl,rfl,by decide +kernel,rfl,by decide +kernel,by decide +kernel⟩
theorem zda:FnScope ["self", "ware", "units", "amount", "day", "rank"] ["self", "ware", "units", "amount", "day", "rank"] (zi z8):=⟨rfl,rfl,rfl,by decide +kernel,rfl,by decide +kernel,by decide +kernel⟩
theorem sc_Book_change:FnScope ["self", "number", "amount", "day", "old"] ["self", "number", "amount", "day"] (zi zaH):=⟨rfl,rfl,rfl,by decide +kernel,rfl,by decide +kernel,by decide +kernel⟩
theorem zdG:FnScope ["self", "number"] ["self", "number"] (zi zah):=⟨rfl,rfl,rfl,by decide +kernel,rfl,by decide +kernel,by decide +kernel⟩
theorem sc_Book_standing_deal:FnScope ["self", "number", "found"] ["self", "number"] (zi z3):=⟨rfl,rfl,rfl,by decide +kernel,rfl,by decide +kernel,by decide +kernel⟩
theorem zdE:FnScope ["self", "number", "state"] ["self", "number", "state"] (zi zag):=⟨rfl,rfl,rfl,by decide +kernel,rfl,by decide +kernel,by decide +kernel⟩
theorem sc_Book_break_all:FnScope ["self", "member", "numbers", "number"] ["self", "member"] (zi zaf):=⟨rfl,rfl,rfl,by decide +kernel,rfl,by decide +kernel,by decide +kernel⟩
theorem sc_Book_contrary:FnScope ["self", "number", "day", "terms"] ["self", "number", "day"] (zi zao):=⟨rfl,rfl,rfl,by decide +kernel,rfl,by decide +kernel,by decide +kernel⟩
theorem sc_Book_contrary_terms:FnScope ["self", "number", "found"] ["self", "number"] (zi zX):=⟨rfl,rfl,rfl,by decide +kernel,rfl,by decide +kernel,by decide +kernel⟩
theorem sc_Book_close:FnScope ["self", "numbers", "number"] ["self"] (zi zaW):=⟨rfl,rfl,rfl,by decide +kernel,rfl,by decide +kernel,by decide +kernel⟩
theorem zfm:FnScope ["self"] ["self"] (zi zaZ):=⟨rfl,rfl,rfl,by decide +kernel,rfl,by decide +kernel,by decide +kernel⟩
theorem zeM:FnScope ["self"] ["self"] (zi zaG):=⟨rfl,rfl,rfl,by decide +kernel,rfl,by decide +kernel,by decide +kernel⟩
theorem zfS:FnScope ["self", "number"] ["self", "number"] (zi zbc):=⟨rfl,rfl,rfl,by decide +kernel,rfl,by decide +kernel,by decide +kernel⟩
theorem zdc:FnScope ["self", "day"] ["self", "day"] (zi zab):=⟨rfl,rfl,rfl,by decide +kernel,rfl,by decide +kernel,by decide +kernel⟩
theorem sc_Book_sheet_on:FnScope ["self", "day", "some"] ["self", "day"] (zi zat):=⟨rfl,rfl,rfl,by decide +kernel,rfl,by decide +kernel,by decide +kernel⟩
theorem sc_Book_entries:FnScope ["self", "member", "made", "number", "one"] ["self", "member"] (zi zaA):=⟨rfl,rfl,rfl,by decide +kernel,rfl,by decide +kernel,by decide +kernel⟩
theorem sc_Book_position:FnScope ["self", "member", "made", "one"] ["self", "member"] (zi zaq):=⟨rfl,rfl,rfl,by decide +kernel,rfl,by decide +kernel,by decide +kernel⟩
theorem zfM:FnScope ["_law_script", "_law_k"] ["_law_script", "_law_k"] (zi zbf):=⟨rfl,rfl,rfl,by decide +kernel,rfl,by decide +kernel,by decide +kernel⟩
theorem zfC:FnScope ["_law_script", "_law_k", "_law_many"] ["_law_script", "_law_k", "_law_many"] (zi zba):=⟨rfl,rfl,rfl,by decide +kernel,rfl,by decide +kernel,by decide +kernel⟩
theorem zfo:FnScope ["_law_script", "_law_k", "_law_many"] ["_law_script", "_law_k", "_law_many"] (zi zaY):=⟨rfl,rfl,rfl,by decide +kernel,rfl,by decide +kernel,by decide +kernel⟩
theorem sc__law_field:FnScope ["_law_script", "_law_k", "_law_low", "_law_high", "_law_way"] ["_law_script", "_law_k", "_law_low", "_law_high"] (zi zaT):=⟨rfl,rfl,rfl,by decide +kernel,rfl,by decide +kernel,by decide +kernel⟩
theorem sc__law_day:FnScope ["_law_script", "_law_k", "_law_today", "_law_way"] ["_law_script", "_law_k", "_law_today"] (zi zbt):=⟨rfl,rfl,rfl,by decide +kernel,rfl,by decide +kernel,by decide +kernel⟩
theorem sc__law_number:FnScope ["_law_script", "_law_k", "_law_rows", "_law_way"] ["_law_script", "_law_k", "_law_rows"] (zi zaO):=⟨rfl,rfl,rfl,by decide +kernel,rfl,by decide +kernel,by decide +kernel⟩
theorem sc__law_deed:FnScope ["_law_script", "_law_at", "_law_rows", "_law_many", "_law_wares", "_law_today", "_law_way", "_law_deed_here", "_law_number_here"] ["_law_script", "_law_at", "_law_rows", "_law_many", "_law_wares", "_law_today"] (zi zbd):=⟨rfl,rfl,rfl,by decide +kernel,rfl,by decide +kernel,by decide +kernel⟩
theorem sc__law_name:FnScope ["_law_e", "_law_found_here"] ["_law_e"] (zi za8):=⟨rfl,rfl,rfl,by decide +kernel,rfl,by decide +kernel,by decide +kernel⟩
theorem zfR:FnScope ["_law_book", "_law_deed_here"] ["_law_book", "_law_deed_here"] (zi zbb):=⟨rfl,rfl,rfl,by decide +kernel,rfl,by decide +kernel,by decide +kernel⟩
theorem sc__law_found:FnScope ["_law_book", "_law_deed_here", "_law_found_here", "_law_e"] ["_law_book", "_law_deed_here"] (zi za0):=⟨rfl,rfl,rfl,by decide +kernel,rfl,by decide +kernel,by decide +kernel⟩
theorem zeI:FnScope ["_law_rows", "_law_many", "_law_wares", "_law_today", "_law_terms"] ["_law_rows", "_law_many", "_law_wares", "_law_today", "_law_terms"] (zi zaF):=⟨rfl,rfl,rfl,by decide +kernel,rfl,by decide +kernel,by decide +kernel⟩
theorem sc__law_turned:FnScope ["_law_rows", "_law_today", "_law_deed_here", "_law_row"] ["_law_rows", "_law_today", "_law_deed_here"] (zi zaL):=⟨rfl,rfl,rfl,by decide +kernel,rfl,by decide +kernel,by decide +kernel⟩
theorem sc__law_set_right:FnScope ["_law_rows", "_law_many", "_law_wares", "_law_today", "_law_deed_here", "_law_row"] ["_law_rows", "_law_many", "_law_wares", "_law_today", "_law_deed_here"] (zi zai):=⟨rfl,rfl,rfl,by decide +kernel,rfl,by decide +kernel,by decide +kernel⟩
theorem sc__law_marked:FnScope ["_law_rows", "_law_numbers", "_law_state", "_law_number_here"] ["_law_rows", "_law_numbers", "_law_state"] (zi zaK):=⟨rfl,rfl,rfl,by decide +kernel,rfl,by decide +kernel,by decide +kernel⟩
theorem sc__law_due:FnScope ["_law_rows", "_law_many", "_law_wares", "_law_today", "_law_deed_here", "_law_standing"] ["_law_rows", "_law_many", "_law_wares", "_law_today", "_law_deed_here"] (zi zbs):=⟨rfl,rfl,rfl,by decide +kernel,rfl,by decide +kernel,by decide +kernel⟩
theorem sc__law_entries_due:FnScope ["_law_rows", "_law_member", "_law_due_here", "_law_number_here"] ["_law_rows", "_law_member"] (zi z9):=⟨rfl,rfl,rfl,by decide +kernel,rfl,by decide +kernel,by decide +kernel⟩
theorem sc__law_position_due:FnScope ["_law_rows", "_law_member", "_law_wares", "_law_due_here", "_law_row"] ["_law_rows", "_law_member", "_law_wares"] (zi z5):=⟨rfl,rfl,rfl,by decide +kernel,rfl,by decide +kernel,by decide +kernel⟩
theorem sc__law_looked:FnScope ["_law_book", "_law_rows", "_law_way", "_law_nth", "_law_many", "_law_wares", "_law_today", "_law_number_here", "_law_numbers", "_law_sheet", "_law_k"] ["_law_book", "_law_rows", "_law_way", "_law_nth", "_law_many", "_law_wares", "_law_today"] (zi zaI):=⟨rfl,rfl,rfl,by decide +kernel,rfl,by decide +kernel,by decide +kernel⟩
theorem sc__law_evened:FnScope ["_law_book", "_law_rows", "_law_many", "_law_sums", "_law_member", "_law_entry", "_law_row", "_law_day_here"] ["_law_book", "_law_rows", "_law_many"] (zi zaN):=⟨rfl,rfl,rfl,by decide +kernel,rfl,by decide +kernel,by decide +kernel⟩
theorem sc_law:FnScope ["_law_script", "_law_many", "_law_wares", "_law_book", "_law_rows", "_law_today", "_law_k", "_law_at", "_law_deed_here", "_law_found_here", "_law_way", "_law_nth", "_law_row"] ["_law_script"] (zi zcV):=⟨rfl,rfl,rfl,by decide +kernel,rfl,by decide +kernel,by decide +kernel⟩
theorem zdb {α:Type} {us:List α} (h:us.length=0):us=[]:=List.eq_nil_of_length_eq_zero h
theorem z6 {α:Type} {us:List α} {n:Nat} (h:us.length=n + 1):∃ a vs,us=a :: vs/\vs.length=n:=by
 cases us with
 | nil=>cases h
 | cons a vs=>exact ⟨a,vs,rfl,Nat.succ.inj h⟩
theorem len1 {α:Type} {us:List α} (h:us.length=1):∃ a0,us=[a0]:=by
 obtain ⟨a0,us0,rfl,h0⟩:=z6 h
 obtain rfl:=zdb h0
 exact ⟨a0,rfl⟩
theorem len2 {α:Type} {us:List α} (h:us.length=2):∃ a0 a1,us=[a0,a1]:=by
 obtain ⟨a0,us0,rfl,h0⟩:=z6 h
 obtain ⟨a1,us1,rfl,h1⟩:=z6 h0
 obtain rfl:=zdb h1
 exact ⟨a0,a1,rfl⟩
theorem len3 {α:Type} {us:List α} (h:us.length=3):∃ a0 a1 a2,us=[a0,a1,a2]:=by
 obtain ⟨a0,us0,rfl,h0⟩:=z6 h
 obtain ⟨a1,us1,rfl,h1⟩:=z6 h0
 obtain ⟨a2,us2,rfl,h2⟩:=z6 h1
 obtain rfl:=zdb h2
 exact ⟨a0,a1,a2,rfl⟩
theorem len4 {α:Type} {us:List α} (h:us.length=4):∃ a0 a1 a2 a3,us=[a0,a1,a2,a3]:=by
 obtain ⟨a0,us0,rfl,h0⟩:=z6 h
 obtain ⟨a1,us1,rfl,h1⟩:=z6 h0
 obtain ⟨a2,us2,rfl,h2⟩:=z6 h1
 obtain ⟨a3,us3,rfl,h3⟩:=z6 h2
 obtain rfl:=zdb h3
 exact ⟨a0,a1,a2,a3,rfl⟩
theorem len5 {α:Type} {us:List α} (h:us.length=5):∃ a0 a1 a2 a3 a4,us=[a0,a1,a2,a3,a4]:=by
 obtain ⟨a0,us0,rfl,h0⟩:=z6 h
 obtain ⟨a1,us1,rfl,h1⟩:=z6 h0
 obtain ⟨a2,us2,rfl,h2⟩:=z6 h1
 obtain ⟨a3,us3,rfl,h3⟩:=z6 h2
 obtain ⟨a4,us4,rfl,h4⟩:=z6 h3
 obtain rfl:=zdb h4
 exact ⟨a0,a1,a2,a3,a4,rfl⟩
theorem len6 {α:Type} {us:List α} (h:us.length=6):∃ a0 a1 a2 a3 a4 a5,us=[a0,a1,a2,a3,a4,a5]:=by
 obtain ⟨a0,us0,rfl,h0⟩:=z6 h
 obtain ⟨a1,us1,rfl,h1⟩:=z6 h0
 obtain ⟨a2,us2,rfl,h2⟩:=z6 h1
 obtain ⟨a3,us3,rfl,h3⟩:=z6 h2
 obtain ⟨a4,us4,rfl,h4⟩:=z6 h3
 obtain ⟨a5,us5,rfl,h5⟩:=z6 h4
 obtain rfl:=zdb h5
 exact ⟨a0,a1,a2,a3,a4,a5,rfl⟩
theorem len7 {α:Type} {us:List α} (h:us.length=7):∃ a0 a1 a2 a3 a4 a5 a6,us=[a0,a1,a2,a3,a4,a5,a6]:=by
 obtain ⟨a0,us0,rfl,h0⟩:=z6 h
 obtain ⟨a1,us1,rfl,h1⟩:=z6 h0
 obtain ⟨a2,us2,rfl,h2⟩:=z6 h1
 obtain ⟨a3,us3,rfl,h3⟩:=z6 h2
 obtain ⟨a4,us4,rfl,h4⟩:=z6 h3
 obtain ⟨a5,us5,rfl,h5⟩:=z6 h4
 obtain ⟨a6,us6,rfl,h6⟩:=z6 h5
 obtain rfl:=zdb h6
 exact ⟨a0,a1,a2,a3,a4,a5,a6,rfl⟩
theorem len8 {α:Type} {us:List α} (h:us.length=8):∃ a0 a1 a2 a3 a4 a5 a6 a7,us=[a0,a1,a2,a3,a4,a5,a6,a7]:=by
 obtain ⟨a0,us0,rfl,h0⟩:=z6 h
 obtain ⟨a1,us1,rfl,h1⟩:=z6 h0
 obtain ⟨a2,us2,rfl,h2⟩:=z6 h1
 obtain ⟨a3,us3,rfl,h3⟩:=z6 h2
 obtain ⟨a4,us4,rfl,h4⟩:=z6 h3
 obtain ⟨a5,us5,rfl,h5⟩:=z6 h4
 obtain ⟨a6,us6,rfl,h6⟩:=z6 h5
 obtain ⟨a7,us7,rfl,h7⟩:=z6 h6
 obtain rfl:=zdb h7
 exact ⟨a0,a1,a2,a3,a4,a5,a6,a7,rfl⟩
set_option genInjectivity false in
set_option genSizeOf false in
set_option genInjectivity false in
set_option genSizeOf false in
structure Dfn (K:PySem.W.Frag) (mg:Str->Option Value) (x qual:Str) (st:Stmt) (ps:List Str) where
 a:Addr
 fd:FuncData
 F:Fun K x qual st a fd
 b:Binds K fd ps []
 m:mg x=some (.ref a)
set_option genInjectivity false in
set_option genSizeOf false in
set_option genInjectivity false in
set_option genSizeOf false in
structure DfnM (K:PySem.W.Frag) (C:Addr) (x qual:Str) (st:Stmt) (ps:List Str) where
 a:Addr
 fd:FuncData
 F:Fun K x qual st a fd
 b:Binds K fd ps []
 mt:Meth K C x a
set_option genInjectivity false in
set_option genSizeOf false in
set_option genInjectivity false in
set_option genSizeOf false in
structure Txt (K:PySem.W.Frag) (mg:Str->Option Value) where
 c_Closed:Addr
 m_Closed:mg "Closed" = some (.ref c_Closed)
 c_Gone:Addr
 m_Gone:mg "Gone" = some (.ref c_Gone)
 c_NoDeal:Addr
 m_NoDeal:mg "NoDeal" = some (.ref c_NoDeal)
 c_NoMember:Addr
 m_NoMember:mg "NoMember" = some (.ref c_NoMember)
 c_NoTerms:Addr
 m_NoTerms:mg "NoTerms" = some (.ref c_NoTerms)
 c_QuitsError:Addr
 m_QuitsError:mg "QuitsError" = some (.ref c_QuitsError)
 c_Settled:Addr
 m_Settled:mg "Settled" = some (.ref c_Settled)
 c_Standing:Addr
 m_Standing:mg "Standing" = some (.ref c_Standing)
 e_Closed:errOk K c_Closed=true
 i_Closed_Closed:PySem.W.kitOne K (.ref c_Closed) (.ref c_Closed)=some true
 i_Closed_Gone:PySem.W.kitOne K (.ref c_Closed) (.ref c_Gone)=some false
 i_Closed_NoDeal:PySem.W.kitOne K (.ref c_Closed) (.ref c_NoDeal)=some false
 i_Closed_NoMember:PySem.W.kitOne K (.ref c_Closed) (.ref c_NoMember)=some false
 i_Closed_NoTerms:PySem.W.kitOne K (.ref c_Closed) (.ref c_NoTerms)=some false
 i_Closed_QuitsError:PySem.W.kitOne K (.ref c_Closed) (.ref c_QuitsError)=some true
 i_Closed_Settled:PySem.W.kitOne K (.ref c_Closed) (.ref c_Settled)=some false
 i_Closed_Standing:PySem.W.kitOne K (.ref c_Closed) (.ref c_Standing)=some false
 i_Closed_ValueError:PySem.W.kitOne K (.ref c_Closed) (.type "ValueError")=some true
 q_Closed_QuitsError:PySem.W.exmOne K (.ref c_Closed) (.ref c_QuitsError)=some true
 e_Gone:errOk K c_Gone=true
 i_Gone_Closed:PySem.W.kitOne K (.ref c_Gone) (.ref c_Closed)=some false
 i_Gone_Gone:PySem.W.kitOne K (.ref c_Gone) (.ref c_Gone)=some true
 i_Gone_NoDeal:PySem.W.kitOne K (.ref c_Gone) (.ref c_NoDeal)=some false
 i_Gone_NoMember:PySem.W.kitOne K (.ref c_Gone) (.ref c_NoMember)=some false
 i_Gone_NoTerms:PySem.W.kitOne K (.ref c_Gone) (.ref c_NoTerms)=some false
 i_Gone_QuitsError:PySem.W.kitOne K (.ref c_Gone) (.ref c_QuitsError)=some true
 i_Gone_Settled:PySem.W.kitOne K (.ref c_Gone) (.ref c_Settled)=some false
 i_Gone_Standing:PySem.W.kitOne K (.ref c_Gone) (.ref c_Standing)=some false
 i_Gone_ValueError:PySem.W.kitOne K (.ref c_Gone) (.type "ValueError")=some true
 q_Gone_QuitsError:PySem.W.exmOne K (.ref c_Gone) (.ref c_QuitsError)=some true
 e_NoDeal:errOk K c_NoDeal=true
 i_NoDeal_Closed:PySem.W.kitOne K (.ref c_NoDeal) (.ref c_Closed)=some false
 i_NoDeal_Gone:PySem.W.kitOne K (.ref c_NoDeal) (.ref c_Gone)=some false
 i_NoDeal_NoDeal:PySem.W.kitOne K (.ref c_NoDeal) (.ref c_NoDeal)=some true
 i_NoDeal_NoMember:PySem.W.kitOne K (.ref c_NoDeal) (.ref c_NoMember)=some false
 i_NoDeal_NoTerms:PySem.W.kitOne K (.ref c_NoDeal) (.ref c_NoTerms)=some false
 i_NoDeal_QuitsError:PySem.W.kitOne K (.ref c_NoDeal) (.ref c_QuitsError)=some true
 i_NoDeal_Settled:PySem.W.kitOne K (.ref c_NoDeal) (.ref c_Settled)=some false
 i_NoDeal_Standing:PySem.W.kitOne K (.ref c_NoDeal) (.ref c_Standing)=some false
 i_NoDeal_ValueError:PySem.W.kitOne K (.ref c_NoDeal) (.type "ValueError")=some true
 q_NoDeal_QuitsError:PySem.W.exmOne K (.ref c_NoDeal) (.ref c_QuitsError)=some true
 e_NoMember:errOk K c_NoMember=true
 i_NoMember_Closed:PySem.W.kitOne K (.ref c_NoMember) (.ref c_Closed)=some false
 i_NoMember_Gone:PySem.W.kitOne K (.ref c_NoMember) (.ref c_Gone)=some false
 i_NoMember_NoDeal:PySem.W.kitOne K (.ref c_NoMember) (.ref c_NoDeal)=some false
 i_NoMember_NoMember:PySem.W.kitOne K (.ref c_NoMember) (.ref c_NoMember)=some true
 i_NoMember_NoTerms:PySem.W.kitOne K (.ref c_NoMember) (.ref c_NoTerms)=some false
 i_NoMember_QuitsError:PySem.W.kitOne K (.ref c_NoMember) (.ref c_QuitsError)=some true
 i_NoMember_Settled:PySem.W.kitOne K (.ref c_NoMember) (.ref c_Settled)=some false
 i_NoMember_Standing:PySem.W.kitOne K (.ref c_NoMember) (.ref c_Standing)=some false
 i_NoMember_ValueError:PySem.W.kitOne K (.ref c_NoMember) (.type "ValueError")=some true
 q_NoMember_QuitsError:PySem.W.exmOne K (.ref c_NoMember) (.ref c_QuitsError)=some true
 e_NoTerms:errOk K c_NoTerms=true
 i_NoTerms_Closed:PySem.W.kitOne K (.ref c_NoTerms) (.ref c_Closed)=some false
 i_NoTerms_Gone:PySem.W.kitOne K (.ref c_NoTerms) (.ref c_Gone)=some false
 i_NoTerms_NoDeal:PySem.W.kitOne K (.ref c_NoTerms) (.ref c_NoDeal)=some false
 i_NoTerms_NoMember:PySem.W.kitOne K (.ref c_NoTerms) (.ref c_NoMember)=some false
 i_NoTerms_NoTerms:PySem.W.kitOne K (.ref c_NoTerms) (.ref c_NoTerms)=some true
 i_NoTerms_QuitsError:PySem.W.kitOne K (.ref c_NoTerms) (.ref c_QuitsError)=some true
 i_NoTerms_Settled:PySem.W.kitOne K (.ref c_NoTerms) (.ref c_Settled)=some false
 i_NoTerms_Standing:PySem.W.kitOne K (.ref c_NoTerms) (.ref c_Standing)=some false
 i_NoTerms_ValueError:PySem.W.kitOne K (.ref c_NoTerms) (.type "ValueError")=some true
 q_NoTerms_QuitsError:PySem.W.exmOne K (.ref c_NoTerms) (.ref c_QuitsError)=some true
 e_Settled:errOk K c_Settled=true
 i_Settled_Closed:PySem.W.kitOne K (.ref c_Settled) (.ref c_Closed)=some false
 i_Settled_Gone:PySem.W.kitOne K (.ref c_Settled) (.ref c_Gone)=some false
 i_Settled_NoDeal:PySem.W.kitOne K (.ref c_Settled) (.ref c_NoDeal)=some false
 i_Settled_NoMember:PySem.W.kitOne K (.ref c_Settled) (.ref c_NoMember)=some false
 i_Settled_NoTerms:PySem.W.kitOne K (.ref c_Settled) (.ref c_NoTerms)=some false
 i_Settled_QuitsError:PySem.W.kitOne K (.ref c_Settled) (.ref c_QuitsError)=some true
 i_Settled_Settled:PySem.W.kitOne K (.ref c_Settled) (.ref c_Settled)=some true
 i_Settled_Standing:PySem.W.kitOne K (.ref c_Settled) (.ref c_Standing)=some false
 i_Settled_ValueError:PySem.W.kitOne K (.ref c_Settled) (.type "ValueError")=some true
 q_Settled_QuitsError:PySem.W.exmOne K (.ref c_Settled) (.ref c_QuitsError)=some true
 e_Standing:errOk K c_Standing=true
 i_Standing_Closed:PySem.W.kitOne K (.ref c_Standing) (.ref c_Closed)=some false
 i_Standing_Gone:PySem.W.kitOne K (.ref c_Standing) (.ref c_Gone)=some false
 i_Standing_NoDeal:PySem.W.kitOne K (.ref c_Standing) (.ref c_NoDeal)=some false
 i_Standing_NoMember:PySem.W.kitOne K (.ref c_Standing) (.ref c_NoMember)=some false
 i_Standing_NoTerms:PySem.W.kitOne K (.ref c_Standing) (.ref c_NoTerms)=some false
 i_Standing_QuitsError:PySem.W.kitOne K (.ref c_Standing) (.ref c_QuitsError)=some true
 i_Standing_Settled:PySem.W.kitOne K (.ref c_Standing) (.ref c_Settled)=some false
 i_Standing_Standing:PySem.W.kitOne K (.ref c_Standing) (.ref c_Standing)=some true
 i_Standing_ValueError:PySem.W.kitOne K (.ref c_Standing) (.type "ValueError")=some true
 q_Standing_QuitsError:PySem.W.exmOne K (.ref c_Standing) (.ref c_QuitsError)=some true
 c_Book:Addr
 m_Book:mg "Book" = some (.ref c_Book)
 cl_Book:Cls K c_Book
 na_Book_day:NoAttr K c_Book "day"
 na_Book_deals:NoAttr K c_Book "deals"
 na_Book_get:NoAttr K c_Book "get"
 na_Book_many:NoAttr K c_Book "many"
 na_Book_wares:NoAttr K c_Book "wares"
 t_AMOUNT:Tok
 g_AMOUNT:mg "AMOUNT" = some (.int 4 t_AMOUNT)
 t_DAY:Tok
 g_DAY:mg "DAY" = some (.int 5 t_DAY)
 t_MOST_AMOUNT:Tok
 g_MOST_AMOUNT:mg "MOST_AMOUNT" = some (.int 1000000000 t_MOST_AMOUNT)
 t_MOST_DAY:Tok
 g_MOST_DAY:mg "MOST_DAY" = some (.int 1000000 t_MOST_DAY)
 t_MOST_UNITS:Tok
 g_MOST_UNITS:mg "MOST_UNITS" = some (.int 1000000 t_MOST_UNITS)
 t_PAYEE:Tok
 g_PAYEE:mg "PAYEE" = some (.int 1 t_PAYEE)
 t_PAYER:Tok
 g_PAYER:mg "PAYER" = some (.int 0 t_PAYER)
 t_RANK:Tok
 g_RANK:mg "RANK" = some (.int 6 t_RANK)
 t_STATE:Tok
 g_STATE:mg "STATE" = some (.int 7 t_STATE)
 t_UNITS:Tok
 g_UNITS:mg "UNITS" = some (.int 3 t_UNITS)
 t_WARE:Tok
 g_WARE:mg "WARE" = some (.int 2 t_WARE)
 d_Book___init__:DfnM K c_Book "__init__" "Book.__init__" zar ["self", "many", "wares"]
 mk_Book:Mk K c_Book d_Book___init__.a
 d_Book_strike:DfnM K c_Book "strike" "Book.strike" zaJ ["self", "payer", "payee", "ware", "units", "amount", "day", "rank"]
 d_Book_check_members:DfnM K c_Book "check_members" "Book.check_members" zZ ["self", "payer", "payee"]
 d_Book_check_terms:DfnM K c_Book "check_terms" "Book.check_terms" z8 ["self", "ware", "units", "amount", "day", "rank"]
 d_Book_change:DfnM K c_Book "change" "Book.change" zaH ["self", "number", "amount", "day"]
 d_Book_break_off:DfnM K c_Book "break_off" "Book.break_off" zah ["self", "number"]
 d_Book_standing_deal:DfnM K c_Book "standing_deal" "Book.standing_deal" z3 ["self", "number"]
 d_Book_put_state:DfnM K c_Book "put_state" "Book.put_state" zag ["self", "number", "state"]
 d_Book_break_all:DfnM K c_Book "break_all" "Book.break_all" zaf ["self", "member"]
 d_Book_contrary:DfnM K c_Book "contrary" "Book.contrary" zao ["self", "number", "day"]
 d_Book_contrary_terms:DfnM K c_Book "contrary_terms" "Book.contrary_terms" zX ["self", "number"]
 d_Book_close:DfnM K c_Book "close" "Book.close" zaW ["self"]
 d_Book_today:DfnM K c_Book "today" "Book.today" zaZ ["self"]
 d_Book_struck:DfnM K c_Book "struck" "Book.struck" zaG ["self"]
 d_Book_deal:DfnM K c_Book "deal" "Book.deal" zbc ["self", "number"]
 d_Book_numbers_on:DfnM K c_Book "numbers_on" "Book.numbers_on" zab ["self", "day"]
 d_Book_sheet_on:DfnM K c_Book "sheet_on" "Book.sheet_on" zat ["self", "day"]
 d_Book_entries:DfnM K c_Book "entries" "Book.entries" zaA ["self", "member"]
 d_Book_position:DfnM K c_Book "position" "Book.position" zaq ["self", "member"]
 d__law_cell:Dfn K mg "_law_cell" "_law_cell" zbf ["_law_script", "_law_k"]
 d__law_draw:Dfn K mg "_law_draw" "_law_draw" zba ["_law_script", "_law_k", "_law_many"]
 d__law_great:Dfn K mg "_law_great" "_law_great" zaY ["_law_script", "_law_k", "_law_many"]
 d__law_field:Dfn K mg "_law_field" "_law_field" zaT ["_law_script", "_law_k", "_law_low", "_law_high"]
 d__law_day:Dfn K mg "_law_day" "_law_day" zbt ["_law_script", "_law_k", "_law_today"]
 d__law_number:Dfn K mg "_law_number" "_law_number" zaO ["_law_script", "_law_k", "_law_rows"]
 d__law_deed:Dfn K mg "_law_deed" "_law_deed" zbd ["_law_script", "_law_at", "_law_rows", "_law_many", "_law_wares", "_law_today"]
 d__law_name:Dfn K mg "_law_name" "_law_name" za8 ["_law_e"]
 d__law_done:Dfn K mg "_law_done" "_law_done" zbb ["_law_book", "_law_deed_here"]
 d__law_found:Dfn K mg "_law_found" "_law_found" za0 ["_law_book", "_law_deed_here"]
 d__law_struck:Dfn K mg "_law_struck" "_law_struck" zaF ["_law_rows", "_law_many", "_law_wares", "_law_today", "_law_terms"]
 d__law_turned:Dfn K mg "_law_turned" "_law_turned" zaL ["_law_rows", "_law_today", "_law_deed_here"]
 d__law_set_right:Dfn K mg "_law_set_right" "_law_set_right" zai ["_law_rows", "_law_many", "_law_wares", "_law_today", "_law_deed_here"]
 d__law_marked:Dfn K mg "_law_marked" "_law_marked" zaK ["_law_rows", "_law_numbers", "_law_state"]
 d__law_due:Dfn K mg "_law_due" "_law_due" zbs ["_law_rows", "_law_many", "_law_wares", "_law_today", "_law_deed_here"]
 d__law_entries_due:Dfn K mg "_law_entries_due" "_law_entries_due" z9 ["_law_rows", "_law_member"]
 d__law_position_due:Dfn K mg "_law_position_due" "_law_position_due" z5 ["_law_rows", "_law_member", "_law_wares"]
 d__law_looked:Dfn K mg "_law_looked" "_law_looked" zaI ["_law_book", "_law_rows", "_law_way", "_law_nth", "_law_many", "_law_wares", "_law_today"]
 d__law_evened:Dfn K mg "_law_evened" "_law_evened" zaN ["_law_book", "_law_rows", "_law_many"]
 d_law:Dfn K mg "law" "law" zcV ["_law_script"]
 bl_law:∀ (s:Shared) (v:Value),BindsTo s d_law.fd ⟨[v],[]⟩ [("_law_script",v)]
 z_ValueError:mg "ValueError" = none
 z_bool:mg "bool" = none
 z_enumerate:mg "enumerate" = none
 z_isinstance:mg "isinstance" = none
 z_len:mg "len" = none
 z_list:mg "list" = none
 z_max:mg "max" = none
 z_min:mg "min" = none
 z_range:mg "range" = none
 z_sorted:mg "sorted" = none
 z_tuple:mg "tuple" = none
noncomputable def txt_mk {K:PySem.W.Frag} {h:Heap} {mg:Str->Option Value} (X:K.In h) (G:h.Ns mainGlobals mg)
 {c_Closed:Addr}
 {c_Gone:Addr}
 {c_NoDeal:Addr}
 {c_NoMember:Addr}
 {c_NoTerms:Addr}
 {c_QuitsError:Addr}
 {c_Settled:Addr}
 {c_Standing:Addr}
 {c_Book:Addr}
 {t_AMOUNT:Tok}
 {t_DAY:Tok}
 {t_MOST_AMOUNT:Tok}
 {t_MOST_DAY:Tok}
 {t_MOST_UNITS:Tok}
 {t_PAYEE:Tok}
 {t_PAYER:Tok}
 {t_RANK:Tok}
 {t_STATE:Tok}
 {t_UNITS:Tok}
 {t_WARE:Tok}
 {f0:Addr} {o0 v0 e0 p0 q0 t0:Value} {d0 n0:Option Addr} {r0:Array (Option Value)}
 {f1:Addr} {o1 v1 e1 p1 q1 t1:Value} {d1 n1:Option Addr} {r1:Array (Option Value)}
 {f2:Addr} {o2 v2 e2 p2 q2 t2:Value} {d2 n2:Option Addr} {r2:Array (Option Value)}
 {f3:Addr} {o3 v3 e3 p3 q3 t3:Value} {d3 n3:Option Addr} {r3:Array (Option Value)}
 {f4:Addr} {o4 v4 e4 p4 q4 t4:Value} {d4 n4:Option Addr} {r4:Array (Option Value)}
 {f5:Addr} {o5 v5 e5 p5 q5 t5:Value} {d5 n5:Option Addr} {r5:Array (Option Value)}
 {f6:Addr} {o6 v6 e6 p6 q6 t6:Value} {d6 n6:Option Addr} {r6:Array (Option Value)}
 {f7:Addr} {o7 v7 e7 p7 q7 t7:Value} {d7 n7:Option Addr} {r7:Array (Option Value)}
 {f8:Addr} {o8 v8 e8 p8 q8 t8:Value} {d8 n8:Option Addr} {r8:Array (Option Value)}
 {f9:Addr} {o9 v9 e9 p9 q9 t9:Value} {d9 n9:Option Addr} {r9:Array (Option Value)}
 {f10:Addr} {o10 v10 e10 p10 q10 t10:Value} {d10 n10:Option Addr} {r10:Array (Option Value)}
 {f11:Addr} {o11 v11 e11 p11 q11 t11:Value} {d11 n11:Option Addr} {r11:Array (Option Value)}
 {f12:Addr} {o12 v12 e12 p12 q12 t12:Value} {d12 n12:Option Addr} {r12:Array (Option Value)}
 {f13:Addr} {o13 v13 e13 p13 q13 t13:Value} {d13 n13:Option Addr} {r13:Array (Option Value)}
 {f14:Addr} {o14 v14 e14 p14 q14 t14:Value} {d14 n14:Option Addr} {r14:Array (Option Value)}
 {f15:Addr} {o15 v15 e15 p15 q15 t15:Value} {d15 n15:Option Addr} {r15:Array (Option Value)}
 {f16:Addr} {o16 v16 e16 p16 q16 t16:Value} {d16 n16:Option Addr} {r16:Array (Option Value)}
 {f17:Addr} {o17 v17 e17 p17 q17 t17:Value} {d17 n17:Option Addr} {r17:Array (Option Value)}
 {f18:Addr} {o18 v18 e18 p18 q18 t18:Value} {d18 n18:Option Addr} {r18:Array (Option Value)}
 {f19:Addr} {o19 v19 e19 p19 q19 t19:Value} {d19 n19:Option Addr} {r19:Array (Option Value)}
 {f20:Addr} {o20 v20 e20 p20 q20 t20:Value} {d20 n20:Option Addr} {r20:Array (Option Value)}
 {f21:Addr} {o21 v21 e21 p21 q21 t21:Value} {d21 n21:Option Addr} {r21:Array (Option Value)}
 {f22:Addr} {o22 v22 e22 p22 q22 t22:Value} {d22 n22:Option Addr} {r22:Array (Option Value)}
 {f23:Addr} {o23 v23 e23 p23 q23 t23:Value} {d23 n23:Option Addr} {r23:Array (Option Value)}
 {f24:Addr} {o24 v24 e24 p24 q24 t24:Value} {d24 n24:Option Addr} {r24:Array (Option Value)}
 {f25:Addr} {o25 v25 e25 p25 q25 t25:Value} {d25 n25:Option Addr} {r25:Array (Option Value)}
 {f26:Addr} {o26 v26 e26 p26 q26 t26:Value} {d26 n26:Option Addr} {r26:Array (Option Value)}
 {f27:Addr} {o27 v27 e27 p27 q27 t27:Value} {d27 n27:Option Addr} {r27:Array (Option Value)}
 {f28:Addr} {o28 v28 e28 p28 q28 t28:Value} {d28 n28:Option Addr} {r28:Array (Option Value)}
 {f29:Addr} {o29 v29 e29 p29 q29 t29:Value} {d29 n29:Option Addr} {r29:Array (Option Value)}
 {f30:Addr} {o30 v30 e30 p30 q30 t30:Value} {d30 n30:Option Addr} {r30:Array (Option Value)}
 {f31:Addr} {o31 v31 e31 p31 q31 t31:Value} {d31 n31:Option Addr} {r31:Array (Option Value)}
 {f32:Addr} {o32 v32 e32 p32 q32 t32:Value} {d32 n32:Option Addr} {r32:Array (Option Value)}
 {f33:Addr} {o33 v33 e33 p33 q33 t33:Value} {d33 n33:Option Addr} {r33:Array (Option Value)}
 {f34:Addr} {o34 v34 e34 p34 q34 t34:Value} {d34 n34:Option Addr} {r34:Array (Option Value)}
 {f35:Addr} {o35 v35 e35 p35 q35 t35:Value} {d35 n35:Option Addr} {r35:Array (Option Value)}
 {f36:Addr} {o36 v36 e36 p36 q36 t36:Value} {d36 n36:Option Addr} {r36:Array (Option Value)}
 {f37:Addr} {o37 v37 e37 p37 q37 t37:Value} {d37 n37:Option Addr} {r37:Array (Option Value)}
 {f38:Addr} {o38 v38 e38 p38 q38 t38:Value} {d38 n38:Option Addr} {r38:Array (Option Value)}
 (m_Closed:PySem.W.nsIn K mainGlobals "Closed" = some (some (.ref c_Closed)))
 (m_Gone:PySem.W.nsIn K mainGlobals "Gone" = some (some (.ref c_Gone)))
 (m_NoDeal:PySem.W.nsIn K mainGlobals "NoDeal" = some (some (.ref c_NoDeal)))
 (m_NoMember:PySem.W.nsIn K mainGlobals "NoMember" = some (some (.ref c_NoMember)))
 (m_NoTerms:PySem.W.nsIn K mainGlobals "NoTerms" = some (some (.ref c_NoTerms)))
 (m_QuitsError:PySem.W.nsIn K mainGlobals "QuitsError" = some (some (.ref c_QuitsError)))
 (m_Settled:PySem.W.nsIn K mainGlobals "Settled" = some (some (.ref c_Settled)))
 (m_Standing:PySem.W.nsIn K mainGlobals "Standing" = some (some (.ref c_Standing)))
 (hd_Closed:PySem.W.hasDictIn K c_Closed=true) (ty_Closed:PySem.W.typeIn K (.ref c_Closed)=some (.type "type"))
 (hd_Gone:PySem.W.hasDictIn K c_Gone=true) (ty_Gone:PySem.W.typeIn K (.ref c_Gone)=some (.type "type"))
 (hd_NoDeal:PySem.W.hasDictIn K c_NoDeal=true) (ty_NoDeal:PySem.W.typeIn K (.ref c_NoDeal)=some (.type "type"))
 (hd_NoMember:PySem.W.hasDictIn K c_NoMember=true) (ty_NoMember:PySem.W.typeIn K (.ref c_NoMember)=some (.type "type"))
 (hd_NoTerms:PySem.W.hasDictIn K c_NoTerms=true) (ty_NoTerms:PySem.W.typeIn K (.ref c_NoTerms)=some (.type "type"))
 (hd_QuitsError:PySem.W.hasDictIn K c_QuitsError=true) (ty_QuitsError:PySem.W.typeIn K (.ref c_QuitsError)=some (.type "type"))
 (hd_Settled:PySem.W.hasDictIn K c_Settled=true) (ty_Settled:PySem.W.typeIn K (.ref c_Settled)=some (.type "type"))
 (hd_Standing:PySem.W.hasDictIn K c_Standing=true) (ty_Standing:PySem.W.typeIn K (.ref c_Standing)=some (.type "type"))
 (sn_:PySem.W.specialIn K (.builtin "object.__class__") "__get__" = some (some (.builtin "getset_descriptor.__get__"))) (tk_:PySem.W.takesIn K (.builtin "object.__class__")=some true)
 (b_QuitsError:PySem.W.subIn K (.ref c_QuitsError) (.type "BaseException")=some true)
 (x_Closed:PySem.W.excIn K c_Closed [.type "ValueError",.type "Exception",.type "BaseException",.type "object"] "ValueError.__new__" = true) (ga_Closed:PySem.W.findIn K (.ref c_Closed) "__getattribute__" = some (some (.builtin "BaseException.__getattribute__"))) (gn_Closed:PySem.W.findIn K (.ref c_Closed) "__getattr__" = some none) (be_Closed:PySem.W.mroIn K c_Closed (.type "BaseException")=some true) (fa_Closed:PySem.W.findIn K (.ref c_Closed) "__class__" = some (some (.builtin "object.__class__"))) (mo_Closed:PySem.W.mroIn K c_Closed (.type "object")=some true)
 (s_Closed_Closed:PySem.W.subIn K (.ref c_Closed) (.ref c_Closed)=some true)
 (s_Closed_Gone:PySem.W.subIn K (.ref c_Closed) (.ref c_Gone)=some false)
 (n_Closed_Gone:c_Closed ≠ c_Gone)
 (s_Closed_NoDeal:PySem.W.subIn K (.ref c_Closed) (.ref c_NoDeal)=some false)
 (n_Closed_NoDeal:c_Closed ≠ c_NoDeal)
 (s_Closed_NoMember:PySem.W.subIn K (.ref c_Closed) (.ref c_NoMember)=some false)
 (n_Closed_NoMember:c_Closed ≠ c_NoMember)
 (s_Closed_NoTerms:PySem.W.subIn K (.ref c_Closed) (.ref c_NoTerms)=some false)
 (n_Closed_NoTerms:c_Closed ≠ c_NoTerms)
 (s_Closed_QuitsError:PySem.W.subIn K (.ref c_Closed) (.ref c_QuitsError)=some true)
 (n_Closed_QuitsError:c_Closed ≠ c_QuitsError)
 (s_Closed_Settled:PySem.W.subIn K (.ref c_Closed) (.ref c_Settled)=some false)
 (n_Closed_Settled:c_Closed ≠ c_Settled)
 (s_Closed_Standing:PySem.W.subIn K (.ref c_Closed) (.ref c_Standing)=some false)
 (n_Closed_Standing:c_Closed ≠ c_Standing)
 (v_Closed:PySem.W.subIn K (.ref c_Closed) (.type "ValueError")=some true)
 (x_Gone:PySem.W.excIn K c_Gone [.type "ValueError",.type "Exception",.type "BaseException",.type "object"] "ValueError.__new__" = true) (ga_Gone:PySem.W.findIn K (.ref c_Gone) "__getattribute__" = some (some (.builtin "BaseException.__getattribute__"))) (gn_Gone:PySem.W.findIn K (.ref c_Gone) "__getattr__" = some none) (be_Gone:PySem.W.mroIn K c_Gone (.type "BaseException")=some true) (fa_Gone:PySem.W.findIn K (.ref c_Gone) "__class__" = some (some (.builtin "object.__class__"))) (mo_Gone:PySem.W.mroIn K c_Gone (.type "object")=some true)
 (s_Gone_Closed:PySem.W.subIn K (.ref c_Gone) (.ref c_Closed)=some false)
 (n_Gone_Closed:c_Gone ≠ c_Closed)
 (s_Gone_Gone:PySem.W.subIn K (.ref c_Gone) (.ref c_Gone)=some true)
 (s_Gone_NoDeal:PySem.W.subIn K (.ref c_Gone) (.ref c_NoDeal)=some false)
 (n_Gone_NoDeal:c_Gone ≠ c_NoDeal)
 (s_Gone_NoMember:PySem.W.subIn K (.ref c_Gone) (.ref c_NoMember)=some false)
 (n_Gone_NoMember:c_Gone ≠ c_NoMember)
 (s_Gone_NoTerms:PySem.W.subIn K (.ref c_Gone) (.ref c_NoTerms)=some false)
 (n_Gone_NoTerms:c_Gone ≠ c_NoTerms)
 (s_Gone_QuitsError:PySem.W.subIn K (.ref c_Gone) (.ref c_QuitsError)=some true)
 (n_Gone_QuitsError:c_Gone ≠ c_QuitsError)
 (s_Gone_Settled:PySem.W.subIn K (.ref c_Gone) (.ref c_Settled)=some false)
 (n_Gone_Settled:c_Gone ≠ c_Settled)
 (s_Gone_Standing:PySem.W.subIn K (.ref c_Gone) (.ref c_Standing)=some false)
 (n_Gone_Standing:c_Gone ≠ c_Standing)
 (v_Gone:PySem.W.subIn K (.ref c_Gone) (.type "ValueError")=some true)
 (x_NoDeal:PySem.W.excIn K c_NoDeal [.type "ValueError",.type "Exception",.type "BaseException",.type "object"] "ValueError.__new__" = true) (ga_NoDeal:PySem.W.findIn K (.ref c_NoDeal) "__getattribute__" = some (some (.builtin "BaseException.__getattribute__"))) (gn_NoDeal:PySem.W.findIn K (.ref c_NoDeal) "__getattr__" = some none) (be_NoDeal:PySem.W.mroIn K c_NoDeal (.type "BaseException")=some true) (fa_NoDeal:PySem.W.findIn K (.ref c_NoDeal) "__class__" = some (some (.builtin "object.__class__"))) (mo_NoDeal:PySem.W.mroIn K c_NoDeal (.type "object")=some true)
 (s_NoDeal_Closed:PySem.W.subIn K (.ref c_NoDeal) (.ref c_Closed)=some false)
 (n_NoDeal_Closed:c_NoDeal ≠ c_Closed)
 (s_NoDeal_Gone:PySem.W.subIn K (.ref c_NoDeal) (.ref c_Gone)=some false)
 (n_NoDeal_Gone:c_NoDeal ≠ c_Gone)
 (s_NoDeal_NoDeal:PySem.W.subIn K (.ref c_NoDeal) (.ref c_NoDeal)=some true)
 (s_NoDeal_NoMember:PySem.W.subIn K (.ref c_NoDeal) (.ref c_NoMember)=some false)
 (n_NoDeal_NoMember:c_NoDeal ≠ c_NoMember)
 (s_NoDeal_NoTerms:PySem.W.subIn K (.ref c_NoDeal) (.ref c_NoTerms)=some false)
 (n_NoDeal_NoTerms:c_NoDeal ≠ c_NoTerms)
 (s_NoDeal_QuitsError:PySem.W.subIn K (.ref c_NoDeal) (.ref c_QuitsError)=some true)
 (n_NoDeal_QuitsError:c_NoDeal ≠ c_QuitsError)
 (s_NoDeal_Settled:PySem.W.subIn K (.ref c_NoDeal) (.ref c_Settled)=some false)
 (n_NoDeal_Settled:c_NoDeal ≠ c_Settled)
 (s_NoDeal_Standing:PySem.W.subIn K (.ref c_NoDeal) (.ref c_Standing)=some false)
 (n_NoDeal_Standing:c_NoDeal ≠ c_Standing)
 (v_NoDeal:PySem.W.subIn K (.ref c_NoDeal) (.type "ValueError")=some true)
 (x_NoMember:PySem.W.excIn K c_NoMember [.type "ValueError",.type "Exception",.type "BaseException",.type "object"] "ValueError.__new__" = true) (ga_NoMember:PySem.W.findIn K (.ref c_NoMember) "__getattribute__" = some (some (.builtin "BaseException.__getattribute__"))) (gn_NoMember:PySem.W.findIn K (.ref c_NoMember) "__getattr__" = some none) (be_NoMember:PySem.W.mroIn K c_NoMember (.type "BaseException")=some true) (fa_NoMember:PySem.W.findIn K (.ref c_NoMember) "__class__" = some (some (.builtin "object.__class__"))) (mo_NoMember:PySem.W.mroIn K c_NoMember (.type "object")=some true)
 (s_NoMember_Closed:PySem.W.subIn K (.ref c_NoMember) (.ref c_Closed)=some false)
 (n_NoMember_Closed:c_NoMember ≠ c_Closed)
 (s_NoMember_Gone:PySem.W.subIn K (.ref c_NoMember) (.ref c_Gone)=some false)
 (n_NoMember_Gone:c_NoMember ≠ c_Gone)
 (s_NoMember_NoDeal:PySem.W.subIn K (.ref c_NoMember) (.ref c_NoDeal)=some false)
 (n_NoMember_NoDeal:c_NoMember ≠ c_NoDeal)
 (s_NoMember_NoMember:PySem.W.subIn K (.ref c_NoMember) (.ref c_NoMember)=some true)
 (s_NoMember_NoTerms:PySem.W.subIn K (.ref c_NoMember) (.ref c_NoTerms)=some false)
 (n_NoMember_NoTerms:c_NoMember ≠ c_NoTerms)
 (s_NoMember_QuitsError:PySem.W.subIn K (.ref c_NoMember) (.ref c_QuitsError)=some true)
 (n_NoMember_QuitsError:c_NoMember ≠ c_QuitsError)
 (s_NoMember_Settled:PySem.W.subIn K (.ref c_NoMember) (.ref c_Settled)=some false)
 (n_NoMember_Settled:c_NoMember ≠ c_Settled)
 (s_NoMember_Standing:PySem.W.subIn K (.ref c_NoMember) (.ref c_Standing)=some false)
 (n_NoMember_Standing:c_NoMember ≠ c_Standing)
 (v_NoMember:PySem.W.subIn K (.ref c_NoMember) (.type "ValueError")=some true)
 (x_NoTerms:PySem.W.excIn K c_NoTerms [.type "ValueError",.type "Exception",.type "BaseException",.type "object"] "ValueError.__new__" = true) (ga_NoTerms:PySem.W.findIn K (.ref c_NoTerms) "__getattribute__" = some (some (.builtin "BaseException.__getattribute__"))) (gn_NoTerms:PySem.W.findIn K (.ref c_NoTerms) "__getattr__" = some none) (be_NoTerms:PySem.W.mroIn K c_NoTerms (.type "BaseException")=some true) (fa_NoTerms:PySem.W.findIn K (.ref c_NoTerms) "__class__" = some (some (.builtin "object.__class__"))) (mo_NoTerms:PySem.W.mroIn K c_NoTerms (.type "object")=some true)
 (s_NoTerms_Closed:PySem.W.subIn K (.ref c_NoTerms) (.ref c_Closed)=some false)
 (n_NoTerms_Closed:c_NoTerms ≠ c_Closed)
 (s_NoTerms_Gone:PySem.W.subIn K (.ref c_NoTerms) (.ref c_Gone)=some false)
 (n_NoTerms_Gone:c_NoTerms ≠ c_Gone)
 (s_NoTerms_NoDeal:PySem.W.subIn K (.ref c_NoTerms) (.ref c_NoDeal)=some false)
 (n_NoTerms_NoDeal:c_NoTerms ≠ c_NoDeal)
 (s_NoTerms_NoMember:PySem.W.subIn K (.ref c_NoTerms) (.ref c_NoMember)=some false)
 (n_NoTerms_NoMember:c_NoTerms ≠ c_NoMember)
 (s_NoTerms_NoTerms:PySem.W.subIn K (.ref c_NoTerms) (.ref c_NoTerms)=some true)
 (s_NoTerms_QuitsError:PySem.W.subIn K (.ref c_NoTerms) (.ref c_QuitsError)=some true)
 (n_NoTerms_QuitsError:c_NoTerms ≠ c_QuitsError)
 (s_NoTerms_Settled:PySem.W.subIn K (.ref c_NoTerms) (.ref c_Settled)=some false)
 (n_NoTerms_Settled:c_NoTerms ≠ c_Settled)
 (s_NoTerms_Standing:PySem.W.subIn K (.ref c_NoTerms) (.ref c_Standing)=some false)
 (n_NoTerms_Standing:c_NoTerms ≠ c_Standing)
 (v_NoTerms:PySem.W.subIn K (.ref c_NoTerms) (.type "ValueError")=some true)
 (x_Settled:PySem.W.excIn K c_Settled [.type "ValueError",.type "Exception",.type "BaseException",.type "object"] "ValueError.__new__" = true) (ga_Settled:PySem.W.findIn K (.ref c_Settled) "__getattribute__" = some (some (.builtin "BaseException.__getattribute__"))) (gn_Settled:PySem.W.findIn K (.ref c_Settled) "__getattr__" = some none) (be_Settled:PySem.W.mroIn K c_Settled (.type "BaseException")=some true) (fa_Settled:PySem.W.findIn K (.ref c_Settled) "__class__" = some (some (.builtin "object.__class__"))) (mo_Settled:PySem.W.mroIn K c_Settled (.type "object")=some true)
 (s_Settled_Closed:PySem.W.subIn K (.ref c_Settled) (.ref c_Closed)=some false)
 (n_Settled_Closed:c_Settled ≠ c_Closed)
 (s_Settled_Gone:PySem.W.subIn K (.ref c_Settled) (.ref c_Gone)=some false)
 (n_Settled_Gone:c_Settled ≠ c_Gone)
 (s_Settled_NoDeal:PySem.W.subIn K (.ref c_Settled) (.ref c_NoDeal)=some false)
 (n_Settled_NoDeal:c_Settled ≠ c_NoDeal)
 (s_Settled_NoMember:PySem.W.subIn K (.ref c_Settled) (.ref c_NoMember)=some false)
 (n_Settled_NoMember:c_Settled ≠ c_NoMember)
 (s_Settled_NoTerms:PySem.W.subIn K (.ref c_Settled) (.ref c_NoTerms)=some false)
 (n_Settled_NoTerms:c_Settled ≠ c_NoTerms)
 (s_Settled_QuitsError:PySem.W.subIn K (.ref c_Settled) (.ref c_QuitsError)=some true)
 (n_Settled_QuitsError:c_Settled ≠ c_QuitsError)
 (s_Settled_Settled:PySem.W.subIn K (.ref c_Settled) (.ref c_Settled)=some true)
 (s_Settled_Standing:PySem.W.subIn K (.ref c_Settled) (.ref c_Standing)=some false)
 (n_Settled_Standing:c_Settled ≠ c_Standing)
 (v_Settled:PySem.W.subIn K (.ref c_Settled) (.type "ValueError")=some true)
 (x_Standing:PySem.W.excIn K c_Standing [.type "ValueError",.type "Exception",.type "BaseException",.type "object"] "ValueError.__new__" = true) (ga_Standing:PySem.W.findIn K (.ref c_Standing) "__getattribute__" = some (some (.builtin "BaseException.__getattribute__"))) (gn_Standing:PySem.W.findIn K (.ref c_Standing) "__getattr__" = some none) (be_Standing:PySem.W.mroIn K c_Standing (.type "BaseException")=some true) (fa_Standing:PySem.W.findIn K (.ref c_Standing) "__class__" = some (some (.builtin "object.__class__"))) (mo_Standing:PySem.W.mroIn K c_Standing (.type "object")=some true)
 (s_Standing_Closed:PySem.W.subIn K (.ref c_Standing) (.ref c_Closed)=some false)
 (n_Standing_Closed:c_Standing ≠ c_Closed)
 (s_Standing_Gone:PySem.W.subIn K (.ref c_Standing) (.ref c_Gone)=some false)
 (n_Standing_Gone:c_Standing ≠ c_Gone)
 (s_Standing_NoDeal:PySem.W.subIn K (.ref c_Standing) (.ref c_NoDeal)=some false)
 (n_Standing_NoDeal:c_Standing ≠ c_NoDeal)
 (s_Standing_NoMember:PySem.W.subIn K (.ref c_Standing) (.ref c_NoMember)=some false)
 (n_Standing_NoMember:c_Standing ≠ c_NoMember)
 (s_Standing_NoTerms:PySem.W.subIn K (.ref c_Standing) (.ref c_NoTerms)=some false)
 (n_Standing_NoTerms:c_Standing ≠ c_NoTerms)
 (s_Standing_QuitsError:PySem.W.subIn K (.ref c_Standing) (.ref c_QuitsError)=some true)
 (n_Standing_QuitsError:c_Standing ≠ c_QuitsError)
 (s_Standing_Settled:PySem.W.subIn K (.ref c_Standing) (.ref c_Settled)=some false)
 (n_Standing_Settled:c_Standing ≠ c_Settled)
 (s_Standing_Standing:PySem.W.subIn K (.ref c_Standing) (.ref c_Standing)=some true)
 (v_Standing:PySem.W.subIn K (.ref c_Standing) (.type "ValueError")=some true)
 (m_Book:PySem.W.nsIn K mainGlobals "Book" = some (some (.ref c_Book))) (pg_Book:PySem.W.plainGet K c_Book Str.empty=true) (hd_Book:PySem.W.hasDictIn K c_Book=true) (po_Book:PySem.W.plainOver K c_Book=true) (sa_Book:PySem.W.findIn K (.ref c_Book) "__setattr__" = some (some (.builtin "object.__setattr__"))) (mk_Book:PySem.W.makesIn K c_Book=true) (kc_Book:PySem.W.keepIn K (.ref c_Book)=true)
 (na_Book_day:PySem.W.findIn K (.ref c_Book) "day" = some none)
 (na_Book_deals:PySem.W.findIn K (.ref c_Book) "deals" = some none)
 (na_Book_get:PySem.W.findIn K (.ref c_Book) "get" = some none)
 (na_Book_many:PySem.W.findIn K (.ref c_Book) "many" = some none)
 (na_Book_wares:PySem.W.findIn K (.ref c_Book) "wares" = some none)
 (g_AMOUNT:PySem.W.nsIn K mainGlobals "AMOUNT" = some (some (.int 4 t_AMOUNT)))
 (g_DAY:PySem.W.nsIn K mainGlobals "DAY" = some (some (.int 5 t_DAY)))
 (g_MOST_AMOUNT:PySem.W.nsIn K mainGlobals "MOST_AMOUNT" = some (some (.int 1000000000 t_MOST_AMOUNT)))
 (g_MOST_DAY:PySem.W.nsIn K mainGlobals "MOST_DAY" = some (some (.int 1000000 t_MOST_DAY)))
 (g_MOST_UNITS:PySem.W.nsIn K mainGlobals "MOST_UNITS" = some (some (.int 1000000 t_MOST_UNITS)))
 (g_PAYEE:PySem.W.nsIn K mainGlobals "PAYEE" = some (some (.int 1 t_PAYEE)))
 (g_PAYER:PySem.W.nsIn K mainGlobals "PAYER" = some (some (.int 0 t_PAYER)))
 (g_RANK:PySem.W.nsIn K mainGlobals "RANK" = some (some (.int 6 t_RANK)))
 (g_STATE:PySem.W.nsIn K mainGlobals "STATE" = some (some (.int 7 t_STATE)))
 (g_UNITS:PySem.W.nsIn K mainGlobals "UNITS" = some (some (.int 3 t_UNITS)))
 (g_WARE:PySem.W.nsIn K mainGlobals "WARE" = some (some (.int 2 t_WARE)))
 (a0:PySem.W.findIn K (.ref c_Book) "__init__" = some (some (.ref f0))) (i0:PySem.W.isFn K (.ref f0)=true) (l0:K.lookup f0=some ⟨o0,d0,.func (PySem.W.fnOf "__init__" "Book.__init__" (zB zar) (zA zar) (zi zar) .none v0 e0 p0 n0 q0 t0),r0⟩) (c0:PySem.W.codeIn K q0 "Book.__init__" = true) (k0:PySem.W.keepIn K (.ref f0)=true)
 (a1:PySem.W.findIn K (.ref c_Book) "strike" = some (some (.ref f1))) (i1:PySem.W.isFn K (.ref f1)=true) (l1:K.lookup f1=some ⟨o1,d1,.func (PySem.W.fnOf "strike" "Book.strike" (zB zaJ) (zA zaJ) (zi zaJ) .none v1 e1 p1 n1 q1 t1),r1⟩) (c1:PySem.W.codeIn K q1 "Book.strike" = true) (k1:PySem.W.keepIn K (.ref f1)=true)
 (a2:PySem.W.findIn K (.ref c_Book) "check_members" = some (some (.ref f2))) (i2:PySem.W.isFn K (.ref f2)=true) (l2:K.lookup f2=some ⟨o2,d2,.func (PySem.W.fnOf "check_members" "Book.check_members" (zB zZ) (zA zZ) (zi zZ) .none v2 e2 p2 n2 q2 t2),r2⟩) (c2:PySem.W.codeIn K q2 "Book.check_members" = true) (k2:PySem.W.keepIn K (.ref f2)=true)
 (a3:PySem.W.findIn K (.ref c_Book) "check_terms" = some (some (.ref f3))) (i3:PySem.W.isFn K (.ref f3)=true) (l3:K.lookup f3=some ⟨o3,d3,.func (PySem.W.fnOf "check_terms" "Book.check_terms" (zB z8) (zA z8) (zi z8) .none v3 e3 p3 n3 q3 t3),r3⟩) (c3:PySem.W.codeIn K q3 "Book.check_terms" = true) (k3:PySem.W.keepIn K (.ref f3)=true)
 (a4:PySem.W.findIn K (.ref c_Book) "change" = some (some (.ref f4))) (i4:PySem.W.isFn K (.ref f4)=true) (l4:K.lookup f4=some ⟨o4,d4,.func (PySem.W.fnOf "change" "Book.change" (zB zaH) (zA zaH) (zi zaH) .none v4 e4 p4 n4 q4 t4),r4⟩) (c4:PySem.W.codeIn K q4 "Book.change" = true) (k4:PySem.W.keepIn K (.ref f4)=true)
 (a5:PySem.W.findIn K (.ref c_Book) "break_off" = some (some (.ref f5))) (i5:PySem.W.isFn K (.ref f5)=true) (l5:K.lookup f5=some ⟨o5,d5,.func (PySem.W.fnOf "break_off" "Book.break_off" (zB zah) (zA zah) (zi zah) .none v5 e5 p5 n5 q5 t5),r5⟩) (c5:PySem.W.codeIn K q5 "Book.break_off" = true) (k5:PySem.W.keepIn K (.ref f5)=true)
 (a6:PySem.W.findIn K (.ref c_Book) "standing_deal" = some (some (.ref f6))) (i6:PySem.W.isFn K (.ref f6)=true) (l6:K.lookup f6=some ⟨o6,d6,.func (PySem.W.fnOf "standing_deal" "Book.standing_deal" (zB z3) (zA z3) (zi z3) .none v6 e6 p6 n6 q6 t6),r6⟩) (c6:PySem.W.codeIn K q6 "Book.standing_deal" = true) (k6:PySem.W.keepIn K (.ref f6)=true)
 (a7:PySem.W.findIn K (.ref c_Book) "put_state" = some (some (.ref f7))) (i7:PySem.W.isFn K (.ref f7)=true) (l7:K.lookup f7=some ⟨o7,d7,.func (PySem.W.fnOf "put_state" "Book.put_state" (zB zag) (zA zag) (zi zag) .none v7 e7 p7 n7 q7 t7),r7⟩) (c7:PySem.W.codeIn K q7 "Book.put_state" = true) (k7:PySem.W.keepIn K (.ref f7)=true)
 (a8:PySem.W.findIn K (.ref c_Book) "break_all" = some (some (.ref f8))) (i8:PySem.W.isFn K (.ref f8)=true) (l8:K.lookup f8=some ⟨o8,d8,.func (PySem.W.fnOf "break_all" "Book.break_all" (zB zaf) (zA zaf) (zi zaf) .none v8 e8 p8 n8 q8 t8),r8⟩) (c8:PySem.W.codeIn K q8 "Book.break_all" = true) (k8:PySem.W.keepIn K (.ref f8)=true)
 (a9:PySem.W.findIn K (.ref c_Book) "contrary" = some (some (.ref f9))) (i9:PySem.W.isFn K (.ref f9)=true) (l9:K.lookup f9=some ⟨o9,d9,.func (PySem.W.fnOf "contrary" "Book.contrary" (zB zao) (zA zao) (zi zao) .none v9 e9 p9 n9 q9 t9),r9⟩) (c9:PySem.W.codeIn K q9 "Book.contrary" = true) (k9:PySem.W.keepIn K (.ref f9)=true)
 (a10:PySem.W.findIn K (.ref c_Book) "contrary_terms" = some (some (.ref f10))) (i10:PySem.W.isFn K (.ref f10)=true) (l10:K.lookup f10=some ⟨o10,d10,.func (PySem.W.fnOf "contrary_terms" "Book.contrary_terms" (zB zX) (zA zX) (zi zX) .none v10 e10 p10 n10 q10 t10),r10⟩) (c10:PySem.W.codeIn K q10 "Book.contrary_terms" = true) (k10:PySem.W.keepIn K (.ref f10)=true)
 (a11:PySem.W.findIn K (.ref c_Book) "close" = some (some (.ref f11))) (i11:PySem.W.isFn K (.ref f11)=true) (l11:K.lookup f11=some ⟨o11,d11,.func (PySem.W.fnOf "close" "Book.close" (zB zaW) (zA zaW) (zi zaW) .none v11 e11 p11 n11 q11 t11),r11⟩) (c11:PySem.W.codeIn K q11 "Book.close" = true) (k11:PySem.W.keepIn K (.ref f11)=true)
 (a12:PySem.W.findIn K (.ref c_Book) "today" = some (some (.ref f12))) (i12:PySem.W.isFn K (.ref f12)=true) (l12:K.lookup f12=some ⟨o12,d12,.func (PySem.W.fnOf "today" "Book.today" (zB zaZ) (zA zaZ) (zi zaZ) .none v12 e12 p12 n12 q12 t12),r12⟩) (c12:PySem.W.codeIn K q12 "Book.today" = true) (k12:PySem.W.keepIn K (.ref f12)=true)
 (a13:PySem.W.findIn K (.ref c_Book) "struck" = some (some (.ref f13))) (i13:PySem.W.isFn K (.ref f13)=true) (l13:K.lookup f13=some ⟨o13,d13,.func (PySem.W.fnOf "struck" "Book.struck" (zB zaG) (zA zaG) (zi zaG) .none v13 e13 p13 n13 q13 t13),r13⟩) (c13:PySem.W.codeIn K q13 "Book.struck" = true) (k13:PySem.W.keepIn K (.ref f13)=true)
 (a14:PySem.W.findIn K (.ref c_Book) "deal" = some (some (.ref f14))) (i14:PySem.W.isFn K (.ref f14)=true) (l14:K.lookup f14=some ⟨o14,d14,.func (PySem.W.fnOf "deal" "Book.deal" (zB zbc) (zA zbc) (zi zbc) .none v14 e14 p14 n14 q14 t14),r14⟩) (c14:PySem.W.codeIn K q14 "Book.deal" = true) (k14:PySem.W.keepIn K (.ref f14)=true)
 (a15:PySem.W.findIn K (.ref c_Book) "numbers_on" = some (some (.ref f15))) (i15:PySem.W.isFn K (.ref f15)=true) (l15:K.lookup f15=some ⟨o15,d15,.func (PySem.W.fnOf "numbers_on" "Book.numbers_on" (zB zab) (zA zab) (zi zab) .none v15 e15 p15 n15 q15 t15),r15⟩) (c15:PySem.W.codeIn K q15 "Book.numbers_on" = true) (k15:PySem.W.keepIn K (.ref f15)=true)
 (a16:PySem.W.findIn K (.ref c_Book) "sheet_on" = some (some (.ref f16))) (i16:PySem.W.isFn K (.ref f16)=true) (l16:K.lookup f16=some ⟨o16,d16,.func (PySem.W.fnOf "sheet_on" "Book.sheet_on" (zB zat) (zA zat) (zi zat) .none v16 e16 p16 n16 q16 t16),r16⟩) (c16:PySem.W.codeIn K q16 "Book.sheet_on" = true) (k16:PySem.W.keepIn K (.ref f16)=true)
 (a17:PySem.W.findIn K (.ref c_Book) "entries" = some (some (.ref f17))) (i17:PySem.W.isFn K (.ref f17)=true) (l17:K.lookup f17=some ⟨o17,d17,.func (PySem.W.fnOf "entries" "Book.entries" (zB zaA) (zA zaA) (zi zaA) .none v17 e17 p17 n17 q17 t17),r17⟩) (c17:PySem.W.codeIn K q17 "Book.entries" = true) (k17:PySem.W.keepIn K (.ref f17)=true)
 (a18:PySem.W.findIn K (.ref c_Book) "position" = some (some (.ref f18))) (i18:PySem.W.isFn K (.ref f18)=true) (l18:K.lookup f18=some ⟨o18,d18,.func (PySem.W.fnOf "position" "Book.position" (zB zaq) (zA zaq) (zi zaq) .none v18 e18 p18 n18 q18 t18),r18⟩) (c18:PySem.W.codeIn K q18 "Book.position" = true) (k18:PySem.W.keepIn K (.ref f18)=true)
 (a19:PySem.W.nsIn K mainGlobals "_law_cell" = some (some (.ref f19))) (l19:K.lookup f19=some ⟨o19,d19,.func (PySem.W.fnOf "_law_cell" "_law_cell" (zB zbf) (zA zbf) (zi zbf) .none v19 e19 p19 n19 q19 t19),r19⟩) (c19:PySem.W.codeIn K q19 "_law_cell" = true) (k19:PySem.W.keepIn K (.ref f19)=true)
 (a20:PySem.W.nsIn K mainGlobals "_law_draw" = some (some (.ref f20))) (l20:K.lookup f20=some ⟨o20,d20,.func (PySem.W.fnOf "_law_draw" "_law_draw" (zB zba) (zA zba) (zi zba) .none v20 e20 p20 n20 q20 t20),r20⟩) (c20:PySem.W.codeIn K q20 "_law_draw" = true) (k20:PySem.W.keepIn K (.ref f20)=true)
 (a21:PySem.W.nsIn K mainGlobals "_law_great" = some (some (.ref f21))) (l21:K.lookup f21=some ⟨o21,d21,.func (PySem.W.fnOf "_law_great" "_law_great" (zB zaY) (zA zaY) (zi zaY) .none v21 e21 p21 n21 q21 t21),r21⟩) (c21:PySem.W.codeIn K q21 "_law_great" = true) (k21:PySem.W.keepIn K (.ref f21)=true)
 (a22:PySem.W.nsIn K mainGlobals "_law_field" = some (some (.ref f22))) (l22:K.lookup f22=some ⟨o22,d22,.func (PySem.W.fnOf "_law_field" "_law_field" (zB zaT) (zA zaT) (zi zaT) .none v22 e22 p22 n22 q22 t22),r22⟩) (c22:PySem.W.codeIn K q22 "_law_field" = true) (k22:PySem.W.keepIn K (.ref f22)=true)
 (a23:PySem.W.nsIn K mainGlobals "_law_day" = some (some (.ref f23))) (l23:K.lookup f23=some ⟨o23,d23,.func (PySem.W.fnOf "_law_day" "_law_day" (zB zbt) (zA zbt) (zi zbt) .none v23 e23 p23 n23 q23 t23),r23⟩) (c23:PySem.W.codeIn K q23 "_law_day" = true) (k23:PySem.W.keepIn K (.ref f23)=true)
 (a24:PySem.W.nsIn K mainGlobals "_law_number" = some (some (.ref f24))) (l24:K.lookup f24=some ⟨o24,d24,.func (PySem.W.fnOf "_law_number" "_law_number" (zB zaO) (zA zaO) (zi zaO) .none v24 e24 p24 n24 q24 t24),r24⟩) (c24:PySem.W.codeIn K q24 "_law_number" = true) (k24:PySem.W.keepIn K (.ref f24)=true)
 (a25:PySem.W.nsIn K mainGlobals "_law_deed" = some (some (.ref f25))) (l25:K.lookup f25=some ⟨o25,d25,.func (PySem.W.fnOf "_law_deed" "_law_deed" (zB zbd) (zA zbd) (zi zbd) .none v25 e25 p25 n25 q25 t25),r25⟩) (c25:PySem.W.codeIn K q25 "_law_deed" = true) (k25:PySem.W.keepIn K (.ref f25)=true)
 (a26:PySem.W.nsIn K mainGlobals "_law_name" = some (some (.ref f26))) (l26:K.lookup f26=some ⟨o26,d26,.func (PySem.W.fnOf "_law_name" "_law_name" (zB za8) (zA za8) (zi za8) .none v26 e26 p26 n26 q26 t26),r26⟩) (c26:PySem.W.codeIn K q26 "_law_name" = true) (k26:PySem.W.keepIn K (.ref f26)=true)
 (a27:PySem.W.nsIn K mainGlobals "_law_done" = some (some (.ref f27))) (l27:K.lookup f27=some ⟨o27,d27,.func (PySem.W.fnOf "_law_done" "_law_done" (zB zbb) (zA zbb) (zi zbb) .none v27 e27 p27 n27 q27 t27),r27⟩) (c27:PySem.W.codeIn K q27 "_law_done" = true) (k27:PySem.W.keepIn K (.ref f27)=true)
 (a28:PySem.W.nsIn K mainGlobals "_law_found" = some (some (.ref f28))) (l28:K.lookup f28=some ⟨o28,d28,.func (PySem.W.fnOf "_law_found" "_law_found" (zB za0) (zA za0) (zi za0) .none v28 e28 p28 n28 q28 t28),r28⟩) (c28:PySem.W.codeIn K q28 "_law_found" = true) (k28:PySem.W.keepIn K (.ref f28)=true)
 (a29:PySem.W.nsIn K mainGlobals "_law_struck" = some (some (.ref f29))) (l29:K.lookup f29=some ⟨o29,d29,.func (PySem.W.fnOf "_law_struck" "_law_struck" (zB zaF) (zA zaF) (zi zaF) .none v29 e29 p29 n29 q29 t29),r29⟩) (c29:PySem.W.codeIn K q29 "_law_struck" = true) (k29:PySem.W.keepIn K (.ref f29)=true)
 (a30:PySem.W.nsIn K mainGlobals "_law_turned" = some (some (.ref f30))) (l30:K.lookup f30=some ⟨o30,d30,.func (PySem.W.fnOf "_law_turned" "_law_turned" (zB zaL) (zA zaL) (zi zaL) .none v30 e30 p30 n30 q30 t30),r30⟩) (c30:PySem.W.codeIn K q30 "_law_turned" = true) (k30:PySem.W.keepIn K (.ref f30)=true)
 (a31:PySem.W.nsIn K mainGlobals "_law_set_right" = some (some (.ref f31))) (l31:K.lookup f31=some ⟨o31,d31,.func (PySem.W.fnOf "_law_set_right" "_law_set_right" (zB zai) (zA zai) (zi zai) .none v31 e31 p31 n31 q31 t31),r31⟩) (c31:PySem.W.codeIn K q31 "_law_set_right" = true) (k31:PySem.W.keepIn K (.ref f31)=true)
 (a32:PySem.W.nsIn K mainGlobals "_law_marked" = some (some (.ref f32))) (l32:K.lookup f32=some ⟨o32,d32,.func (PySem.W.fnOf "_law_marked" "_law_marked" (zB zaK) (zA zaK) (zi zaK) .none v32 e32 p32 n32 q32 t32),r32⟩) (c32:PySem.W.codeIn K q32 "_law_marked" = true) (k32:PySem.W.keepIn K (.ref f32)=true)
 (a33:PySem.W.nsIn K mainGlobals "_law_due" = some (some (.ref f33))) (l33:K.lookup f33=some ⟨o33,d33,.func (PySem.W.fnOf "_law_due" "_law_due" (zB zbs) (zA zbs) (zi zbs) .none v33 e33 p33 n33 q33 t33),r33⟩) (c33:PySem.W.codeIn K q33 "_law_due" = true) (k33:PySem.W.keepIn K (.ref f33)=true)
 (a34:PySem.W.nsIn K mainGlobals "_law_entries_due" = some (some (.ref f34))) (l34:K.lookup f34=some ⟨o34,d34,.func (PySem.W.fnOf "_law_entries_due" "_law_entries_due" (zB z9) (zA z9) (zi z9) .none v34 e34 p34 n34 q34 t34),r34⟩) (c34:PySem.W.codeIn K q34 "_law_entries_due" = true) (k34:PySem.W.keepIn K (.ref f34)=true)
 (a35:PySem.W.nsIn K mainGlobals "_law_position_due" = some (some (.ref f35))) (l35:K.lookup f35=some ⟨o35,d35,.func (PySem.W.fnOf "_law_position_due" "_law_position_due" (zB z5) (zA z5) (zi z5) .none v35 e35 p35 n35 q35 t35),r35⟩) (c35:PySem.W.codeIn K q35 "_law_position_due" = true) (k35:PySem.W.keepIn K (.ref f35)=true)
 (a36:PySem.W.nsIn K mainGlobals "_law_looked" = some (some (.ref f36))) (l36:K.lookup f36=some ⟨o36,d36,.func (PySem.W.fnOf "_law_looked" "_law_looked" (zB zaI) (zA zaI) (zi zaI) .none v36 e36 p36 n36 q36 t36),r36⟩) (c36:PySem.W.codeIn K q36 "_law_looked" = true) (k36:PySem.W.keepIn K (.ref f36)=true)
 (a37:PySem.W.nsIn K mainGlobals "_law_evened" = some (some (.ref f37))) (l37:K.lookup f37=some ⟨o37,d37,.func (PySem.W.fnOf "_law_evened" "_law_evened" (zB zaN) (zA zaN) (zi zaN) .none v37 e37 p37 n37 q37 t37),r37⟩) (c37:PySem.W.codeIn K q37 "_law_evened" = true) (k37:PySem.W.keepIn K (.ref f37)=true)
 (a38:PySem.W.nsIn K mainGlobals "law" = some (some (.ref f38))) (l38:K.lookup f38=some ⟨o38,d38,.func (PySem.W.fnOf "law" "law" (zB zcV) (zA zcV) (zi zcV) .none v38 e38 p38 n38 q38 t38),r38⟩) (c38:PySem.W.codeIn K q38 "law" = true) (k38:PySem.W.keepIn K (.ref f38)=true)
 (w_ValueError:PySem.W.nsIn K mainGlobals "ValueError" = some none)
 (w_bool:PySem.W.nsIn K mainGlobals "bool" = some none)
 (w_enumerate:PySem.W.nsIn K mainGlobals "enumerate" = some none)
 (w_isinstance:PySem.W.nsIn K mainGlobals "isinstance" = some none)
 (w_len:PySem.W.nsIn K mainGlobals "len" = some none)
 (w_list:PySem.W.nsIn K mainGlobals "list" = some none)
 (w_max:PySem.W.nsIn K mainGlobals "max" = some none)
 (w_min:PySem.W.nsIn K mainGlobals "min" = some none)
 (w_range:PySem.W.nsIn K mainGlobals "range" = some none)
 (w_sorted:PySem.W.nsIn K mainGlobals "sorted" = some none)
 (w_tuple:PySem.W.nsIn K mainGlobals "tuple" = some none):Txt K mg:={
 c_Closed:=c_Closed,m_Closed:=PySem.W.mg_of X G m_Closed,
 c_Gone:=c_Gone,m_Gone:=PySem.W.mg_of X G m_Gone,
 c_NoDeal:=c_NoDeal,m_NoDeal:=PySem.W.mg_of X G m_NoDeal,
 c_NoMember:=c_NoMember,m_NoMember:=PySem.W.mg_of X G m_NoMember,
 c_NoTerms:=c_NoTerms,m_NoTerms:=PySem.W.mg_of X G m_NoTerms,
 c_QuitsError:=c_QuitsError,m_QuitsError:=PySem.W.mg_of X G m_QuitsError,
 c_Settled:=c_Settled,m_Settled:=PySem.W.mg_of X G m_Settled,
 c_Standing:=c_Standing,m_Standing:=PySem.W.mg_of X G m_Standing,
 e_Closed:=zbP x_Closed ga_Closed gn_Closed be_Closed hd_Closed fa_Closed sn_ tk_ mo_Closed,
 i_Closed_Closed:=zbM,
 i_Closed_Gone:=zD n_Closed_Gone hd_Gone ty_Gone s_Closed_Gone,
 i_Closed_NoDeal:=zD n_Closed_NoDeal hd_NoDeal ty_NoDeal s_Closed_NoDeal,
 i_Closed_NoMember:=zD n_Closed_NoMember hd_NoMember ty_NoMember s_Closed_NoMember,
 i_Closed_NoTerms:=zD n_Closed_NoTerms hd_NoTerms ty_NoTerms s_Closed_NoTerms,
 i_Closed_QuitsError:=zD n_Closed_QuitsError hd_QuitsError ty_QuitsError s_Closed_QuitsError,
 i_Closed_Settled:=zD n_Closed_Settled hd_Settled ty_Settled s_Closed_Settled,
 i_Closed_Standing:=zD n_Closed_Standing hd_Standing ty_Standing s_Closed_Standing,
 i_Closed_ValueError:=zc1 v_Closed,
 q_Closed_QuitsError:=zcq b_QuitsError hd_QuitsError ty_QuitsError s_Closed_QuitsError,
 e_Gone:=zbP x_Gone ga_Gone gn_Gone be_Gone hd_Gone fa_Gone sn_ tk_ mo_Gone,
 i_Gone_Closed:=zD n_Gone_Closed hd_Closed ty_Closed s_Gone_Closed,
 i_Gone_Gone:=zbM,
 i_Gone_NoDeal:=zD n_Gone_NoDeal hd_NoDeal ty_NoDeal s_Gone_NoDeal,
 i_Gone_NoMember:=zD n_Gone_NoMember hd_NoMember ty_NoMember s_Gone_NoMember,
 i_Gone_NoTerms:=zD n_Gone_NoTerms hd_NoTerms ty_NoTerms s_Gone_NoTerms,
 i_Gone_QuitsError:=zD n_Gone_QuitsError hd_QuitsError ty_QuitsError s_Gone_QuitsError,
 i_Gone_Settled:=zD n_Gone_Settled hd_Settled ty_Settled s_Gone_Settled,
 i_Gone_Standing:=zD n_Gone_Standing hd_Standing ty_Standing s_Gone_Standing,
 i_Gone_ValueError:=zc1 v_Gone,
 q_Gone_QuitsError:=zcq b_QuitsError hd_QuitsError ty_QuitsError s_Gone_QuitsError,
 e_NoDeal:=zbP x_NoDeal ga_NoDeal gn_NoDeal be_NoDeal hd_NoDeal fa_NoDeal sn_ tk_ mo_NoDeal,
 i_NoDeal_Closed:=zD n_NoDeal_Closed hd_Closed ty_Closed s_NoDeal_Closed,
 i_NoDeal_Gone:=zD n_NoDeal_Gone hd_Gone ty_Gone s_NoDeal_Gone,
 i_NoDeal_NoDeal:=zbM,
 i_NoDeal_NoMember:=zD n_NoDeal_NoMember hd_NoMember ty_NoMember s_NoDeal_NoMember,
 i_NoDeal_NoTerms:=zD n_NoDeal_NoTerms hd_NoTerms ty_NoTerms s_NoDeal_NoTerms,
 i_NoDeal_QuitsError:=zD n_NoDeal_QuitsError hd_QuitsError ty_QuitsError s_NoDeal_QuitsError,
 i_NoDeal_Settled:=zD n_NoDeal_Settled hd_Settled ty_Settled s_NoDeal_Settled,
 i_NoDeal_Standing:=zD n_NoDeal_Standing hd_Standing ty_Standing s_NoDeal_Standing,
 i_NoDeal_ValueError:=zc1 v_NoDeal,
 q_NoDeal_QuitsError:=zcq b_QuitsError hd_QuitsError ty_QuitsError s_NoDeal_QuitsError,
 e_NoMember:=zbP x_NoMember ga_NoMember gn_NoMember be_NoMember hd_NoMember fa_NoMember sn_ tk_ mo_NoMember,
 i_NoMember_Closed:=zD n_NoMember_Closed hd_Closed ty_Closed s_NoMember_Closed,
 i_NoMember_Gone:=zD n_NoMember_Gone hd_Gone ty_Gone s_NoMember_Gone,
 i_NoMember_NoDeal:=zD n_NoMember_NoDeal hd_NoDeal ty_NoDeal s_NoMember_NoDeal,
 i_NoMember_NoMember:=zbM,
 i_NoMember_NoTerms:=zD n_NoMember_NoTerms hd_NoTerms ty_NoTerms s_NoMember_NoTerms,
 i_NoMember_QuitsError:=zD n_NoMember_QuitsError hd_QuitsError ty_QuitsError s_NoMember_QuitsError,
 i_NoMember_Settled:=zD n_NoMember_Settled hd_Settled ty_Settled s_NoMember_Settled,
 i_NoMember_Standing:=zD n_NoMember_Standing hd_Standing ty_Standing s_NoMember_Standing,
 i_NoMember_ValueError:=zc1 v_NoMember,
 q_NoMember_QuitsError:=zcq b_QuitsError hd_QuitsError ty_QuitsError s_NoMember_QuitsError,
 e_NoTerms:=zbP x_NoTerms ga_NoTerms gn_NoTerms be_NoTerms hd_NoTerms fa_NoTerms sn_ tk_ mo_NoTerms,
 i_NoTerms_Closed:=zD n_NoTerms_Closed hd_Closed ty_Closed s_NoTerms_Closed,
 i_NoTerms_Gone:=zD n_NoTerms_Gone hd_Gone ty_Gone s_NoTerms_Gone,
 i_NoTerms_NoDeal:=zD n_NoTerms_NoDeal hd_NoDeal ty_NoDeal s_NoTerms_NoDeal,
 i_NoTerms_NoMember:=zD n_NoTerms_NoMember hd_NoMember ty_NoMember s_NoTerms_NoMember,
 i_NoTerms_NoTerms:=zbM,
 i_NoTerms_QuitsError:=zD n_NoTerms_QuitsError hd_QuitsError ty_QuitsError s_NoTerms_QuitsError,
 i_NoTerms_Settled:=zD n_NoTerms_Settled hd_Settled ty_Settled s_NoTerms_Settled,
 i_NoTerms_Standing:=zD n_NoTerms_Standing hd_Standing ty_Standing s_NoTerms_Standing,
 i_NoTerms_ValueError:=zc1 v_NoTerms,
 q_NoTerms_QuitsError:=zcq b_QuitsError hd_QuitsError ty_QuitsError s_NoTerms_QuitsError,
 e_Settled:=zbP x_Settled ga_Settled gn_Settled be_Settled hd_Settled fa_Settled sn_ tk_ mo_Settled,
 i_Settled_Closed:=zD n_Settled_Closed hd_Closed ty_Closed s_Settled_Closed,
 i_Settled_Gone:=zD n_Settled_Gone hd_Gone ty_Gone s_Settled_Gone,
 i_Settled_NoDeal:=zD n_Settled_NoDeal hd_NoDeal ty_NoDeal s_Settled_NoDeal,
 i_Settled_NoMember:=zD n_Settled_NoMember hd_NoMember ty_NoMember s_Settled_NoMember,
 i_Settled_NoTerms:=zD n_Settled_NoTerms hd_NoTerms ty_NoTerms s_Settled_NoTerms,
 i_Settled_QuitsError:=zD n_Settled_QuitsError hd_QuitsError ty_QuitsError s_Settled_QuitsError,
 i_Settled_Settled:=zbM,
 i_Settled_Standing:=zD n_Settled_Standing hd_Standing ty_Standing s_Settled_Standing,
 i_Settled_ValueError:=zc1 v_Settled,
 q_Settled_QuitsError:=zcq b_QuitsError hd_QuitsError ty_QuitsError s_Settled_QuitsError,
 e_Standing:=zbP x_Standing ga_Standing gn_Standing be_Standing hd_Standing fa_Standing sn_ tk_ mo_Standing,
 i_Standing_Closed:=zD n_Standing_Closed hd_Closed ty_Closed s_Standing_Closed,
 i_Standing_Gone:=zD n_Standing_Gone hd_Gone ty_Gone s_Standing_Gone,
 i_Standing_NoDeal:=zD n_Standing_NoDeal hd_NoDeal ty_NoDeal s_Standing_NoDeal,
 i_Standing_NoMember:=zD n_Standing_NoMember hd_NoMember ty_NoMember s_Standing_NoMember,
 i_Standing_NoTerms:=zD n_Standing_NoTerms hd_NoTerms ty_NoTerms s_Standing_NoTerms,
 i_Standing_QuitsError:=zD n_Standing_QuitsError hd_QuitsError ty_QuitsError s_Standing_QuitsError,
 i_Standing_Settled:=zD n_Standing_Settled hd_Settled ty_Settled s_Standing_Settled,
 i_Standing_Standing:=zbM,
 i_Standing_ValueError:=zc1 v_Standing,
 q_Standing_QuitsError:=zcq b_QuitsError hd_QuitsError ty_QuitsError s_Standing_QuitsError,
 c_Book:=c_Book,m_Book:=PySem.W.mg_of X G m_Book,cl_Book:=⟨pg_Book,hd_Book,po_Book,sa_Book⟩,
 na_Book_day:=na_Book_day,
 na_Book_deals:=na_Book_deals,
 na_Book_get:=na_Book_get,
 na_Book_many:=na_Book_many,
 na_Book_wares:=na_Book_wares,
 t_AMOUNT:=t_AMOUNT,g_AMOUNT:=PySem.W.mg_of X G g_AMOUNT,
 t_DAY:=t_DAY,g_DAY:=PySem.W.mg_of X G g_DAY,
 t_MOST_AMOUNT:=t_MOST_AMOUNT,g_MOST_AMOUNT:=PySem.W.mg_of X G g_MOST_AMOUNT,
 t_MOST_DAY:=t_MOST_DAY,g_MOST_DAY:=PySem.W.mg_of X G g_MOST_DAY,
 t_MOST_UNITS:=t_MOST_UNITS,g_MOST_UNITS:=PySem.W.mg_of X G g_MOST_UNITS,
 t_PAYEE:=t_PAYEE,g_PAYEE:=PySem.W.mg_of X G g_PAYEE,
 t_PAYER:=t_PAYER,g_PAYER:=PySem.W.mg_of X G g_PAYER,
 t_RANK:=t_RANK,g_RANK:=PySem.W.mg_of X G g_RANK,
 t_STATE:=t_STATE,g_STATE:=PySem.W.mg_of X G g_STATE,
 t_UNITS:=t_UNITS,g_UNITS:=PySem.W.mg_of X G g_UNITS,
 t_WARE:=t_WARE,g_WARE:=PySem.W.mg_of X G g_WARE,
 d_Book___init__:={ a:=f0,fd:=_,F:=zo (st:=zar) l0 c0 k0,b:=(zo (st:=zar) l0 c0 k0).binds (ps:=["self", "many", "wares"]) fun _ _ _ _ _ _ us hl=>(by obtain ⟨_,_,_,rfl⟩:=len3 hl; rfl),mt:=⟨a0,i0,k0⟩ },mk_Book:=⟨mk_Book,a0,i0,kc_Book⟩,
 d_Book_strike:={ a:=f1,fd:=_,F:=zo (st:=zaJ) l1 c1 k1,b:=(zo (st:=zaJ) l1 c1 k1).binds (ps:=["self", "payer", "payee", "ware", "units", "amount", "day", "rank"]) fun _ _ _ _ _ _ us hl=>(by obtain ⟨_,_,_,_,_,_,_,_,rfl⟩:=len8 hl; rfl),mt:=⟨a1,i1,k1⟩ },
 d_Book_check_members:={ a:=f2,fd:=_,F:=zo (st:=zZ) l2 c2 k2,b:=(zo (st:=zZ) l2 c2 k2).binds (ps:=["self", "payer", "payee"]) fun _ _ _ _ _ _ us hl=>(by obtain ⟨_,_,_,rfl⟩:=len3 hl; rfl),mt:=⟨a2,i2,k2⟩ },
 d_Book_check_terms:={ a:=f3,fd:=_,F:=zo (st:=z8) l3 c3 k3,b:=(zo (st:=z8) l3 c3 k3).binds (ps:=["self", "ware", "units", "amount", "day", "rank"]) fun _ _ _ _ _ _ us hl=>(by obtain ⟨_,_,_,_,_,_,rfl⟩:=len6 hl; rfl),mt:=⟨a3,i3,k3⟩ },
 d_Book_change:={ a:=f4,fd:=_,F:=zo (st:=zaH) l4 c4 k4,b:=(zo (st:=zaH) l4 c4 k4).binds (ps:=["self", "number", "amount", "day"]) fun _ _ _ _ _ _ us hl=>(by obtain ⟨_,_,_,_,rfl⟩:=len4 hl; rfl),mt:=⟨a4,i4,k4⟩ },
 d_Book_break_off:={ a:=f5,fd:=_,F:=zo (st:=zah) l5 c5 k5,b:=(zo (st:=zah) l5 c5 k5).binds (ps:=["self", "number"]) fun _ _ _ _ _ _ us hl=>(by obtain ⟨_,_,rfl⟩:=len2 hl; rfl),mt:=⟨a5,i5,k5⟩ },
 d_Book_standing_deal:={ a:=f6,fd:=_,F:=zo (st:=z3) l6 c6 k6,b:=(zo (st:=z3) l6 c6 k6).binds (ps:=["self", "number"]) fun _ _ _ _ _ _ us hl=>(by obtain ⟨_,_,rfl⟩:=len2 hl; rfl),mt:=⟨a6,i6,k6⟩ },
 d_Book_put_state:={ a:=f7,fd:=_,F:=zo (st:=zag) l7 c7 k7,b:=(zo (st:=zag) l7 c7 k7).binds (ps:=["self", "number", "state"]) fun _ _ _ _ _ _ us hl=>(by obtain ⟨_,_,_,rfl⟩:=len3 hl; rfl),mt:=⟨a7,i7,k7⟩ },
 d_Book_break_all:={ a:=f8,fd:=_,F:=zo (st:=zaf) l8 c8 k8,b:=(zo (st:=zaf) l8 c8 k8).binds (ps:=["self", "member"]) fun _ _ _ _ _ _ us hl=>(by obtain ⟨_,_,rfl⟩:=len2 hl; rfl),mt:=⟨a8,i8,k8⟩ },
 d_Book_contrary:={ a:=f9,fd:=_,F:=zo (st:=zao) l9 c9 k9,b:=(zo (st:=zao) l9 c9 k9).binds (ps:=["self", "number", "day"]) fun _ _ _ _ _ _ us hl=>(by obtain ⟨_,_,_,rfl⟩:=len3 hl; rfl),mt:=⟨a9,i9,k9⟩ },
 d_Book_contrary_terms:={ a:=f10,fd:=_,F:=zo (st:=zX) l10 c10 k10,b:=(zo (st:=zX) l10 c10 k10).binds (ps:=["self", "number"]) fun _ _ _ _ _ _ us hl=>(by obtain ⟨_,_,rfl⟩:=len2 hl; rfl),mt:=⟨a10,i10,k10⟩ },
 d_Book_close:={ a:=f11,fd:=_,F:=zo (st:=zaW) l11 c11 k11,b:=(zo (st:=zaW) l11 c11 k11).binds (ps:=["self"]) fun _ _ _ _ _ _ us hl=>(by obtain ⟨_,rfl⟩:=len1 hl; rfl),mt:=⟨a11,i11,k11⟩ },
 d_Book_today:={ a:=f12,fd:=_,F:=zo (st:=zaZ) l12 c12 k12,b:=(zo (st:=zaZ) l12 c12 k12).binds (ps:=["self"]) fun _ _ _ _ _ _ us hl=>(by obtain ⟨_,rfl⟩:=len1 hl; rfl),mt:=⟨a12,i12,k12⟩ },
 d_Book_struck:={ a:=f13,fd:=_,F:=zo (st:=zaG) l13 c13 k13,b:=(zo (st:=zaG) l13 c13 k13).binds (ps:=["self"]) fun _ _ _ _ _ _ us hl=>(by obtain ⟨_,rfl⟩:=len1 hl; rfl),mt:=⟨a13,i13,k13⟩ },
 d_Book_deal:={ a:=f14,fd:=_,F:=zo (st:=zbc) l14 c14 k14,b:=(zo (st:=zbc) l14 c14 k14).binds (ps:=["self", "number"]) fun _ _ _ _ _ _ us hl=>(by obtain ⟨_,_,rfl⟩:=len2 hl; rfl),mt:=⟨a14,i14,k14⟩ },
 d_Book_numbers_on:={ a:=f15,fd:=_,F:=zo (st:=zab) l15 c15 k15,b:=(zo (st:=zab) l15 c15 k15).binds (ps:=["self", "day"]) fun _ _ _ _ _ _ us hl=>(by obtain ⟨_,_,rfl⟩:=len2 hl; rfl),mt:=⟨a15,i15,k15⟩ },
 d_Book_sheet_on:={ a:=f16,fd:=_,F:=zo (st:=zat) l16 c16 k16,b:=(zo (st:=zat) l16 c16 k16).binds (ps:=["self", "day"]) fun _ _ _ _ _ _ us hl=>(by obtain ⟨_,_,rfl⟩:=len2 hl; rfl),mt:=⟨a16,i16,k16⟩ },
 d_Book_entries:={ a:=f17,fd:=_,F:=zo (st:=zaA) l17 c17 k17,b:=(zo (st:=zaA) l17 c17 k17).binds (ps:=["self", "member"]) fun _ _ _ _ _ _ us hl=>(by obtain ⟨_,_,rfl⟩:=len2 hl; rfl),mt:=⟨a17,i17,k17⟩ },
 d_Book_position:={ a:=f18,fd:=_,F:=zo (st:=zaq) l18 c18 k18,b:=(zo (st:=zaq) l18 c18 k18).binds (ps:=["self", "member"]) fun _ _ _ _ _ _ us hl=>(by obtain ⟨_,_,rfl⟩:=len2 hl; rfl),mt:=⟨a18,i18,k18⟩ },
 d__law_cell:={ a:=f19,fd:=_,F:=zo (st:=zbf) l19 c19 k19,b:=(zo (st:=zbf) l19 c19 k19).binds (ps:=["_law_script", "_law_k"]) fun _ _ _ _ _ _ us hl=>(by obtain ⟨_,_,rfl⟩:=len2 hl; rfl),m:=PySem.W.mg_of X G a19 },
 d__law_draw:={ a:=f20,fd:=_,F:=zo (st:=zba) l20 c20 k20,b:=(zo (st:=zba) l20 c20 k20).binds (ps:=["_law_script", "_law_k", "_law_many"]) fun _ _ _ _ _ _ us hl=>(by obtain ⟨_,_,_,rfl⟩:=len3 hl; rfl),m:=PySem.W.mg_of X G a20 },
 d__law_great:={ a:=f21,fd:=_,F:=zo (st:=zaY) l21 c21 k21,b:=(zo (st:=zaY) l21 c21 k21).binds (ps:=["_law_script", "_law_k", "_law_many"]) fun _ _ _ _ _ _ us hl=>(by obtain ⟨_,_,_,rfl⟩:=len3 hl; rfl),m:=PySem.W.mg_of X G a21 },
 d__law_field:={ a:=f22,fd:=_,F:=zo (st:=zaT) l22 c22 k22,b:=(zo (st:=zaT) l22 c22 k22).binds (ps:=["_law_script", "_law_k", "_law_low", "_law_high"]) fun _ _ _ _ _ _ us hl=>(by obtain ⟨_,_,_,_,rfl⟩:=len4 hl; rfl),m:=PySem.W.mg_of X G a22 },
 d__law_day:={ a:=f23,fd:=_,F:=zo (st:=zbt) l23 c23 k23,b:=(zo (st:=zbt) l23 c23 k23).binds (ps:=["_law_script", "_law_k", "_law_today"]) fun _ _ _ _ _ _ us hl=>(by obtain ⟨_,_,_,rfl⟩:=len3 hl; rfl),m:=PySem.W.mg_of X G a23 },
 d__law_number:={ a:=f24,fd:=_,F:=zo (st:=zaO) l24 c24 k24,b:=(zo (st:=zaO) l24 c24 k24).binds (ps:=["_law_script", "_law_k", "_law_rows"]) fun _ _ _ _ _ _ us hl=>(by obtain ⟨_,_,_,rfl⟩:=len3 hl; rfl),m:=PySem.W.mg_of X G a24 },
 d__law_deed:={ a:=f25,fd:=_,F:=zo (st:=zbd) l25 c25 k25,b:=(zo (st:=zbd) l25 c25 k25).binds (ps:=["_law_script", "_law_at", "_law_rows", "_law_many", "_law_wares", "_law_today"]) fun _ _ _ _ _ _ us hl=>(by obtain ⟨_,_,_,_,_,_,rfl⟩:=len6 hl; rfl),m:=PySem.W.mg_of X G a25 },
 d__law_name:={ a:=f26,fd:=_,F:=zo (st:=za8) l26 c26 k26,b:=(zo (st:=za8) l26 c26 k26).binds (ps:=["_law_e"]) fun _ _ _ _ _ _ us hl=>(by obtain ⟨_,rfl⟩:=len1 hl; rfl),m:=PySem.W.mg_of X G a26 },
 d__law_done:={ a:=f27,fd:=_,F:=zo (st:=zbb) l27 c27 k27,b:=(zo (st:=zbb) l27 c27 k27).binds (ps:=["_law_book", "_law_deed_here"]) fun _ _ _ _ _ _ us hl=>(by obtain ⟨_,_,rfl⟩:=len2 hl; rfl),m:=PySem.W.mg_of X G a27 },
 d__law_found:={ a:=f28,fd:=_,F:=zo (st:=za0) l28 c28 k28,b:=(zo (st:=za0) l28 c28 k28).binds (ps:=["_law_book", "_law_deed_here"]) fun _ _ _ _ _ _ us hl=>(by obtain ⟨_,_,rfl⟩:=len2 hl; rfl),m:=PySem.W.mg_of X G a28 },
 d__law_struck:={ a:=f29,fd:=_,F:=zo (st:=zaF) l29 c29 k29,b:=(zo (st:=zaF) l29 c29 k29).binds (ps:=["_law_rows", "_law_many", "_law_wares", "_law_today", "_law_terms"]) fun _ _ _ _ _ _ us hl=>(by obtain ⟨_,_,_,_,_,rfl⟩:=len5 hl; rfl),m:=PySem.W.mg_of X G a29 },
 d__law_turned:={ a:=f30,fd:=_,F:=zo (st:=zaL) l30 c30 k30,b:=(zo (st:=zaL) l30 c30 k30).binds (ps:=["_law_rows", "_law_today", "_law_deed_here"]) fun _ _ _ _ _ _ us hl=>(by obtain ⟨_,_,_,rfl⟩:=len3 hl; rfl),m:=PySem.W.mg_of X G a30 },
 d__law_set_right:={ a:=f31,fd:=_,F:=zo (st:=zai) l31 c31 k31,b:=(zo (st:=zai) l31 c31 k31).binds (ps:=["_law_rows", "_law_many", "_law_wares", "_law_today", "_law_deed_here"]) fun _ _ _ _ _ _ us hl=>(by obtain ⟨_,_,_,_,_,rfl⟩:=len5 hl; rfl),m:=PySem.W.mg_of X G a31 },
 d__law_marked:={ a:=f32,fd:=_,F:=zo (st:=zaK) l32 c32 k32,b:=(zo (st:=zaK) l32 c32 k32).binds (ps:=["_law_rows", "_law_numbers", "_law_state"]) fun _ _ _ _ _ _ us hl=>(by obtain ⟨_,_,_,rfl⟩:=len3 hl; rfl),m:=PySem.W.mg_of X G a32 },
 d__law_due:={ a:=f33,fd:=_,F:=zo (st:=zbs) l33 c33 k33,b:=(zo (st:=zbs) l33 c33 k33).binds (ps:=["_law_rows", "_law_many", "_law_wares", "_law_today", "_law_deed_here"]) fun _ _ _ _ _ _ us hl=>(by obtain ⟨_,_,_,_,_,rfl⟩:=len5 hl; rfl),m:=PySem.W.mg_of X G a33 },
 d__law_entries_due:={ a:=f34,fd:=_,F:=zo (st:=z9) l34 c34 k34,b:=(zo (st:=z9) l34 c34 k34).binds (ps:=["_law_rows", "_law_member"]) fun _ _ _ _ _ _ us hl=>(by obtain ⟨_,_,rfl⟩:=len2 hl; rfl),m:=PySem.W.mg_of X G a34 },
 d__law_position_due:={ a:=f35,fd:=_,F:=zo (st:=z5) l35 c35 k35,b:=(zo (st:=z5) l35 c35 k35).binds (ps:=["_law_rows", "_law_member", "_law_wares"]) fun _ _ _ _ _ _ us hl=>(by obtain ⟨_,_,_,rfl⟩:=len3 hl; rfl),m:=PySem.W.mg_of X G a35 },
 d__law_looked:={ a:=f36,fd:=_,F:=zo (st:=zaI) l36 c36 k36,b:=(zo (st:=zaI) l36 c36 k36).binds (ps:=["_law_book", "_law_rows", "_law_way", "_law_nth", "_law_many", "_law_wares", "_law_today"]) fun _ _ _ _ _ _ us hl=>(by obtain ⟨_,_,_,_,_,_,_,rfl⟩:=len7 hl; rfl),m:=PySem.W.mg_of X G a36 },
 d__law_evened:={ a:=f37,fd:=_,F:=zo (st:=zaN) l37 c37 k37,b:=(zo (st:=zaN) l37 c37 k37).binds (ps:=["_law_book", "_law_rows", "_law_many"]) fun _ _ _ _ _ _ us hl=>(by obtain ⟨_,_,_,rfl⟩:=len3 hl; rfl),m:=PySem.W.mg_of X G a37 },
 d_law:={ a:=f38,fd:=_,F:=zo (st:=zcV) l38 c38 k38,b:=(zo (st:=zcV) l38 c38 k38).binds (ps:=["_law_script"]) fun _ _ _ _ _ _ us hl=>(by obtain ⟨_,rfl⟩:=len1 hl; rfl),m:=PySem.W.mg_of X G a38 },
 bl_law:=fun s v=>.of_eq rfl,
 z_ValueError:=PySem.W.mg_none_of X G w_ValueError,
 z_bool:=PySem.W.mg_none_of X G w_bool,
 z_enumerate:=PySem.W.mg_none_of X G w_enumerate,
 z_isinstance:=PySem.W.mg_none_of X G w_isinstance,
 z_len:=PySem.W.mg_none_of X G w_len,
 z_list:=PySem.W.mg_none_of X G w_list,
 z_max:=PySem.W.mg_none_of X G w_max,
 z_min:=PySem.W.mg_none_of X G w_min,
 z_range:=PySem.W.mg_none_of X G w_range,
 z_sorted:=PySem.W.mg_none_of X G w_sorted,
 z_tuple:=PySem.W.mg_none_of X G w_tuple }
section
variable {P:Program} {w:World} {K:PySem.W.Frag} {mg:Str->Option Value} {base:Heap}
theorem zdL (T:Txt K mg):FnOk P w K mg base (CXF P w) 1 T.d_Book___init__.a T.d_Book___init__.fd ["self", "many", "wares"] (zjM T.c_Book):=by
 refine T.d_Book___init__.F.okN zdQ (fun vs H Q E h=>?_) (fun cdv A outer s H vs Q E hr h=>?_)
 ·obtain ⟨p,dx,m,w,rfl,_⟩:=h; rfl
 obtain ⟨p,dx,m,w,rfl,hp,k⟩:=h
 refine ⟨_,(ze (show PS _ _ (zeF K _ _ _) from zep (pv 0) (pv 1) rfl)
 (ze (show PS _ _ (zeF K _ _ _) from zep (pv 0) (pv 2) rfl)
 (ze (show PS _ _ (zeF K _ _ _) from zep (pv 0) zb rfl)
 (zf (show PS _ _ (zeF K _ _ _) from zep (pv 0) (zas zc) rfl))))),?_⟩
 refine zI (σ0:=[some (.ref p),some (.int m),some (.int w)]) rfl ?_
 walk_at "x"
 refine zdA hp T.cl_Book T.na_Book_many (by show 0 < 1000; decide) fun H1 b1 h1=>?_
 walk_at "x"
 refine zdA h1 T.cl_Book T.na_Book_wares (by show 1 < 1000; decide) fun H2 b2 h2=>?_
 walk_at "x"
 refine zdA h2 T.cl_Book T.na_Book_day (Nat.lt_of_le_of_lt (zbH _ _ _) (by show 2 < 1000; decide)) fun H3 b3 h3=>?_
 walk_at "x"
 rename_i d H4 fd e4 hd
 refine zdA (e4.at h3) T.cl_Book T.na_Book_deals (Nat.lt_of_le_of_lt (zbH _ _ _) (Nat.lt_of_le_of_lt (Nat.add_le_add_right (zbH _ _ _) 1) (by show 3 < 1000; decide))) fun H5 b5 h5=>?_
 have npd:d ≠ p:=zaS fd h3
 refine k d H5 ?_ (fun b o n q=>b5.at (e4.at (b3.at (b2.at (b1.at q n) n) n)) n) h5 (b5.at hd npd)
 have f3:H2 d=none:=by rw [<- b3 d npd]; exact fd
 have f2:H1 d=none:=by rw [<- b2 d npd]; exact f3
 rw [<- b1 d npd]; exact f2
theorem zcI (T:Txt K mg):FnOk P w K mg base (CXF P w) 1 T.d_Book_check_members.a T.d_Book_check_members.fd ["self", "payer", "payee"] (zh4 T.c_Book T.c_NoMember):=by
 refine T.d_Book_check_members.F.okX sc_Book_check_members (fun vs H Q E h=>?_) (fun cdv A outer s H vs Q E hr h=>?_)
 ·obtain ⟨b,dx,d,m,w,y,p,q,rfl,_⟩:=h; rfl
 obtain ⟨b,dx,d,m,w,y,p,q,rfl,hb,h⟩:=h
 have cl_Book:=T.cl_Book
 have na_Book_many:=T.na_Book_many
 refine ⟨_,(ze (zax PassesOwn.leaving rfl (show PI _ _ _ (ziP K _) from zlw (zQ (za (pv 1) (za (pv 2) zc)))) (z4 (i:=3) sc_Book_check_members.nd rfl (Or.inl rfl))
 (zf (zq (PW.pt (zac (zh zal (pv 3) zb (nomark _)) (zaD (zh zcP (pv 3) (show PE _ _ (za3 K _ _) from zaj (pv 0) rfl) (nomark _)))))
 (zf (zay rfl rfl T.m_NoMember (errOk.own T.e_NoMember) (za zj zc) zbi))
 zk)))
 (zf (zq (zh (show OpR _ (compareOp .Eq) (zC K) from zp hr.units) (pv 1) (pv 2) (nomark _))
 (zf (zay rfl rfl T.m_NoMember (errOk.own T.e_NoMember) (za zj zc) zbi))
 zk))),?_⟩
 refine zI (σ0:=[some (.ref b),some (.int p),some (.int q),none]) rfl ?_
 walk_at "x"
 refine zW (by first | decide | simp) fun t H1 ft e1 ht=>?_
 refine zkX (.of ht) ?_
 refine zfL (zkt (xs:=[.int p,.int q])) (fun i σ' H'=>∃ f3:Option V,σ'=[some (.ref b),some (.int p),some (.int q),f3]/\Same H1 H'/\(0 < i->0<=p/\p < m)/\(1 < i->0<=q/\q < m)) ⟨_,rfl,Same.refl _,fun z=>absurd z (by omega),fun z=>absurd z (by omega)⟩ ?_ ?_ ?_
 ·rintro i σ' H' ⟨_,_,e,_⟩; exact .of (e.at ht)
 ·rintro i x σ' H' H2 hi ⟨f3,rfl,e',i0,i1⟩ e2 hx
  have hb2:H2 b=some (.ins T.c_Book dx (bfl m w y d)):=e2.at (e'.at (e1.at hb))
  obtain ⟨v,rfl,hv⟩:∃ v:Int,x=.int v/\((i=0/\v=p)\/(i=1/\v=q)):=by
   have hi2:i < 2:=hi
   obtain rfl | rfl:i=0\/i=1:=by omega
   ·exact ⟨p,(Option.some.inj hx).symm,.inl ⟨rfl,rfl⟩⟩
   ·exact ⟨q,(Option.some.inj hx).symm,.inr ⟨rfl,rfl⟩⟩
  walk_at "x"
  all_goals first
   | exact ⟨_,rfl,e'.trans e2,fun _=>by rcases hv with ⟨_,rfl⟩ | ⟨z,_⟩ <;> first | (constructor <;> omega) | exact i0 (by omega),fun _=>by rcases hv with ⟨z,_⟩ | ⟨_,rfl⟩ <;> first | (exfalso; omega) | (constructor <;> omega)⟩
   | (rcases h with ⟨⟨⟨a1,a2⟩,⟨a3,a4⟩,a5⟩,_⟩ | ⟨_,k⟩
      ·exfalso; omega
      ·exact ⟨by decide,k _ (e1.trans (e'.trans e2))⟩)
 ·rintro σ' H' ⟨f3,rfl,e',i0,i1⟩
  have p0:=i0 (show 0 < 2 by decide)
  have q0:=i1 (show 1 < 2 by decide)
  walk_at "x"
  all_goals rcases h with ⟨⟨⟨a1,a2⟩,⟨a3,a4⟩,a5⟩,k⟩ | ⟨hn,k⟩
  all_goals first
   | exact k _ (e1.trans e')
   | exact ⟨by decide,k _ (e1.trans e')⟩
   | (exfalso; omega)
   | exact absurd ⟨p0,q0,by omega⟩ hn
theorem zb3 (T:Txt K mg):FnOk P w K mg base (CXF P w) 1 T.d_Book_check_terms.a T.d_Book_check_terms.fd ["self", "ware", "units", "amount", "day", "rank"] (zhK T.c_Book T.c_NoTerms T.c_Closed):=by
 refine T.d_Book_check_terms.F.okX zda (fun vs H Q E h=>?_) (fun cdv A outer s H vs Q E hr h=>?_)
 ·obtain ⟨b,dx,d,m,w,y,t,rfl,_⟩:=h; rfl
 obtain ⟨b,dx,d,m,w,y,t,rfl,hb,h⟩:=h
 have cl_Book:=T.cl_Book
 have na_Book_wares:=T.na_Book_wares
 have na_Book_day:=T.na_Book_day
 refine ⟨_,(ze (zq (PW.pt (zac (zh zal (pv 1) zb (nomark _)) (zaD (zh zcP (pv 1) (show PE _ _ (za3 K _ _) from zaj (pv 0) rfl) (nomark _)))))
 (zf (zay rfl rfl T.m_NoTerms (errOk.own T.e_NoTerms) (za zj zc) zbi))
 zk)
 (ze (zq (PW.pt (zac (zh zal (pv 2) zb (nomark _)) (zaD (zh zcd (pv 2) (zr (v:=.int 1000000) rfl T.g_MOST_UNITS ⟨_,rfl⟩) (nomark _)))))
 (zf (zay rfl rfl T.m_NoTerms (errOk.own T.e_NoTerms) (za zj zc) zbi))
 zk)
 (ze (zq (PW.pt (zac (zh zal (pv 3) zb (nomark _)) (zaD (zh zcd (pv 3) (zr (v:=.int 1000000000) rfl T.g_MOST_AMOUNT ⟨_,rfl⟩) (nomark _)))))
 (zf (zay rfl rfl T.m_NoTerms (errOk.own T.e_NoTerms) (za zj zc) zbi))
 zk)
 (ze (zq (PW.pt (zac (zh zal (pv 4) zb (nomark _)) (zaD (zh zcd (pv 4) (zr (v:=.int 1000000) rfl T.g_MOST_DAY ⟨_,rfl⟩) (nomark _)))))
 (zf (zay rfl rfl T.m_NoTerms (errOk.own T.e_NoTerms) (za zj zc) zbi))
 zk)
 (ze (zq (PW.pt (zac (zh zal (pv 5) zb (nomark _)) (zaD (zh zcd (pv 5) zb (nomark _)))))
 (zf (zay rfl rfl T.m_NoTerms (errOk.own T.e_NoTerms) (za zj zc) zbi))
 zk)
 (zf (zq (zh zal (pv 4) (show PE _ _ (za3 K _ _) from zaj (pv 0) rfl) (nomark _))
 (zf (zay rfl rfl T.m_Closed (errOk.own T.e_Closed) (za zj zc) zbi))
 zk))))))),?_⟩
 refine zI (σ0:=[some (.ref b),some (.int t.w),some (.int t.u),some (.int t.a),some (.int t.y),some (.int t.r)]) rfl ?_
 rcases h with ⟨⟨⟨b1,b2⟩,⟨b3,b4⟩,⟨b5,b6⟩,⟨b7,b8⟩,b9,b10⟩,h2,k⟩ | ⟨h1,k⟩ | ⟨⟨⟨b1,b2⟩,⟨b3,b4⟩,⟨b5,b6⟩,⟨b7,b8⟩,b9,b10⟩,h2,k⟩
 ·walk_at "x"
  all_goals first | exact k | (exfalso; omega)
 ·walk_at "x"
  all_goals first | exact ⟨by decide,k⟩ | exact absurd (show zbV w t from ⟨⟨by omega,by omega⟩,⟨by omega,by omega⟩,⟨by omega,by omega⟩,⟨by omega,by omega⟩,by omega,by omega⟩) h1
 ·walk_at "x"
  all_goals first | exact ⟨by decide,k⟩ | (exfalso; omega)
theorem zcK (T:Txt K mg):FnOk P w K mg base (CXF P w) 2 T.d_Book_strike.a T.d_Book_strike.fd ["self", "payer", "payee", "ware", "units", "amount", "day", "rank"] (zh7 T.c_Book T.c_NoMember T.c_NoTerms T.c_Closed):=by
 refine T.d_Book_strike.F.okX zey (fun vs H Q E h=>?_) (fun cdv A outer s H vs Q E hr h=>?_)
 ·obtain ⟨b,dx,d,m,w,y,t,xs,rfl,_⟩:=h; rfl
 obtain ⟨b,dx,d,m,w,y,t,xs,rfl,hb,hd,hl,h⟩:=h
 have cl_Book:=T.cl_Book
 have na_Book_deals:=T.na_Book_deals
 refine ⟨_,(ze (zS (zV (pv 0) T.cl_Book T.d_Book_check_members.mt (zcI T) (hr.mono (by decide)) T.d_Book_check_members.b .nil zbj (za (pv 1) (za (pv 2) zc))))
 (ze (zS (zV (pv 0) T.cl_Book T.d_Book_check_terms.mt (zb3 T) (hr.mono (by decide)) T.d_Book_check_terms.b .nil zbj (za (pv 3) (za (pv 4) (za (pv 5) (za (pv 6) (za (pv 7) zc)))))))
 (ze (zS (show PE _ _ (tBM K _ _ _ _) from za2 PySem.F.plainAttrs_list PySem.F.slot_list_append PySem.F.type_list_append zT (show PE _ _ (za3 K _ _) from zaj (pv 0) rfl) (za (zQ (za (pv 1) (za (pv 2) (za (pv 3) (za (pv 4) (za (pv 5) (za (pv 6) (za (pv 7) (za zj zc))))))))) zc)))
 (zf (zn (zm zaU (zF (show CallR _ _ (za4 K) from zU) rfl T.z_len BT.len (za (show PE _ _ (za3 K _ _) from zaj (pv 0) rfl) zc)) zb)))))),?_⟩
 refine zI (σ0:=[some (.ref b),some (.int t.p),some (.int t.q),some (.int t.w),some (.int t.u),some (.int t.a),some (.int t.y),some (.int t.r)]) rfl ?_
 walk_at "x"
 by_cases hM:zcR m t.p t.q
 ·refine ⟨b,dx,d,m,w,y,_,_,rfl,hb,.inl ⟨hM,fun H1 e1=>?_⟩⟩
  walk_at "x"
  by_cases hT:zbV w t
  ·by_cases hy:t.y < y
   ·have hk:zR m w y t=3:=by unfold zR; rw [if_neg (Classical.not_not.mpr hM),if_neg (Classical.not_not.mpr hT),if_pos hy]
    refine ⟨b,dx,d,m,w,y,t,rfl,e1.at hb,.inr (.inr ⟨hT,hy,?_⟩)⟩
    rcases h with ⟨z,_⟩ | ⟨z,_⟩ | ⟨z,_⟩ | ⟨_,k⟩
    all_goals first | exact k _ e1 | (exfalso; omega)
   ·have hk:zR m w y t=0:=by unfold zR; rw [if_neg (Classical.not_not.mpr hM),if_neg (Classical.not_not.mpr hT),if_neg hy]
    refine ⟨b,dx,d,m,w,y,t,rfl,e1.at hb,.inl ⟨hT,by omega,?_⟩⟩
    rcases h with ⟨_,k⟩ | ⟨z,_⟩ | ⟨z,_⟩ | ⟨z,_⟩
    case inr.inl=>exfalso; omega
    case inr.inr.inl=>exfalso; omega
    case inr.inr.inr=>exfalso; omega
    walk_at "x"
    rename_i a H2 fa e2 ha H3 b3 h3
    have el:(((xs ++ [V.ref a]).length:Nat):Int) - 1=((xs.length:Nat):Int):=by rw [List.length_append]; show (((xs.length + 1:Nat):Nat):Int) - 1=_; omega
    rw [el]
    exact k a H2 H3 (e1.trans e2) ha b3 h3
  ·have hk:zR m w y t=2:=by unfold zR; rw [if_neg (Classical.not_not.mpr hM),if_pos hT]
   refine ⟨b,dx,d,m,w,y,t,rfl,e1.at hb,.inr (.inl ⟨hT,?_⟩)⟩
   rcases h with ⟨z,_⟩ | ⟨z,_⟩ | ⟨_,k⟩ | ⟨z,_⟩
   all_goals first | exact k _ e1 | (exfalso; omega)
 ·have hk:zR m w y t=1:=by unfold zR; rw [if_pos hM]
  refine ⟨b,dx,d,m,w,y,_,_,rfl,hb,.inr ⟨hM,fun H1 e1=>?_⟩⟩
  rcases h with ⟨z,_⟩ | ⟨_,k⟩ | ⟨z,_⟩ | ⟨z,_⟩
  all_goals first | exact k _ e1 | (exfalso; omega)
theorem zct (T:Txt K mg):FnOk P w K mg base (CXF P w) 1 T.d_Book_deal.a T.d_Book_deal.fd ["self", "number"] (zkl T.c_Book T.c_NoDeal):=by
 refine T.d_Book_deal.F.okX zfS (fun vs H Q E h=>?_) (fun cdv A outer s H vs Q E hr h=>?_)
 ·obtain ⟨b,dx,d,m,w,y,n,xs,rfl,_⟩:=h; rfl
 obtain ⟨b,dx,d,m,w,y,n,xs,rfl,hb,hd,h⟩:=h
 have cl_Book:=T.cl_Book
 have na_Book_deals:=T.na_Book_deals
 refine ⟨_,(ze (zq (PW.pt (zac (zh zal (pv 1) zb (nomark _)) (zaD (zh zcP (pv 1) (zF (show CallR _ _ (za4 K) from zU) rfl T.z_len BT.len (za (show PE _ _ (za3 K _ _) from zaj (pv 0) rfl) zc)) (nomark _)))))
 (zf (zay rfl rfl T.m_NoDeal (errOk.own T.e_NoDeal) (za zj zc) zbi))
 zk)
 (zf (zn (zg (show IxR _ (rIx K) from zd) (show PE _ _ (za3 K _ _) from zaj (pv 0) rfl) (pv 1) (fun _ _=>rfl))))),?_⟩
 refine zI (σ0:=[some (.ref b),some (.int n)]) rfl ?_
 rcases h with ⟨n0,v,hv,k⟩ | ⟨hn,k⟩
 ·have hlt:=(List.getElem?_eq_some_iff.mp hv).1
  have hat:atI xs n=some v:=zbE n0 hv
  walk_at "x"
  all_goals first | exact k | (exfalso; omega)
 ·walk_at "x"
  all_goals first | exact ⟨by decide,k⟩ | (exfalso; omega)
theorem zbC (T:Txt K mg):FnOk P w K mg base (CXF P w) 1 T.d_Book_put_state.a T.d_Book_put_state.fd ["self", "number", "state"] (zg6 T.c_Book):=by
 refine T.d_Book_put_state.F.okN zdE (fun vs H Q E h=>?_) (fun cdv A outer s H vs Q E hr h=>?_)
 ·obtain ⟨b,d,m,w,y,n,st,ts,t,rfl,_⟩:=h; rfl
 obtain ⟨b,d,m,w,y,n,st,ts,t,rfl,hB,n0,ht,k⟩:=h
 obtain ⟨⟨dx,hb⟩,xs,hd,hI⟩:=id hB
 have hxl:=hI.length
 have hnl:=(List.getElem?_eq_some_iff.mp ht).1
 obtain ⟨a,ha1,ha2⟩:=hI.getI ht
 have ha3:H a=some (.tup [.int t.1.p,.int t.1.q,.int t.1.w,.int t.1.u,.int t.1.a,.int t.1.y,.int t.1.r,.str t.2]):=ha2
 have hat:atI xs n=some (.ref a):=zbE n0 ha1
 have cl_Book:=T.cl_Book
 have na_Book_deals:=T.na_Book_deals
 refine ⟨_,(zf (zcg (zm (show OpR _ (binaryOp .Add) (zE K) from zt) (zbO (show SlR _ (zeE K) from zd6) (zg (show IxR _ (rIx K) from zd) (show PE _ _ (za3 K _ _) from zaj (pv 0) rfl) (pv 1) (fun _ _=>rfl)) zb5 (zca (zr (v:=.int 7) rfl T.g_STATE ⟨_,rfl⟩))) (zQ (za (pv 2) zc))) (zce (show PE _ _ (za3 K _ _) from zaj (pv 0) rfl) (pv 1) zbe))),?_⟩
 refine zI (σ0:=[some (.ref b),some (.int n),some (.str st)]) rfl ?_
 walk_at "x"
 refine zes ha3 (by show ¬ (HT.sIx 8 0 none=0/\HT.sIx 8 8 (some 7)=8); decide) fun p H1 fp e1 hp=>?_
 have hp':H1 p=some (.tup (zc0 t.1)):=hp
 walk_at "x"
 rename_i o H2 fo e2 ho
 refine zev (e2.at hp') ho (by unfold zc0; simp) (by simp) (by show 7 + 1<=100000; decide) fun p2 H3 fp2 e3 hp2=>?_
 have hp3:H3 p2=some (.tup (zad (t.1,st))):=hp2
 have hd3:=e3.at (e2.at (e1.at hd))
 have hb3:=e3.at (e2.at (e1.at hb))
 walk_at "x"
 refine zcw hd3 (zfF n0 (by omega)) fun H4 b4 h4=>?_
 walk_at "x"
 refine k H4 ⟨⟨dx,b4.ins hb3⟩,_,h4,?_⟩ (ButL.of hd (e1.trans (e2.trans e3)) b4)
 exact IsTs.set (f:=zad) (b4.tup hp3) _ (LBut.isTs b4 (hI.same (e1.trans (e2.trans e3))))
theorem zfr (T:Txt K mg):FnOk P w K mg base (CXF P w) 2 T.d_Book_close.a T.d_Book_close.fd ["self"] (zio T.c_Book):=by
 refine T.d_Book_close.F.okN sc_Book_close (fun vs H Q E h=>?_) (fun cdv A outer s H vs Q E hr h=>?_)
 ·obtain ⟨b,d,m,w,y,ts,rfl,_⟩:=h; rfl
 obtain ⟨b,d,m,w,y,ts,rfl,hB,hl,k⟩:=h
 obtain ⟨⟨dx,hb⟩,xs,hd,hI⟩:=id hB
 have hxl:=hI.length
 have cl_Book:=T.cl_Book
 have na_Book_deals:=T.na_Book_deals
 have na_Book_day:=T.na_Book_day
 refine ⟨_,(ze (zco (i:=1) sc_Book_close.nd rfl rfl rfl (show PI _ _ _ (zea K _) from zdD rfl T.z_enumerate (za (show PE _ _ (za3 K _ _) from zaj (pv 0) rfl) zc)) (zae (Ni:=["number", "one", "self"]) (caps:=[none,none,some 0]) (by rfl)) (fun S _ _ _ _ _=>(show PG _ _ (zd2 K 2 _) from zee (n:=2) rfl (zbz (zaz (gi:=0) S (Or.inl rfl) rfl) (zbz (zaz (gi:=1) S (Or.inl rfl) rfl) zdu)))) (fun _ _ _ _ _=>(zcv (PW.pt (zbk (zh (show OpR _ (compareOp .Eq) (zC K) from zp hr.units) (zg (show IxR _ (rIx K) from zd) (pv 1) (zr (v:=.int 7) rfl T.g_STATE ⟨_,rfl⟩) (fun _ _=>rfl)) zj (nomark _)) (zaR (zh (show OpR _ (compareOp .Eq) (zC K) from zp hr.units) (zg (show IxR _ (rIx K) from zd) (pv 1) (zr (v:=.int 5) rfl T.g_DAY ⟨_,rfl⟩) (fun _ _=>rfl)) (show PE _ _ (za3 K _ _) from zaj (pv 2) rfl) (nomark _))))))) (fun _ _ _ _ _=>(pv 0)))
 (ze (zax PassesOwn.never rfl (show PI _ _ _ (zbh K _) from zaE (pv 1)) (z4 (i:=2) sc_Book_close.nd rfl (Or.inl rfl))
 (zf (zS (zV (pv 0) T.cl_Book T.d_Book_put_state.mt (zbC T) (hr.mono (by decide)) T.d_Book_put_state.b .nil (zy zx) (za (pv 2) (za zj zc))))))
 (ze (show PS _ _ (zeJ K _ _ _ _) from zhz (pv 0) zb zlM)
 (zf (zn (pv 1)))))),?_⟩
 refine zI (σ0:=[some (.ref b),none,none]) rfl ?_
 walk_at "x"
 refine zdW (zcY (K:=K) (a:=d) (xs:=xs)) (fun H' e=>SqL.of (e.at hd)) rfl (fun i vs _=>vs=(zv (zY y) ts i).map V.int) (fun H' _=>rfl) ?_ ?_
 ·rintro i x D vs o o' H2 H3 hi hD e2 hv hvl rfl e3 ⟨t,v,rfl,hx,htt⟩
  obtain ⟨a,u,rfl,hu,ha⟩:=(hI.same (e2.trans e3)).get hx
  have ht':H3 t=some (.tup [.int (i:Int),.ref a]):=htt
  have ha3:H3 a=some (.tup [.int u.1.p,.int u.1.q,.int u.1.w,.int u.1.u,.int u.1.a,.int u.1.y,.int u.1.r,.str u.2]):=ha
  have hb3:H3 b=some (.ins T.c_Book dx (bfl m w y d)):=e3.at (e2.at hb)
  have es:=zbn (P:=zY y) hu
  walk_at "x"
  ·rename_i h1 h2 H5 b5 h5
   rw [if_pos (by unfold zY; rw [decide_eq_true h1,decide_eq_true h2]; rfl)] at es
   refine ⟨⟨_,_,rfl⟩,by walk_at "h",_,h5,by rw [List.length_append]; exact Nat.succ_le_succ hvl,?_⟩
   show _=(zv (zY y) ts (i + 1)).map V.int
   rw [es,List.map_append]; rfl
  ·rename_i h1 h2
   rw [if_neg (by unfold zY; rw [decide_eq_false h2]; simp),List.append_nil] at es
   refine ⟨⟨_,_,rfl⟩,by walk_at "h",_,by walk_at "h",by omega,?_⟩
   show _=(zv (zY y) ts (i + 1)).map V.int
   rw [es]
  ·rename_i h1
   rw [if_neg (by unfold zY; rw [decide_eq_false h1]; simp),List.append_nil] at es
   refine ⟨⟨_,_,rfl⟩,by walk_at "h",_,by walk_at "h",by omega,?_⟩
   show _=(zv (zY y) ts (i + 1)).map V.int
   rw [es]
 rintro nu H1 vs fnu e1 hnu hvl rfl
 rw [hxl] at hnu
 have hnl:=zcc (P:=zY y) (ts:=ts) ts.length
 walk_at "x"
 have ndn:nu ≠ d:=zaS fnu hd
 refine zbF (xs:=(zv (zY y) ts ts.length).map V.int) (fun i σ' H'=>∃ f2:Option V,σ'=[some (.ref b),some (.ref nu),f2]/\Bk T.c_Book H' b d m w y (zby "settled" ts ((zv (zY y) ts ts.length).take i))/\H' nu=some (.lst ((zv (zY y) ts ts.length).map V.int))/\∀ c o,c ≠ d->H1 c=some o->H' c=some o) ⟨_,rfl,by rw [List.take_zero,zdf]; exact hB.same e1,hnu,fun c o _ h=>h⟩ ?_ ?_ ?_
 ·rintro i σ' H' _ ⟨_,_,_,h,_⟩; exact SqL.of h
 ·rintro i x σ' H' hx ⟨f2,rfl,hB',hnu',hK'⟩
  obtain ⟨n,hn,ex⟩:∃ n,(zv (zY y) ts ts.length)[i]?=some n/\x=.int n:=by
   rw [List.getElem?_map] at hx
   cases h:(zv (zY y) ts ts.length)[i]? with
   | none=>rw [h] at hx; cases hx
   | some n=>rw [h] at hx; exact ⟨n,rfl,(Option.some.inj hx).symm⟩
  subst ex
  obtain ⟨j,t,hj,rfl,htj,hP⟩:=(zbg (Nat.le_refl _)).mp (List.mem_of_getElem? hn)
  obtain ⟨⟨dx',hb'⟩,_⟩:=id hB'
  walk_at "x"
  have hmj:=zbo (s := "settled") (S:=(zv (zY y) ts ts.length).take i) htj
  refine ⟨b,d,m,w,y,_, "settled",_,_,rfl,hB',by omega,by rw [Int.toNat_natCast]; exact hmj,fun H2 hB2 g2=>?_⟩
  rw [Int.toNat_natCast] at hB2
  have e1st:(if (j:Int) ∈ (zv (zY y) ts ts.length).take i then (t.1,("settled" : Str)) else t).1=t.1:=by split <;> rfl
  rw [e1st,zdj htj,<- zaw hn] at hB2
  walk_at "x"
  exact ⟨_,rfl,hB2,g2.at hnu' ndn,fun c o n h=>g2.at (hK' c o n h) n⟩
 ·rintro σ' H' ⟨f2,rfl,hB',hnu',hK'⟩
  rw [List.length_map,List.take_length,zfB] at hB'
  obtain ⟨⟨dx',hb'⟩,xs',hd',hI'⟩:=id hB'
  walk_at "x"
  have nbd:d ≠ b:=zbI hd' hb' (by intro z; cases z)
  refine ⟨b,T.c_Book,dx',_,_,rfl,hb',cl_Book,na_Book_day,zgy,?_⟩
  walk_at "x"
  refine ⟨y,1,rfl,rfl,dx',_,hb',zkh _ _ _ _,?_⟩
  rw [zkz]
  walk_at "x"
  refine k nu _ fnu ⟨⟨dx',zK⟩,xs',by rw [zG nbd]; exact hd',IsTs.keep (fun a ys z=>by rw [zG (zbI z hb' (by intro q; cases q))]; exact z) hI'⟩ (fun c o n1 n2 h=>?_) ?_
  ·rw [zG n2]
   exact hK' c o n1 (e1 c o h)
  ·rw [zG (zbI hnu' hb' (by intro z; cases z))]
   exact hnu'
theorem zci (T:Txt K mg):FnOk P w K mg base (CXF P w) 1 T.d_Book_numbers_on.a T.d_Book_numbers_on.fd ["self", "day"] (zga T.c_Book):=by
 refine T.d_Book_numbers_on.F.okN zdc (fun vs H Q E h=>?_) (fun cdv A outer s H vs Q E hr h=>?_)
 ·obtain ⟨b,d,m,w,y,z,ts,rfl,_⟩:=h; rfl
 obtain ⟨b,d,m,w,y,z,ts,rfl,hB,hl,k⟩:=h
 obtain ⟨⟨dx,hb⟩,xs,hd,hI⟩:=id hB
 have hxl:=hI.length
 have cl_Book:=T.cl_Book
 have na_Book_deals:=T.na_Book_deals
 refine ⟨_,(zf (zn (zdC rfl (show PI _ _ _ (zea K _) from zdD rfl T.z_enumerate (za (show PE _ _ (za3 K _ _) from zaj (pv 0) rfl) zc)) (zae (Ni:=["number", "one", "day"]) (caps:=[none,none,some 1]) (by rfl)) (fun S _ _ _ _ _=>(show PG _ _ (zd2 K 2 _) from zee (n:=2) rfl (zbz (zaz (gi:=0) S (Or.inl rfl) rfl) (zbz (zaz (gi:=1) S (Or.inl rfl) rfl) zdu)))) (fun _ _ _ _ _=>(zcv (PW.pt (zbk (zh (show OpR _ (compareOp .Eq) (zC K) from zp hr.units) (zg (show IxR _ (rIx K) from zd) (pv 1) (zr (v:=.int 5) rfl T.g_DAY ⟨_,rfl⟩) (fun _ _=>rfl)) (pv 2) (nomark _)) (zaR (zh (show OpR _ (compareOp .NotEq) (zbD K) from zbG hr.units) (zg (show IxR _ (rIx K) from zd) (pv 1) (zr (v:=.int 7) rfl T.g_STATE ⟨_,rfl⟩) (fun _ _=>rfl)) zj (nomark _))))))) (fun _ _ _ _ _=>(pv 0))))),?_⟩
 refine zI (σ0:=[some (.ref b),some (.int z)]) rfl ?_
 walk_at "x"
 refine zdW (zcY (K:=K) (a:=d) (xs:=xs)) (fun H' e=>SqL.of (e.at hd)) rfl (fun i vs _=>vs=(zv (onP z) ts i).map V.int) (fun H' _=>rfl) ?_ ?_
 ·rintro i x D vs o o' H2 H3 hi hD e2 hv hvl rfl e3 ⟨t,v,rfl,hx,htt⟩
  obtain ⟨a,u,rfl,hu,ha⟩:=(hI.same (e2.trans e3)).get hx
  have ht':H3 t=some (.tup [.int (i:Int),.ref a]):=htt
  have ha3:H3 a=some (.tup [.int u.1.p,.int u.1.q,.int u.1.w,.int u.1.u,.int u.1.a,.int u.1.y,.int u.1.r,.str u.2]):=ha
  have es:=zbn (P:=onP z) hu
  walk_at "x"
  ·rename_i h1 h2 H5 b5 h5
   rw [if_pos (by unfold onP; rw [decide_eq_true h1,decide_eq_true h2]; rfl)] at es
   refine ⟨⟨_,_,rfl⟩,by walk_at "h",_,h5,by rw [List.length_append]; exact Nat.succ_le_succ hvl,?_⟩
   show _=(zv (onP z) ts (i + 1)).map V.int
   rw [es,List.map_append]; rfl
  ·rename_i h1 h2
   rw [if_neg (by unfold onP; rw [decide_eq_false (show ¬ ¬ u.2=("broken" : Str) from fun w=>w h2)]; simp),List.append_nil] at es
   refine ⟨⟨_,_,rfl⟩,by walk_at "h",_,by walk_at "h",by omega,?_⟩
   show _=(zv (onP z) ts (i + 1)).map V.int
   rw [es]
  ·rename_i h1
   rw [if_neg (by unfold onP; rw [decide_eq_false h1]; simp),List.append_nil] at es
   refine ⟨⟨_,_,rfl⟩,by walk_at "h",_,by walk_at "h",by omega,?_⟩
   show _=(zv (onP z) ts (i + 1)).map V.int
   rw [es]
 rintro nu H1 vs fnu e1 hnu hvl rfl
 rw [hxl] at hnu
 exact k nu H1 fnu e1 hnu
theorem zbS (T:Txt K mg):FnOk P w K mg base (CXF P w) 2 T.d_Book_standing_deal.a T.d_Book_standing_deal.fd ["self", "number"] (zgX T.c_Book T.c_NoDeal T.c_Gone T.c_Settled):=by
 refine T.d_Book_standing_deal.F.okX sc_Book_standing_deal (fun vs H Q E h=>?_) (fun cdv A outer s H vs Q E hr h=>?_)
 ·obtain ⟨b,d,m,w,y,n,ts,rfl,_⟩:=h; rfl
 obtain ⟨b,d,m,w,y,n,ts,rfl,hB,h⟩:=h
 obtain ⟨⟨dx,hb⟩,xs,hd,hI⟩:=id hB
 have hxl:=hI.length
 refine ⟨_,(ze (zL (i:=2) sc_Book_standing_deal.nd rfl (Or.inl rfl) (zV (pv 0) T.cl_Book T.d_Book_deal.mt (zct T) (hr.mono (by decide)) T.d_Book_deal.b .nil zbj (za (pv 1) zc)))
 (ze (zq (zh (show OpR _ (compareOp .Eq) (zC K) from zp hr.units) (zg (show IxR _ (rIx K) from zd) (pv 2) (zr (v:=.int 7) rfl T.g_STATE ⟨_,rfl⟩) (fun _ _=>rfl)) zj (nomark _))
 (zf (zay rfl rfl T.m_Gone (errOk.own T.e_Gone) (za zj zc) zbi))
 zk)
 (ze (zq (zh (show OpR _ (compareOp .Eq) (zC K) from zp hr.units) (zg (show IxR _ (rIx K) from zd) (pv 2) (zr (v:=.int 7) rfl T.g_STATE ⟨_,rfl⟩) (fun _ _=>rfl)) zj (nomark _))
 (zf (zay rfl rfl T.m_Settled (errOk.own T.e_Settled) (za zj zc) zbi))
 zk)
 (zf (zn (pv 2)))))),?_⟩
 refine zI (σ0:=[some (.ref b),some (.int n),none]) rfl ?_
 walk_at "x"
 rcases h with ⟨t,n0,ht,h1,h2,k⟩ | ⟨hn,k⟩ | ⟨t,n0,ht,h1,k⟩ | ⟨t,n0,ht,h2,k⟩
 ·obtain ⟨x,hx1,hx2⟩:=hI.getI ht
  have hx3:H x=some (.tup [.int t.1.p,.int t.1.q,.int t.1.w,.int t.1.u,.int t.1.a,.int t.1.y,.int t.1.r,.str t.2]):=hx2
  refine ⟨b,dx,d,m,w,y,n,xs,rfl,hb,hd,.inl ⟨n0,.ref x,hx1,?_⟩⟩
  walk_at "x"
  all_goals first | exact k x hx2 | (exfalso; contradiction)
 ·exact ⟨b,dx,d,m,w,y,n,xs,rfl,hb,hd,.inr ⟨by omega,k⟩⟩
 ·obtain ⟨x,hx1,hx2⟩:=hI.getI ht
  have hx3:H x=some (.tup [.int t.1.p,.int t.1.q,.int t.1.w,.int t.1.u,.int t.1.a,.int t.1.y,.int t.1.r,.str t.2]):=hx2
  refine ⟨b,dx,d,m,w,y,n,xs,rfl,hb,hd,.inl ⟨n0,.ref x,hx1,?_⟩⟩
  walk_at "x"
  all_goals first | exact ⟨by decide,k⟩ | (exfalso; contradiction)
 ·have h1:¬ t.2=("broken" : Str):=by rw [h2]; decide +kernel
  obtain ⟨x,hx1,hx2⟩:=hI.getI ht
  have hx3:H x=some (.tup [.int t.1.p,.int t.1.q,.int t.1.w,.int t.1.u,.int t.1.a,.int t.1.y,.int t.1.r,.str t.2]):=hx2
  refine ⟨b,dx,d,m,w,y,n,xs,rfl,hb,hd,.inl ⟨n0,.ref x,hx1,?_⟩⟩
  walk_at "x"
  all_goals first | exact ⟨by decide,k⟩ | (exfalso; contradiction)
theorem zex (T:Txt K mg):FnOk P w K mg base (CXF P w) 3 T.d_Book_change.a T.d_Book_change.fd ["self", "number", "amount", "day"] (ziO T.c_Book T.c_NoDeal T.c_Gone T.c_Settled T.c_NoTerms T.c_Closed):=by
 refine T.d_Book_change.F.okX sc_Book_change (fun vs H Q E h=>?_) (fun cdv A outer s H vs Q E hr h=>?_)
 ·obtain ⟨b,d,m,w,y,n,a,z,ts,rfl,_⟩:=h; rfl
 obtain ⟨b,d,m,w,y,n,a,z,ts,rfl,hB,hG,h⟩:=h
 obtain ⟨⟨dx,hb⟩,xs,hd,hI⟩:=id hB
 have hxl:=hI.length
 have cl_Book:=T.cl_Book
 have na_Book_deals:=T.na_Book_deals
 refine ⟨_,(ze (zL (i:=4) sc_Book_change.nd rfl (Or.inl rfl) (zV (pv 0) T.cl_Book T.d_Book_standing_deal.mt (zbS T) (hr.mono (by decide)) T.d_Book_standing_deal.b .nil zbj (za (pv 1) zc)))
 (ze (zS (zV (pv 0) T.cl_Book T.d_Book_check_terms.mt (zb3 T) (hr.mono (by decide)) T.d_Book_check_terms.b .nil zbj (za (zg (show IxR _ (rIx K) from zd) (pv 4) (zr (v:=.int 2) rfl T.g_WARE ⟨_,rfl⟩) (fun _ _=>rfl)) (za (zg (show IxR _ (rIx K) from zd) (pv 4) (zr (v:=.int 3) rfl T.g_UNITS ⟨_,rfl⟩) (fun _ _=>rfl)) (za (pv 2) (za (pv 3) (za (zg (show IxR _ (rIx K) from zd) (pv 4) (zr (v:=.int 6) rfl T.g_RANK ⟨_,rfl⟩) (fun _ _=>rfl)) zc)))))))
 (zf (zcg (zm (show OpR _ (binaryOp .Add) (zE K) from zt) (zm (show OpR _ (binaryOp .Add) (zE K) from zt) (zbO (show SlR _ (zeE K) from zd6) (pv 4) zb5 (zca (zr (v:=.int 4) rfl T.g_AMOUNT ⟨_,rfl⟩))) (zQ (za (pv 2) (za (pv 3) zc)))) (zbO (show SlR _ (zeE K) from zd6) (pv 4) (zca (zr (v:=.int 6) rfl T.g_RANK ⟨_,rfl⟩)) zb5)) (zce (show PE _ _ (za3 K _ _) from zaj (pv 0) rfl) (pv 1) zbe))))),?_⟩
 refine zI (σ0:=[some (.ref b),some (.int n),some (.int a),some (.int z),none]) rfl ?_
 walk_at "x"
 by_cases hr':0<=n/\n < ts.length
 case neg=>
  have hk:chK y ts n a z=1:=by unfold chK; rw [if_pos hr']
  refine ⟨b,d,m,w,y,n,ts,rfl,hB,.inr (.inl ⟨hr',?_⟩)⟩
  rcases h with ⟨_,z0,_⟩ | ⟨_,k⟩ | ⟨z0,_⟩ | ⟨z0,_⟩ | ⟨z0,_⟩ | ⟨z0,_⟩
  all_goals first | exact k _ (Same.refl _) | (exfalso; omega)
 obtain ⟨t,ht⟩:=zu (show n.toNat < ts.length by omega)
 have hg:=zak ht
 obtain ⟨g1,g2,g3⟩:=hG t (List.mem_of_getElem? ht)
 have hnn:=Classical.not_not.mpr hr'
 by_cases hb1:t.2=("broken" : Str)
 ·have hk:chK y ts n a z=2:=by unfold chK; rw [if_neg hnn,hg,if_pos hb1]
  refine ⟨b,d,m,w,y,n,ts,rfl,hB,.inr (.inr (.inl ⟨t,hr'.1,ht,hb1,?_⟩))⟩
  rcases h with ⟨_,z0,_⟩ | ⟨z0,_⟩ | ⟨_,k⟩ | ⟨z0,_⟩ | ⟨z0,_⟩ | ⟨z0,_⟩
  all_goals first | exact k _ (Same.refl _) | (exfalso; omega)
 by_cases hs:t.2=("settled" : Str)
 ·have hk:chK y ts n a z=3:=by unfold chK; rw [if_neg hnn,hg,if_neg hb1,if_pos hs]
  refine ⟨b,d,m,w,y,n,ts,rfl,hB,.inr (.inr (.inr ⟨t,hr'.1,ht,hs,?_⟩))⟩
  rcases h with ⟨_,z0,_⟩ | ⟨z0,_⟩ | ⟨z0,_⟩ | ⟨_,k⟩ | ⟨z0,_⟩ | ⟨z0,_⟩
  all_goals first | exact k _ (Same.refl _) | (exfalso; omega)
 refine ⟨b,d,m,w,y,n,ts,rfl,hB,.inl ⟨t,hr'.1,ht,hb1,hs,fun x hx=>?_⟩⟩
 have hx3:H x=some (.tup [.int t.1.p,.int t.1.q,.int t.1.w,.int t.1.u,.int t.1.a,.int t.1.y,.int t.1.r,.str t.2]):=hx
 walk_at "x"
 refine ⟨b,dx,d,m,w,y,(chg t a z).1,rfl,hb,?_⟩
 by_cases hT:zbV w (chg t a z).1
 ·have hT':=id hT
  obtain ⟨_,_,q3,q4,_⟩:=hT'
  by_cases hy:z < y
  ·have hk:chK y ts n a z=5:=by unfold chK; rw [if_neg hnn,hg,if_neg hb1,if_neg hs,if_neg (Classical.not_not.mpr ⟨q3,q4⟩),if_pos hy]
   refine .inr (.inr ⟨hT,hy,?_⟩)
   rcases h with ⟨_,z0,_⟩ | ⟨z0,_⟩ | ⟨z0,_⟩ | ⟨z0,_⟩ | ⟨z0,_⟩ | ⟨_,k⟩
   all_goals first | exact k _ (Same.refl _) | (exfalso; omega)
  ·have hk:chK y ts n a z=0:=by unfold chK; rw [if_neg hnn,hg,if_neg hb1,if_neg hs,if_neg (Classical.not_not.mpr ⟨q3,q4⟩),if_neg hy]
   refine .inl ⟨hT,Int.not_lt.mp hy,?_⟩
   rcases h with ⟨t',_,ht',_,k⟩ | ⟨z0,_⟩ | ⟨z0,_⟩ | ⟨z0,_⟩ | ⟨z0,_⟩ | ⟨z0,_⟩
   case inr.inl=>exfalso; omega
   case inr.inr.inl=>exfalso; omega
   case inr.inr.inr.inl=>exfalso; omega
   case inr.inr.inr.inr.inl=>exfalso; omega
   case inr.inr.inr.inr.inr=>exfalso; omega
   rw [ht] at ht'; cases ht'
   walk_at "x"
   refine zes hx3 (by show ¬ (HT.sIx 8 0 none=0/\HT.sIx 8 8 (some 4)=8); decide) fun p1 H1 fp1 e1 hp1=>?_
   have hp1':H1 p1=some (.tup [.int t.1.p,.int t.1.q,.int t.1.w,.int t.1.u]):=hp1
   walk_at "x"
   refine zW (by first | decide | simp) fun p2 H2 fp2 e2 hp2=>?_
   refine zev (e2.at hp1') hp2 (by simp) (by simp) (by show 4 + 2<=100000; decide) fun p3 H3 fp3 e3 hp3=>?_
   have hx33:=e3.at (e2.at (e1.at hx3))
   walk_at "x"
   refine zes hx33 (by show ¬ (HT.sIx 8 0 (some 6)=0/\HT.sIx 8 8 none=8); decide) fun p4 H4 fp4 e4 hp4=>?_
   have hp4':H4 p4=some (.tup [.int t.1.r,.str t.2]):=hp4
   refine zev (e4.at hp3) hp4' (by simp) (by simp) (by show 6 + 2<=100000; decide) fun p5 H5 fp5 e5 hp5=>?_
   have hp5':H5 p5=some (.tup (zad (chg t a z))):=hp5
   have e05:Same H H5:=e1.trans (e2.trans (e3.trans (e4.trans e5)))
   have hd5:=e05.at hd
   have hb5:=e05.at hb
   walk_at "x"
   refine zcw hd5 (zfF hr'.1 (by omega)) fun H6 b6 h6=>?_
   walk_at "x"
   refine k H6 ⟨⟨dx,b6.ins hb5⟩,_,h6,?_⟩ (ButL.of hd e05 b6)
   exact IsTs.set (f:=zad) (b6.tup hp5') _ (LBut.isTs b6 (hI.same e05))
 ·have hk:chK y ts n a z=4:=by unfold chK; rw [if_neg hnn,hg,if_neg hb1,if_neg hs,if_pos fun q=>hT ⟨g1,g2,q.1,q.2,g3⟩]
  refine .inr (.inl ⟨hT,?_⟩)
  rcases h with ⟨_,z0,_⟩ | ⟨z0,_⟩ | ⟨z0,_⟩ | ⟨z0,_⟩ | ⟨_,k⟩ | ⟨z0,_⟩
  all_goals first | exact k _ (Same.refl _) | (exfalso; omega)
theorem zdI (T:Txt K mg):FnOk P w K mg base (CXF P w) 3 T.d_Book_break_off.a T.d_Book_break_off.fd ["self", "number"] (zf9 T.c_Book T.c_NoDeal T.c_Gone T.c_Settled):=by
 refine T.d_Book_break_off.F.okX zdG (fun vs H Q E h=>?_) (fun cdv A outer s H vs Q E hr h=>?_)
 ·obtain ⟨b,d,m,w,y,n,ts,rfl,_⟩:=h; rfl
 obtain ⟨b,d,m,w,y,n,ts,rfl,hB,h⟩:=h
 obtain ⟨⟨dx,hb⟩,xs,hd,hI⟩:=id hB
 refine ⟨_,(ze (zS (zV (pv 0) T.cl_Book T.d_Book_standing_deal.mt (zbS T) (hr.mono (by decide)) T.d_Book_standing_deal.b .nil zbj (za (pv 1) zc)))
 (zf (zS (zV (pv 0) T.cl_Book T.d_Book_put_state.mt (zbC T) (hr.mono (by decide)) T.d_Book_put_state.b .nil (zy zx) (za (pv 1) (za zj zc)))))),?_⟩
 refine zI (σ0:=[some (.ref b),some (.int n)]) rfl ?_
 walk_at "x"
 rcases h with ⟨t,n0,ht,h1,h2,k⟩ | ⟨hn,k⟩ | ⟨t,n0,ht,h1,k⟩ | ⟨t,n0,ht,h2,k⟩
 ·refine ⟨b,d,m,w,y,n,ts,rfl,hB,.inl ⟨t,n0,ht,h1,h2,fun x hx=>?_⟩⟩
  walk_at "x"
  refine ⟨b,d,m,w,y,n, "broken",ts,t,rfl,hB,n0,ht,fun H1 hB1 g1=>?_⟩
  walk_at "x"
  exact k H1 hB1 g1
 ·exact ⟨b,d,m,w,y,n,ts,rfl,hB,.inr (.inl ⟨hn,k⟩)⟩
 ·exact ⟨b,d,m,w,y,n,ts,rfl,hB,.inr (.inr (.inl ⟨t,n0,ht,h1,k⟩))⟩
 ·exact ⟨b,d,m,w,y,n,ts,rfl,hB,.inr (.inr (.inr ⟨t,n0,ht,h2,k⟩))⟩
theorem zdF (T:Txt K mg):FnOk P w K mg base (CXF P w) 2 T.d_Book_break_all.a T.d_Book_break_all.fd ["self", "member"] (zgG T.c_Book):=by
 refine T.d_Book_break_all.F.okN sc_Book_break_all (fun vs H Q E h=>?_) (fun cdv A outer s H vs Q E hr h=>?_)
 ·obtain ⟨b,d,m,w,y,i,ts,rfl,_⟩:=h; rfl
 obtain ⟨b,d,m,w,y,mb,ts,rfl,hB,hl,k⟩:=h
 obtain ⟨⟨dx,hb⟩,xs,hd,hI⟩:=id hB
 have hxl:=hI.length
 have cl_Book:=T.cl_Book
 have na_Book_deals:=T.na_Book_deals
 refine ⟨_,(ze (zco (i:=2) sc_Book_break_all.nd rfl rfl rfl (show PI _ _ _ (zea K _) from zdD rfl T.z_enumerate (za (show PE _ _ (za3 K _ _) from zaj (pv 0) rfl) zc)) (zae (Ni:=["number", "one", "member"]) (caps:=[none,none,some 1]) (by rfl)) (fun S _ _ _ _ _=>(show PG _ _ (zd2 K 2 _) from zee (n:=2) rfl (zbz (zaz (gi:=0) S (Or.inl rfl) rfl) (zbz (zaz (gi:=1) S (Or.inl rfl) rfl) zdu)))) (fun _ _ _ _ _=>(zcv (PW.pt (zbk (zh (show OpR _ (compareOp .Eq) (zC K) from zp hr.units) (zg (show IxR _ (rIx K) from zd) (pv 1) (zr (v:=.int 7) rfl T.g_STATE ⟨_,rfl⟩) (fun _ _=>rfl)) zj (nomark _)) (zaR (zh (show OpR _ (compareOp .In) (rIn K false) from ze9) (pv 2) (zQ (za (zg (show IxR _ (rIx K) from zd) (pv 1) (zr (v:=.int 0) rfl T.g_PAYER ⟨_,rfl⟩) (fun _ _=>rfl)) (za (zg (show IxR _ (rIx K) from zd) (pv 1) (zr (v:=.int 1) rfl T.g_PAYEE ⟨_,rfl⟩) (fun _ _=>rfl)) zc))) (by with_unfolding_all rfl))))))) (fun _ _ _ _ _=>(pv 0)))
 (ze (zax PassesOwn.never rfl (show PI _ _ _ (zbh K _) from zaE (pv 2)) (z4 (i:=3) sc_Book_break_all.nd rfl (Or.inl rfl))
 (zf (zS (zV (pv 0) T.cl_Book T.d_Book_put_state.mt (zbC T) (hr.mono (by decide)) T.d_Book_put_state.b .nil (zy zx) (za (pv 3) (za zj zc))))))
 (zf (zn (pv 2))))),?_⟩
 refine zI (σ0:=[some (.ref b),some (.int mb),none,none]) rfl ?_
 walk_at "x"
 refine zdW (zcY (K:=K) (a:=d) (xs:=xs)) (fun H' e=>SqL.of (e.at hd)) rfl (fun i vs _=>vs=(zv (zap mb) ts i).map V.int) (fun H' _=>rfl) ?_ ?_
 ·rintro i x D vs o o' H2 H3 hi hD e2 hv hvl rfl e3 ⟨t,v,rfl,hx,htt⟩
  obtain ⟨a,u,rfl,hu,ha⟩:=(hI.same (e2.trans e3)).get hx
  have ht':H3 t=some (.tup [.int (i:Int),.ref a]):=htt
  have ha3:H3 a=some (.tup [.int u.1.p,.int u.1.q,.int u.1.w,.int u.1.u,.int u.1.a,.int u.1.y,.int u.1.r,.str u.2]):=ha
  have hb3:H3 b=some (.ins T.c_Book dx (bfl m w y d)):=e3.at (e2.at hb)
  have es:=zbn (P:=zap mb) hu
  walk_at "x"
  ·rename_i h1
   refine zW (by first | decide | simp) fun tp H4 ftp e4 htp=>?_
   refine zlR htp ?_
   by_cases hm:mb ∈ [u.1.p,u.1.q]
   ·rw [decide_eq_true hm]
    have hpq:u.1.p=mb\/u.1.q=mb:=by
     rcases List.mem_cons.mp hm with z | z
     ·exact .inl z.symm
     ·exact .inr (List.mem_singleton.mp z).symm
    have hP:zap mb u=true:=by
     unfold zap
     rw [Bool.and_eq_true,Bool.or_eq_true,decide_eq_true_iff,decide_eq_true_iff,decide_eq_true_iff]
     exact ⟨h1,hpq⟩
    rw [if_pos hP] at es
    walk_at "x"
    rename_i H5 b5 h5
    refine ⟨⟨_,_,rfl⟩,by walk_at "h",_,h5,by rw [List.length_append]; exact Nat.succ_le_succ hvl,?_⟩
    show _=(zv (zap mb) ts (i + 1)).map V.int
    rw [es,List.map_append]; rfl
   ·rw [decide_eq_false hm]
    have hP:¬ zap mb u=true:=fun z=>by
     unfold zap at z
     rw [Bool.and_eq_true,Bool.or_eq_true,decide_eq_true_iff,decide_eq_true_iff,decide_eq_true_iff] at z
     refine hm ?_
     rcases z.2 with q | q <;> simp [q]
    rw [if_neg hP,List.append_nil] at es
    walk_at "x"
    refine ⟨⟨_,_,rfl⟩,by walk_at "h",_,by walk_at "h",by omega,?_⟩
    show _=(zv (zap mb) ts (i + 1)).map V.int
    rw [es]
  ·rename_i h1
   rw [if_neg (by unfold zap; rw [decide_eq_false h1]; simp),List.append_nil] at es
   refine ⟨⟨_,_,rfl⟩,by walk_at "h",_,by walk_at "h",by omega,?_⟩
   show _=(zv (zap mb) ts (i + 1)).map V.int
   rw [es]
 rintro nu H1 vs fnu e1 hnu hvl rfl
 rw [hxl] at hnu
 have hnl:=zcc (P:=zap mb) (ts:=ts) ts.length
 walk_at "x"
 have ndn:nu ≠ d:=zaS fnu hd
 refine zbF (xs:=(zv (zap mb) ts ts.length).map V.int) (fun i σ' H'=>∃ f2:Option V,σ'=[some (.ref b),some (.int mb),some (.ref nu),f2]/\Bk T.c_Book H' b d m w y (zby "broken" ts ((zv (zap mb) ts ts.length).take i))/\H' nu=some (.lst ((zv (zap mb) ts ts.length).map V.int))/\∀ c o,c ≠ d->H1 c=some o->H' c=some o) ⟨_,rfl,by rw [List.take_zero,zdf]; exact hB.same e1,hnu,fun c o _ h=>h⟩ ?_ ?_ ?_
 ·rintro i σ' H' _ ⟨_,_,_,h,_⟩; exact SqL.of h
 ·rintro i x σ' H' hx ⟨f2,rfl,hB',hnu',hK'⟩
  obtain ⟨n,hn,ex⟩:∃ n,(zv (zap mb) ts ts.length)[i]?=some n/\x=.int n:=by
   rw [List.getElem?_map] at hx
   cases h:(zv (zap mb) ts ts.length)[i]? with
   | none=>rw [h] at hx; cases hx
   | some n=>rw [h] at hx; exact ⟨n,rfl,(Option.some.inj hx).symm⟩
  subst ex
  obtain ⟨j,t,hj,rfl,htj,hP⟩:=(zbg (Nat.le_refl _)).mp (List.mem_of_getElem? hn)
  obtain ⟨⟨dx',hb'⟩,_⟩:=id hB'
  walk_at "x"
  have hmj:=zbo (s := "broken") (S:=(zv (zap mb) ts ts.length).take i) htj
  refine ⟨b,d,m,w,y,_, "broken",_,_,rfl,hB',by omega,by rw [Int.toNat_natCast]; exact hmj,fun H2 hB2 g2=>?_⟩
  rw [Int.toNat_natCast] at hB2
  have e1st:(if (j:Int) ∈ (zv (zap mb) ts ts.length).take i then (t.1,("broken" : Str)) else t).1=t.1:=by split <;> rfl
  rw [e1st,zdj htj,<- zaw hn] at hB2
  walk_at "x"
  exact ⟨_,rfl,hB2,g2.at hnu' ndn,fun c o n h=>g2.at (hK' c o n h) n⟩
 ·rintro σ' H' ⟨f2,rfl,hB',hnu',hK'⟩
  rw [List.length_map,List.take_length,zfP] at hB'
  obtain ⟨⟨dx',hb'⟩,xs',hd',hI'⟩:=id hB'
  walk_at "x"
  exact k nu H' fnu hB' (fun c o n h=>hK' c o n (e1 c o h)) hnu'
theorem zcG (T:Txt K mg):FnOk P w K mg base (CXF P w) 2 T.d_Book_contrary_terms.a T.d_Book_contrary_terms.fd ["self", "number"] (zhj T.c_Book T.c_NoDeal T.c_Gone T.c_Standing):=by
 refine T.d_Book_contrary_terms.F.okX sc_Book_contrary_terms (fun vs H Q E h=>?_) (fun cdv A outer s H vs Q E hr h=>?_)
 ·obtain ⟨b,d,m,w,y,n,ts,rfl,_⟩:=h; rfl
 obtain ⟨b,d,m,w,y,n,ts,rfl,hB,h⟩:=h
 obtain ⟨⟨dx,hb⟩,xs,hd,hI⟩:=id hB
 have hxl:=hI.length
 refine ⟨_,(ze (zL (i:=2) sc_Book_contrary_terms.nd rfl (Or.inl rfl) (zV (pv 0) T.cl_Book T.d_Book_deal.mt (zct T) (hr.mono (by decide)) T.d_Book_deal.b .nil zbj (za (pv 1) zc)))
 (ze (zq (zh (show OpR _ (compareOp .Eq) (zC K) from zp hr.units) (zg (show IxR _ (rIx K) from zd) (pv 2) (zr (v:=.int 7) rfl T.g_STATE ⟨_,rfl⟩) (fun _ _=>rfl)) zj (nomark _))
 (zf (zay rfl rfl T.m_Gone (errOk.own T.e_Gone) (za zj zc) zbi))
 zk)
 (ze (zq (zh (show OpR _ (compareOp .Eq) (zC K) from zp hr.units) (zg (show IxR _ (rIx K) from zd) (pv 2) (zr (v:=.int 7) rfl T.g_STATE ⟨_,rfl⟩) (fun _ _=>rfl)) zj (nomark _))
 (zf (zay rfl rfl T.m_Standing (errOk.own T.e_Standing) (za zj zc) zbi))
 zk)
 (zf (zn (zm (show OpR _ (binaryOp .Add) (zE K) from zt) (zQ (za (zg (show IxR _ (rIx K) from zd) (pv 2) (zr (v:=.int 1) rfl T.g_PAYEE ⟨_,rfl⟩) (fun _ _=>rfl)) (za (zg (show IxR _ (rIx K) from zd) (pv 2) (zr (v:=.int 0) rfl T.g_PAYER ⟨_,rfl⟩) (fun _ _=>rfl)) zc))) (zbO (show SlR _ (zeE K) from zd6) (pv 2) (zca (zr (v:=.int 2) rfl T.g_WARE ⟨_,rfl⟩)) zb5))))))),?_⟩
 refine zI (σ0:=[some (.ref b),some (.int n),none]) rfl ?_
 walk_at "x"
 rcases h with ⟨t,n0,ht,h1,h2,k⟩ | ⟨hn,k⟩ | ⟨t,n0,ht,h1,k⟩ | ⟨t,n0,ht,h2,k⟩
 ·obtain ⟨x,hx1,hx2⟩:=hI.getI ht
  have hx3:H x=some (.tup [.int t.1.p,.int t.1.q,.int t.1.w,.int t.1.u,.int t.1.a,.int t.1.y,.int t.1.r,.str t.2]):=hx2
  refine ⟨b,dx,d,m,w,y,n,xs,rfl,hb,hd,.inl ⟨n0,.ref x,hx1,?_⟩⟩
  walk_at "x"
  refine zW (by first | decide | simp) fun p1 H1 fp1 e1 hp1=>?_
  have hx31:=e1.at hx3
  walk_at "x"
  refine zes hx31 (by show ¬ (HT.sIx 8 0 (some 2)=0/\HT.sIx 8 8 none=8); decide) fun p2 H2 fp2 e2 hp2=>?_
  have hp2':H2 p2=some (.tup [.int t.1.w,.int t.1.u,.int t.1.a,.int t.1.y,.int t.1.r,.str t.2]):=hp2
  refine zev (e2.at hp1) hp2' (by simp) (by simp) (by show 2 + 6<=100000; decide) fun p3 H3 fp3 e3 hp3=>?_
  exact k p3 H3 (e1.trans (e2.trans e3)) hp3
 ·exact ⟨b,dx,d,m,w,y,n,xs,rfl,hb,hd,.inr ⟨by omega,k⟩⟩
 ·obtain ⟨x,hx1,hx2⟩:=hI.getI ht
  have hx3:H x=some (.tup [.int t.1.p,.int t.1.q,.int t.1.w,.int t.1.u,.int t.1.a,.int t.1.y,.int t.1.r,.str t.2]):=hx2
  refine ⟨b,dx,d,m,w,y,n,xs,rfl,hb,hd,.inl ⟨n0,.ref x,hx1,?_⟩⟩
  walk_at "x"
  all_goals first | exact ⟨by decide,k⟩ | (exfalso; contradiction)
 ·have h1:¬ t.2=("broken" : Str):=by rw [h2]; decide +kernel
  obtain ⟨x,hx1,hx2⟩:=hI.getI ht
  have hx3:H x=some (.tup [.int t.1.p,.int t.1.q,.int t.1.w,.int t.1.u,.int t.1.a,.int t.1.y,.int t.1.r,.str t.2]):=hx2
  refine ⟨b,dx,d,m,w,y,n,xs,rfl,hb,hd,.inl ⟨n0,.ref x,hx1,?_⟩⟩
  walk_at "x"
  all_goals first | exact ⟨by decide,k⟩ | (exfalso; contradiction)
theorem zdR (T:Txt K mg):FnOk P w K mg base (CXF P w) 3 T.d_Book_contrary.a T.d_Book_contrary.fd ["self", "number", "day"] (zgO T.c_Book T.c_NoDeal T.c_Gone T.c_Standing T.c_NoTerms T.c_Closed):=by
 refine T.d_Book_contrary.F.okX sc_Book_contrary (fun vs H Q E h=>?_) (fun cdv A outer s H vs Q E hr h=>?_)
 ·obtain ⟨b,d,m,w,y,n,z,ts,rfl,_⟩:=h; rfl
 obtain ⟨b,d,m,w,y,n,z,ts,rfl,hB,hG,hL,h⟩:=h
 obtain ⟨⟨dx,hb⟩,xs,hd,hI⟩:=id hB
 have hxl:=hI.length
 refine ⟨_,(ze (zL (i:=3) sc_Book_contrary.nd rfl (Or.inl rfl) (zV (pv 0) T.cl_Book T.d_Book_contrary_terms.mt (zcG T) (hr.mono (by decide)) T.d_Book_contrary_terms.b .nil zbj (za (pv 1) zc)))
 (zf (zn (zV (pv 0) T.cl_Book T.d_Book_strike.mt (zcK T) (hr.mono (by decide)) T.d_Book_strike.b .nil zbj (za (zg (show IxR _ (rIx K) from zd) (pv 3) (zr (v:=.int 0) rfl T.g_PAYER ⟨_,rfl⟩) (fun _ _=>rfl)) (za (zg (show IxR _ (rIx K) from zd) (pv 3) (zr (v:=.int 1) rfl T.g_PAYEE ⟨_,rfl⟩) (fun _ _=>rfl)) (za (zg (show IxR _ (rIx K) from zd) (pv 3) (zr (v:=.int 2) rfl T.g_WARE ⟨_,rfl⟩) (fun _ _=>rfl)) (za (zg (show IxR _ (rIx K) from zd) (pv 3) (zr (v:=.int 3) rfl T.g_UNITS ⟨_,rfl⟩) (fun _ _=>rfl)) (za (zg (show IxR _ (rIx K) from zd) (pv 3) (zr (v:=.int 4) rfl T.g_AMOUNT ⟨_,rfl⟩) (fun _ _=>rfl)) (za (pv 2) (za (zg (show IxR _ (rIx K) from zd) (pv 3) (zr (v:=.int 6) rfl T.g_RANK ⟨_,rfl⟩) (fun _ _=>rfl)) zc))))))))))),?_⟩
 refine zI (σ0:=[some (.ref b),some (.int n),some (.int z),none]) rfl ?_
 walk_at "x"
 by_cases hr':0<=n/\n < ts.length
 case neg=>
  have hk:ctK y ts n z=1:=by unfold ctK; rw [if_pos hr']
  refine ⟨b,d,m,w,y,n,ts,rfl,hB,.inr (.inl ⟨hr',?_⟩)⟩
  rcases h with ⟨_,z0,_⟩ | ⟨_,k⟩ | ⟨z0,_⟩ | ⟨z0,_⟩ | ⟨z0,_⟩ | ⟨z0,_⟩
  all_goals first | exact k _ (Same.refl _) | (exfalso; omega)
 obtain ⟨t,ht⟩:=zu (show n.toNat < ts.length by omega)
 have hg:=zak ht
 have hG7:=hG t (List.mem_of_getElem? ht)
 have hnn:=Classical.not_not.mpr hr'
 by_cases hb1:t.2=("broken" : Str)
 ·have hk:ctK y ts n z=2:=by unfold ctK; rw [if_neg hnn,hg,if_pos hb1]
  refine ⟨b,d,m,w,y,n,ts,rfl,hB,.inr (.inr (.inl ⟨t,hr'.1,ht,hb1,?_⟩))⟩
  rcases h with ⟨_,z0,_⟩ | ⟨z0,_⟩ | ⟨_,k⟩ | ⟨z0,_⟩ | ⟨z0,_⟩ | ⟨z0,_⟩
  all_goals first | exact k _ (Same.refl _) | (exfalso; omega)
 by_cases hs:t.2=("standing" : Str)
 ·have hk:ctK y ts n z=3:=by unfold ctK; rw [if_neg hnn,hg,if_neg hb1,if_pos hs]
  refine ⟨b,d,m,w,y,n,ts,rfl,hB,.inr (.inr (.inr ⟨t,hr'.1,ht,hs,?_⟩))⟩
  rcases h with ⟨_,z0,_⟩ | ⟨z0,_⟩ | ⟨z0,_⟩ | ⟨_,k⟩ | ⟨z0,_⟩ | ⟨z0,_⟩
  all_goals first | exact k _ (Same.refl _) | (exfalso; omega)
 refine ⟨b,d,m,w,y,n,ts,rfl,hB,.inl ⟨t,hr'.1,ht,hb1,hs,fun x H1 e1 hx=>?_⟩⟩
 have hb1':=e1.at hb
 walk_at "x"
 refine ⟨b,dx,d,m,w,y,swp t z,xs,rfl,e1.at hb,e1.at hd,by omega,?_⟩
 have hM:=zgj (z:=z) hG7
 by_cases hz:0<=z/\z<=1000000
 ·have hT:=zgq hG7 hz
  by_cases hy:z < y
  ·have hk:ctK y ts n z=5:=by unfold ctK; rw [if_neg hnn,hg,if_neg hb1,if_neg hs,if_neg (Classical.not_not.mpr hz),if_pos hy]
   have hd3:zR m w y (swp t z)=3:=by unfold zR; rw [if_neg (Classical.not_not.mpr hM),if_neg (Classical.not_not.mpr hT),if_pos (show (swp t z).y < y from hy)]
   refine .inr (.inr (.inr ⟨hd3,fun H2 e2=>?_⟩))
   rcases h with ⟨_,z0,_⟩ | ⟨z0,_⟩ | ⟨z0,_⟩ | ⟨z0,_⟩ | ⟨z0,_⟩ | ⟨_,k⟩
   all_goals first | exact k _ (e1.trans e2) | (exfalso; omega)
  ·have hk:ctK y ts n z=0:=by unfold ctK; rw [if_neg hnn,hg,if_neg hb1,if_neg hs,if_neg (Classical.not_not.mpr hz),if_neg hy]
   refine .inl ⟨zjK (zhD hG7 hz.1 hz.2 (Int.not_lt.mp hy)),fun a H2 H3 e2 ha g3 h3=>?_⟩
   rcases h with ⟨t',_,ht',_,k⟩ | ⟨z0,_⟩ | ⟨z0,_⟩ | ⟨z0,_⟩ | ⟨z0,_⟩ | ⟨z0,_⟩
   case inr.inl=>exfalso; omega
   case inr.inr.inl=>exfalso; omega
   case inr.inr.inr.inl=>exfalso; omega
   case inr.inr.inr.inr.inl=>exfalso; omega
   case inr.inr.inr.inr.inr=>exfalso; omega
   rw [ht] at ht'; cases ht'
   rw [hxl]
   exact k H3 ((hB.same e1).app (e1.at hd) e2 ha g3 h3) (ButL.of hd (e1.trans e2) g3)
 ·have hk:ctK y ts n z=4:=by unfold ctK; rw [if_neg hnn,hg,if_neg hb1,if_neg hs,if_pos hz]
  have hd2:zR m w y (swp t z)=2:=by unfold zR; rw [if_neg (Classical.not_not.mpr hM),if_pos fun q=>hz q.2.2.2.1]
  refine .inr (.inr (.inl ⟨hd2,fun H2 e2=>?_⟩))
  rcases h with ⟨_,z0,_⟩ | ⟨z0,_⟩ | ⟨z0,_⟩ | ⟨z0,_⟩ | ⟨_,k⟩ | ⟨z0,_⟩
  all_goals first | exact k _ (e1.trans e2) | (exfalso; omega)
theorem zdT (T:Txt K mg):FnOk P w K mg base (CXF P w) 2 T.d_Book_sheet_on.a T.d_Book_sheet_on.fd ["self", "day"] (zhG T.c_Book):=by
 refine T.d_Book_sheet_on.F.okN sc_Book_sheet_on (fun vs H Q E h=>?_) (fun cdv A outer s H vs Q E hr h=>?_)
 ·obtain ⟨b,d,m,w,y,z,ts,rfl,_⟩:=h; rfl
 obtain ⟨b,d,m,w,y,z,ts,rfl,hB,hn,k⟩:=h
 obtain ⟨⟨dx,hb⟩,xs,hd,hI⟩:=id hB
 have hxl:=hI.length
 have cl_Book:=T.cl_Book
 have na_Book_deals:=T.na_Book_deals
 refine ⟨_,(ze (zco (i:=2) sc_Book_sheet_on.nd rfl rfl rfl (show PI _ _ _ (zbh K _) from zaE (zV (pv 0) T.cl_Book T.d_Book_numbers_on.mt (zci T) (hr.mono (by decide)) T.d_Book_numbers_on.b .nil (zy zx) (za (pv 1) zc))) (zae (Ni:=["number", "self"]) (caps:=[none,some 0]) (by rfl)) (fun S _ _ _ _ _=>(zaz (gi:=0) S (Or.inl rfl) rfl)) (fun _ _ _ _ _=>zfK) (fun _ _ _ _ _=>(zg (show IxR _ (rIx K) from zd) (show PE _ _ (za3 K _ _) from zaj (pv 1) rfl) (pv 0) (fun _ _=>rfl))))
 (zf (zn (zdC rfl (show PI _ _ _ (zbh K _) from zaE (pv 2)) (zae (Ni:=["one"]) (caps:=[none]) (by rfl)) (fun S _ _ _ _ _=>(zaz (gi:=0) S (Or.inl rfl) rfl)) (fun _ _ _ _ _=>zfK) (fun _ _ _ _ _=>(zQ (za (zg (show IxR _ (rIx K) from zd) (pv 0) (zr (v:=.int 0) rfl T.g_PAYER ⟨_,rfl⟩) (fun _ _=>rfl)) (za (zg (show IxR _ (rIx K) from zd) (pv 0) (zr (v:=.int 1) rfl T.g_PAYEE ⟨_,rfl⟩) (fun _ _=>rfl)) (za (zg (show IxR _ (rIx K) from zd) (pv 0) (zr (v:=.int 6) rfl T.g_RANK ⟨_,rfl⟩) (fun _ _=>rfl)) (za (zg (show IxR _ (rIx K) from zd) (pv 0) (zr (v:=.int 4) rfl T.g_AMOUNT ⟨_,rfl⟩) (fun _ _=>rfl)) zc)))))))))),?_⟩
 refine zI (σ0:=[some (.ref b),some (.int z),none]) rfl ?_
 walk_at "x"
 refine ⟨b,d,m,w,y,z,ts,rfl,hB,hn,fun p H1 fp e1 hp=>?_⟩
 have hnl:=zcc (P:=onP z) (ts:=ts) ts.length
 have hm:=fun x=>zbg (P:=onP z) (ts:=ts) (x:=x) (Nat.le_refl ts.length)
 generalize hnu:zv (onP z) ts ts.length=nu at *
 walk_at "x"
 refine zbR (zc4 (K:=K) (a:=p) (xs:=nu.map V.int)) (fun H' e=>SqL.of (e.at hp)) rfl (fun i vs H'=>IsTs zad H' vs (zbr ts (nu.take i))) (fun H' _=>trivial) ?_ ?_
 ·rintro i x D vs o H2 H3 hi hD e2 hv hvl hts e3 hx
  obtain ⟨j,hj,ex⟩:∃ n,nu[i]?=some n/\x=.int n:=by
   rw [List.getElem?_map] at hx
   cases h:nu[i]? with
   | none=>rw [h] at hx; cases hx
   | some n=>rw [h] at hx; exact ⟨n,rfl,(Option.some.inj hx).symm⟩
  subst ex
  have hi':i < nu.length:=by simpa using hi
  obtain ⟨jj,t,hjl,rfl,htj,_⟩:=(hm j).mp (List.mem_of_getElem? hj)
  obtain ⟨c,hc1,hc2⟩:=hI.getI htj
  have hat:atI xs (jj:Int)=some (.ref c):=zbA hc1
  have e13:Same H H3:=e1.trans (e2.trans e3)
  have hb3:=e13.at hb
  have hd3:=e13.at hd
  have hc3:H3 c=some (.tup (zad t)):=e13.at hc2
  have hts3:=hts.same e3
  clear e13
  walk_at "x"
  rename_i H4 b4 h4
  refine ⟨⟨_,rfl⟩,by walk_at "h",_,h4,by rw [List.length_append]; exact Nat.succ_le_succ hvl,?_⟩
  have ep:zbr ts (nu.take (i + 1))=zbr ts (nu.take i) ++ [t]:=by
   rw [zaw hj]; unfold zbr; rw [List.map_append,List.map_singleton,Int.toNat_natCast,zak htj]
  show IsTs zad H4 _ (zbr ts (nu.take (i + 1)))
  rw [ep]
  exact IsTs.app (f:=zad) (b4.tup hc3) (LBut.isTs b4 hts3)
 rintro so H2 vs fso e2 hso hvl hts
 rw [List.length_map,List.take_length] at hts
 have hvs:=hts.length
 have hpl:(zbr ts nu).length=nu.length:=by unfold zbr; rw [List.length_map]
 walk_at "x"
 refine zbR (zc4 (K:=K) (a:=so) (xs:=vs)) (fun H' e=>SqL.of (e.at hso)) rfl (fun i ws H'=>IsTs zcC H' ws ((zbr ts nu).take i |>.map zdx)) (fun H' _=>trivial) ?_ ?_
 ·rintro i x D ws o H3 H4 hi hD e3 hv hwl hws e4 hx
  obtain ⟨c,t,rfl,ht,hc⟩:=(hts.same (e3.trans e4)).get hx
  have hc':H4 c=some (.tup [.int t.1.p,.int t.1.q,.int t.1.w,.int t.1.u,.int t.1.a,.int t.1.y,.int t.1.r,.str t.2]):=hc
  have hws4:=hws.same e4
  walk_at "x"
  rename_i q H5 fq e5 hq H6 b6 h6
  have hq':H5 q=some (.tup (zcC (zdx t))):=hq
  refine ⟨⟨_,rfl⟩,by walk_at "h",_,h6,by rw [List.length_append]; exact Nat.succ_le_succ hwl,?_⟩
  show IsTs zcC H6 _ (((zbr ts nu).take (i + 1)).map zdx)
  rw [zaw ht,List.map_append]
  exact IsTs.app (f:=zcC) (b6.tup hq') (LBut.isTs b6 (hws4.same e5))
 ·rintro sh H3 ws fsh e3 hsh hwl hws
  rw [hvs,List.take_length] at hws
  refine k sh H3 ws (Same.none fsh (e1.trans e2)) (e1.trans (e2.trans e3)) hsh ?_
  unfold zia
  rw [hnu]
  exact hws
theorem zfq (T:Txt K mg):FnOk P w K mg base (CXF P w) 1 T.d_Book_today.a T.d_Book_today.fd ["self"] (zgn T.c_Book):=by
 refine T.d_Book_today.F.okN zfm (fun vs H Q E h=>?_) (fun cdv A outer s H vs Q E hr h=>?_)
 ·obtain ⟨b,dx,d,m,w,y,rfl,_⟩:=h; rfl
 obtain ⟨b,dx,d,m,w,y,rfl,hb,k⟩:=h
 have cl_Book:=T.cl_Book
 have na_Book_day:=T.na_Book_day
 refine ⟨_,(zf (zn (show PE _ _ (za3 K _ _) from zaj (pv 0) rfl))),?_⟩
 refine zI (σ0:=[some (.ref b)]) rfl ?_
 walk_at "x"
 exact k
theorem zeU (T:Txt K mg):FnOk P w K mg base (CXF P w) 1 T.d_Book_struck.a T.d_Book_struck.fd ["self"] (zfW T.c_Book):=by
 refine T.d_Book_struck.F.okN zeM (fun vs H Q E h=>?_) (fun cdv A outer s H vs Q E hr h=>?_)
 ·obtain ⟨b,dx,d,m,w,y,xs,rfl,_⟩:=h; rfl
 obtain ⟨b,dx,d,m,w,y,xs,rfl,hb,hd,k⟩:=h
 have cl_Book:=T.cl_Book
 have na_Book_deals:=T.na_Book_deals
 refine ⟨_,(zf (zn (zF (show CallR _ _ (za4 K) from zU) rfl T.z_len BT.len (za (show PE _ _ (za3 K _ _) from zaj (pv 0) rfl) zc)))),?_⟩
 refine zI (σ0:=[some (.ref b)]) rfl ?_
 walk_at "x"
 exact k
theorem zcB (T:Txt K mg):FnOk P w K mg base (CXF P w) 1 T.d_Book_entries.a T.d_Book_entries.fd ["self", "member"] (zh2 T.c_Book):=by
 refine T.d_Book_entries.F.okN sc_Book_entries (fun vs H Q E h=>?_) (fun cdv A outer s H vs Q E hr h=>?_)
 ·obtain ⟨b,d,m,w,y,n,ts,rfl,_⟩:=h; rfl
 obtain ⟨b,d,m,w,y,n,ts,rfl,hB,hl,k⟩:=h
 obtain ⟨⟨dx,hb⟩,xs,hd,hI⟩:=id hB
 have hxl:=hI.length
 have cl_Book:=T.cl_Book
 have na_Book_deals:=T.na_Book_deals
 refine ⟨_,(ze (zL (i:=2) sc_Book_entries.nd rfl (Or.inl rfl) (zas zc))
 (ze (zax PassesOwn.never rfl (show PI _ _ _ (zea K _) from zdD rfl T.z_enumerate (za (show PE _ _ (za3 K _ _) from zaj (pv 0) rfl) zc)) (show PG _ _ (zd2 K 2 _) from zee (n:=2) rfl (zbz (z4 (i:=3) sc_Book_entries.nd rfl (Or.inl rfl)) (zbz (z4 (i:=4) sc_Book_entries.nd rfl (Or.inl rfl)) zdu)))
 (zf (zq (PW.pt (zbk (zh (show OpR _ (compareOp .NotEq) (zbD K) from zbG hr.units) (zg (show IxR _ (rIx K) from zd) (pv 4) (zr (v:=.int 7) rfl T.g_STATE ⟨_,rfl⟩) (fun _ _=>rfl)) zj (nomark _)) (zaR (zh (show OpR _ (compareOp .Eq) (zC K) from zp hr.units) (zg (show IxR _ (rIx K) from zd) (pv 4) (zr (v:=.int 0) rfl T.g_PAYER ⟨_,rfl⟩) (fun _ _=>rfl)) (pv 1) (nomark _)))))
 (zf (zS (show PE _ _ (tBM K _ _ _ _) from za2 PySem.F.plainAttrs_list PySem.F.slot_list_append PySem.F.type_list_append zT (pv 2) (za (zQ (za (zg (show IxR _ (rIx K) from zd) (pv 4) (zr (v:=.int 5) rfl T.g_DAY ⟨_,rfl⟩) (fun _ _=>rfl)) (za (pv 3) (za (zjs zhx (zg (show IxR _ (rIx K) from zd) (pv 4) (zr (v:=.int 4) rfl T.g_AMOUNT ⟨_,rfl⟩) (fun _ _=>rfl))) zc)))) zc))))
 (zf (zq (PW.pt (zbk (zh (show OpR _ (compareOp .NotEq) (zbD K) from zbG hr.units) (zg (show IxR _ (rIx K) from zd) (pv 4) (zr (v:=.int 7) rfl T.g_STATE ⟨_,rfl⟩) (fun _ _=>rfl)) zj (nomark _)) (zaR (zh (show OpR _ (compareOp .Eq) (zC K) from zp hr.units) (zg (show IxR _ (rIx K) from zd) (pv 4) (zr (v:=.int 1) rfl T.g_PAYEE ⟨_,rfl⟩) (fun _ _=>rfl)) (pv 1) (nomark _)))))
 (zf (zS (show PE _ _ (tBM K _ _ _ _) from za2 PySem.F.plainAttrs_list PySem.F.slot_list_append PySem.F.type_list_append zT (pv 2) (za (zQ (za (zg (show IxR _ (rIx K) from zd) (pv 4) (zr (v:=.int 5) rfl T.g_DAY ⟨_,rfl⟩) (fun _ _=>rfl)) (za (pv 3) (za (zg (show IxR _ (rIx K) from zd) (pv 4) (zr (v:=.int 4) rfl T.g_AMOUNT ⟨_,rfl⟩) (fun _ _=>rfl)) zc)))) zc))))
 zk)))))
 (zf (zn (zF (show CallR _ _ (zcQ K) from zdq) rfl T.z_sorted BT.sorted (za (pv 2) zc)))))),?_⟩
 refine zI (σ0:=[some (.ref b),some (.int n),none,none,none]) rfl ?_
 walk_at "x"
 rename_i ma H1 fma e1 hma
 refine zfL (zcY (K:=K) (a:=d) (xs:=xs)) (fun i σ' H'=>∃ (f3 f4:Option V) (us:List V),σ'=[some (.ref b),some (.int n),some (.ref ma),f3,f4]/\Same H H'/\H' ma=some (.lst us)/\IsTs e3V H' us (za9 ts n i)) ⟨_,_,[],rfl,e1,hma,trivial⟩ ?_ ?_ ?_
 ·rintro i σ' H' ⟨_,_,_,_,e,_⟩; exact e.seq (SqL.of hd)
 ·rintro i yy σ' H2 H3 hi ⟨f3,f4,us,rfl,e2,hma2,hT2⟩ e3 ⟨t,v,rfl,hv,ht⟩
  obtain ⟨a,u,rfl,hu,ha⟩:=(hI.same (e2.trans e3)).get hv
  have ht':H3 t=some (.tup [.int (i:Int),.ref a]):=ht
  have ha3:H3 a=some (.tup [.int u.1.p,.int u.1.q,.int u.1.w,.int u.1.u,.int u.1.a,.int u.1.y,.int u.1.r,.str u.2]):=ha
  have hma3:=e3.at hma2
  have hT3:=hT2.same e3
  have hul:us.length<=1000:=by rw [hT2.length]; have:=zbL (ts:=ts) (m:=n) i; omega
  have es:=zcx (m:=n) hu
  unfold zbv at es
  walk_at "x"
  ·rename_i h1 h2 tt H4 ftt e4 htt H5 b5 h5
   rw [if_neg h1,if_pos h2] at es
   refine ⟨_,_,_,rfl,b5.same (e2.trans (e3.trans e4)) fma,h5,?_⟩
   rw [es]
   exact IsTs.app (f:=e3V) (x:=(u.1.y,(i:Int),-u.1.a)) (b5.tup htt) (LBut.isTs b5 (hT3.same e4))
  ·rename_i h1 h2 h3 tt H4 ftt e4 htt H5 b5 h5
   rw [if_neg h1,if_neg h2,if_pos h3] at es
   refine ⟨_,_,_,rfl,b5.same (e2.trans (e3.trans e4)) fma,h5,?_⟩
   rw [es]
   exact IsTs.app (f:=e3V) (x:=(u.1.y,(i:Int),u.1.a)) (b5.tup htt) (LBut.isTs b5 (hT3.same e4))
  ·rename_i h1 h2 h3
   rw [if_neg h1,if_neg h2,if_neg h3,List.append_nil] at es
   exact ⟨_,_,us,rfl,e2.trans e3,hma3,by rw [es]; exact hT3⟩
  ·rename_i h1
   rw [if_pos h1,List.append_nil] at es
   exact ⟨_,_,us,rfl,e2.trans e3,hma3,by rw [es]; exact hT3⟩
 ·rintro σ' H2 ⟨f3,f4,us,rfl,e2,hma2,hT2⟩
  rw [hxl] at hT2
  walk_at "x"
  refine zgw hma2 hT2 (by have:=zbL (ts:=ts) (m:=n) ts.length; omega) (zcX (by omega)) fun l H3 us' xs' fl e3 hl3 hT3 hp hs=>?_
  exact k l H3 us' xs' (Same.none fl e2) (e2.trans e3) hl3 hT3 hp hs
theorem zdU (T:Txt K mg):FnOk P w K mg base (CXF P w) 1 T.d_Book_position.a T.d_Book_position.fd ["self", "member"] (zgV T.c_Book):=by
 refine T.d_Book_position.F.okN sc_Book_position (fun vs H Q E h=>?_) (fun cdv A outer s H vs Q E hr h=>?_)
 ·obtain ⟨b,d,m,y,n,w,ts,rfl,_⟩:=h; rfl
 obtain ⟨b,d,m,y,n,w,ts,rfl,hB,hw,w1,k⟩:=h
 obtain ⟨⟨dx,hb⟩,xs,hd,hI⟩:=id hB
 have cl_Book:=T.cl_Book
 have na_Book_deals:=T.na_Book_deals
 have na_Book_wares:=T.na_Book_wares
 refine ⟨_,(ze (zL (i:=2) sc_Book_position.nd rfl (Or.inl rfl) (zm zcb (zas (za zb zc)) (show PE _ _ (za3 K _ _) from zaj (pv 0) rfl)))
 (ze (zax PassesOwn.never rfl (show PI _ _ _ (zbh K _) from zaE (show PE _ _ (za3 K _ _) from zaj (pv 0) rfl)) (z4 (i:=3) sc_Book_position.nd rfl (Or.inl rfl))
 (zf (zq (PW.pt (zbk (zh (show OpR _ (compareOp .Eq) (zC K) from zp hr.units) (zg (show IxR _ (rIx K) from zd) (pv 3) (zr (v:=.int 7) rfl T.g_STATE ⟨_,rfl⟩) (fun _ _=>rfl)) zj (nomark _)) (zaR (zh (show OpR _ (compareOp .Eq) (zC K) from zp hr.units) (zg (show IxR _ (rIx K) from zd) (pv 3) (zr (v:=.int 0) rfl T.g_PAYER ⟨_,rfl⟩) (fun _ _=>rfl)) (pv 1) (nomark _)))))
 (zf (zgx (pv 2) (zg (show IxR _ (rIx K) from zd) (pv 3) (zr (v:=.int 2) rfl T.g_WARE ⟨_,rfl⟩) (fun _ _=>rfl)) (show zgR _ (zdg K) from zeV) (zg (show IxR _ (rIx K) from zd) (pv 3) (zr (v:=.int 3) rfl T.g_UNITS ⟨_,rfl⟩) (fun _ _=>rfl)) zlo zbe))
 (zf (zq (PW.pt (zbk (zh (show OpR _ (compareOp .Eq) (zC K) from zp hr.units) (zg (show IxR _ (rIx K) from zd) (pv 3) (zr (v:=.int 7) rfl T.g_STATE ⟨_,rfl⟩) (fun _ _=>rfl)) zj (nomark _)) (zaR (zh (show OpR _ (compareOp .Eq) (zC K) from zp hr.units) (zg (show IxR _ (rIx K) from zd) (pv 3) (zr (v:=.int 1) rfl T.g_PAYEE ⟨_,rfl⟩) (fun _ _=>rfl)) (pv 1) (nomark _)))))
 (zf (zgx (pv 2) (zg (show IxR _ (rIx K) from zd) (pv 3) (zr (v:=.int 2) rfl T.g_WARE ⟨_,rfl⟩) (fun _ _=>rfl)) (show zgR _ (zdg K) from zeV) (zg (show IxR _ (rIx K) from zd) (pv 3) (zr (v:=.int 3) rfl T.g_UNITS ⟨_,rfl⟩) (fun _ _=>rfl)) zk3 zbe))
 zk)))))
 (zf (zn (pv 2))))),?_⟩
 refine zI (σ0:=[some (.ref b),some (.int n),none,none]) rfl ?_
 walk_at "x"
 rename_i z0 H1 fz0 e1 hz0 ma H2 fma e2 hma
 rw [Int.toNat_natCast] at hma
 have fmaH:H ma=none:=Same.none fma e1
 refine zbF (xs:=xs) (fun i σ' H'=>∃ f3:Option V,σ'=[some (.ref b),some (.int n),some (.ref ma),f3]/\Same H H'/\H' ma=some (.lst ((vec w (zbu (ts.take i) n)).map V.int))) ⟨_,rfl,e1.trans e2,hma⟩ ?_ ?_ ?_
 ·rintro i σ' H' _ ⟨_,_,e,_⟩; exact SqL.of (e.at hd)
 ·rintro i x σ' H3 hx ⟨f3,rfl,e3,hma3⟩
  obtain ⟨a,u,rfl,hu,ha⟩:=(hI.same e3).get hx
  have ha3:H3 a=some (.tup [.int u.1.p,.int u.1.q,.int u.1.w,.int u.1.u,.int u.1.a,.int u.1.y,.int u.1.r,.str u.2]):=ha
  obtain ⟨uw0,uw1⟩:=hw u (List.mem_of_getElem? hu)
  have hpt:=zeZ hu n
  have same:zbu (ts.take (i + 1)) n=zbu (ts.take i) n->H3 ma=some (.lst ((vec w (zbu (ts.take (i + 1)) n)).map V.int)):=fun e=>by rw [e]; exact hma3
  walk_at "x"
  ·rename_i h1 h2 H4 b4 h4
   refine ⟨_,rfl,b4.same e3 fmaH,?_⟩
   rw [h4]
   congr 3
   refine zbq fun j hj=>?_
   rw [hpt]
   unfold zcj
   by_cases hj2:u.1.w=(j:Int)
   ·have hje:u.1.w.toNat=j:=by omega
    rw [hje,if_pos rfl,if_pos ⟨h1,hj2⟩,if_pos h2]
   ·rw [if_neg (show ¬ j=u.1.w.toNat by omega),if_neg (fun z=>hj2 z.2)]; omega
  ·rename_i h1 h2 h3 H4 b4 h4
   refine ⟨_,rfl,b4.same e3 fmaH,?_⟩
   rw [h4]
   congr 3
   refine zbq fun j hj=>?_
   rw [hpt]
   unfold zcj
   by_cases hj2:u.1.w=(j:Int)
   ·have hje:u.1.w.toNat=j:=by omega
    rw [hje,if_pos rfl,if_pos ⟨h1,hj2⟩,if_neg h2,if_pos h3]; omega
   ·rw [if_neg (show ¬ j=u.1.w.toNat by omega),if_neg (fun z=>hj2 z.2)]; omega
  ·rename_i h1 h2 h3
   refine ⟨_,rfl,e3,same (funext fun j=>?_)⟩
   rw [hpt]
   unfold zcj
   rw [if_neg h2,if_neg h3]
   split <;> omega
  ·rename_i h1
   refine ⟨_,rfl,e3,same (funext fun j=>?_)⟩
   rw [hpt]
   unfold zcj
   rw [if_neg fun z=>h1 z.1]
   omega
 ·rintro σ' H3 ⟨f3,rfl,e3,hma3⟩
  rw [hI.length,List.take_length] at hma3
  walk_at "x"
  exact k ma H3 fmaH e3 hma3
theorem zdk (T:Txt K mg):FnOk P w K mg base (CXF P w) 1 T.d__law_cell.a T.d__law_cell.fd ["_law_script", "_law_k"] (zeH K):=by
 refine T.d__law_cell.F.okN zfM (fun vs H Q E h=>?_) (fun cdv A outer s H vs Q E hr h=>?_)
 ·obtain ⟨a,ns,k,rfl,_⟩:=h; rfl
 obtain ⟨a,ns,k,rfl,hS,h0,q⟩:=h
 refine ⟨_,(ze (zq (zh (show OpR _ (compareOp .Eq) (zC K) from zp hr.units) (zF (show CallR _ _ (za4 K) from zU) rfl T.z_len BT.len (za (pv 0) zc)) zb (nomark _))
 (zf (zn zb))
 zk)
 (zf (zn (zg (show IxR _ (rIx K) from zd) (pv 0) (zm zaQ (pv 1) (zF (show CallR _ _ (za4 K) from zU) rfl T.z_len BT.len (za (pv 0) zc))) (fun _ _=>rfl))))),?_⟩
 refine zI (σ0:=[some (.ref a),some (.int k)]) rfl ?_
 have hml:(ns.map V.int).length=ns.length:=List.length_map ..
 walk_at "x"
 ·exact q _
 ·rename_i h
  have hp:0 < ((ns.map V.int).length:Int):=by omega
  have i0:=Int.emod_nonneg k (show ((ns.map V.int).length:Int) ≠ 0 by omega)
  have i1:=Int.emod_lt_of_pos k hp
  obtain ⟨x,hx⟩:=zu (show (k % ((ns.map V.int).length:Int)).toNat < ns.length by omega)
  refine zha hS (zbE i0 (v:=.int x) ?_) (q _)
  rw [List.getElem?_map,hx]; rfl
theorem zN (T:Txt K mg):FnOk P w K mg base (CXF P w) 2 T.d__law_draw.a T.d__law_draw.fd ["_law_script", "_law_k", "_law_many"] (zeC K):=by
 refine T.d__law_draw.F.okN zfC (fun vs H Q E h=>?_) (fun cdv A outer s H vs Q E hr h=>?_)
 ·obtain ⟨a,ns,k,n,rfl,_⟩:=h; rfl
 obtain ⟨a,ns,k,n,rfl,hS,h0,h1,n0,q⟩:=h
 refine ⟨_,(zf (zn (zm zaQ (zm zaQ (zm zcb (zm (show OpR _ (binaryOp .Add) (zE K) from zt) (zm (show OpR _ (binaryOp .Add) (zE K) from zt) (zm zaQ (zw (zdk T) (hr.mono (by decide)) rfl T.d__law_cell.m T.d__law_cell.F.kp T.d__law_cell.b .nil (zy zx) (za (pv 0) (za (pv 1) zc))) zb) (zm zcb (pv 1) (pv 1))) zb) zb) zb) (pv 2)))),?_⟩
 refine zI (σ0:=[some (.ref a),some (.int k),some (.int n)]) rfl ?_
 have mk:CMulS k k:=CMulS.of (sz200 (by omega) (by omega)) (sz200 (by omega) (by omega)) (by decide)
 have hkk:0<=k * k/\k * k<=25000000:=⟨Int.mul_nonneg h0 h0,Int.le_trans (Int.mul_le_mul h1 h1 h0 (by decide)) (by decide)⟩
 walk_at "x"
 exact q _ (Int.emod_nonneg _ (by omega)) (Int.emod_lt_of_pos _ (by omega))
theorem zbw (T:Txt K mg):FnOk P w K mg base (CXF P w) 2 T.d__law_great.a T.d__law_great.fd ["_law_script", "_law_k", "_law_many"] (zd0 K):=by
 refine T.d__law_great.F.okN zfo (fun vs H Q E h=>?_) (fun cdv A outer s H vs Q E hr h=>?_)
 ·obtain ⟨a,ns,k,n,rfl,_⟩:=h; rfl
 obtain ⟨a,ns,k,n,rfl,hS,h0,h1,n0,n1,q⟩:=h
 refine ⟨_,(zf (zn (zm zaQ (zm (show OpR _ (binaryOp .Add) (zE K) from zt) (zm (show OpR _ (binaryOp .Add) (zE K) from zt) (zm zcb (zm zaQ (zw (zdk T) (hr.mono (by decide)) rfl T.d__law_cell.m T.d__law_cell.F.kp T.d__law_cell.b .nil (zy zx) (za (pv 0) (za (pv 1) zc))) (pv 2)) zb) (zm zcb (zm zcb (pv 1) (pv 1)) zb)) zb) (pv 2)))),?_⟩
 refine zI (σ0:=[some (.ref a),some (.int k),some (.int n)]) rfl ?_
 have mk:CMulS k k:=CMulS.of (sz200 (by omega) (by omega)) (sz200 (by omega) (by omega)) (by decide)
 have hkk:0<=k * k/\k * k<=25000000:=⟨Int.mul_nonneg h0 h0,Int.le_trans (Int.mul_le_mul h1 h1 h0 (by decide)) (by decide)⟩
 have mk2:CMulS (k * k) 40692:=CMulS.of (sz200 (by omega) (by omega)) (sz200 (by decide) (by decide)) (by decide)
 walk_at "x"
 rename_i x
 have x0:=Int.emod_nonneg x (show n ≠ 0 by omega)
 have x1:=Int.emod_lt_of_pos x (show (0:Int) < n by omega)
 obtain ⟨v,ev⟩:∃ v,v=x % n:=⟨_,rfl⟩
 rw [<- ev] at x0 x1 ⊢
 have mv:CMulS v 69621:=CMulS.of (sz200 (by omega) (by omega)) (sz200 (by decide) (by decide)) (by decide)
 walk_at "x"
 exact q _ (Int.emod_nonneg _ (by omega)) (Int.emod_lt_of_pos _ (by omega))
theorem zav (T:Txt K mg):FnOk P w K mg base (CXF P w) 3 T.d__law_field.a T.d__law_field.fd ["_law_script", "_law_k", "_law_low", "_law_high"] (zfg K):=by
 refine T.d__law_field.F.okN sc__law_field (fun vs H Q E h=>?_) (fun cdv A outer s H vs Q E hr h=>?_)
 ·obtain ⟨a,ns,k,lo,hi,rfl,_⟩:=h; rfl
 obtain ⟨a,ns,k,lo,hi,rfl,hS,k0,k1,h0,h1,q⟩:=h
 refine ⟨_,(ze (zL (i:=4) sc__law_field.nd rfl (Or.inl rfl) (zw (zN T) (hr.mono (by decide)) rfl T.d__law_draw.m T.d__law_draw.F.kp T.d__law_draw.b .nil (zy zx) (za (pv 0) (za (pv 1) (za zb zc)))))
 (ze (zq (zh (show OpR _ (compareOp .Eq) (zC K) from zp hr.units) (pv 4) zb (nomark _))
 (zf (zn (zm zaU (pv 2) zb)))
 zk)
 (ze (zq (zh (show OpR _ (compareOp .Eq) (zC K) from zp hr.units) (pv 4) zb (nomark _))
 (zf (zn (zm (show OpR _ (binaryOp .Add) (zE K) from zt) (pv 3) zb)))
 zk)
 (ze (zq (zh (show OpR _ (compareOp .Eq) (zC K) from zp hr.units) (pv 4) zb (nomark _))
 (zf (zn (zm zaU (zm zaU (pv 2) zb) (zw (zbw T) (hr.mono (by decide)) rfl T.d__law_great.m T.d__law_great.F.kp T.d__law_great.b .nil (zy zx) (za (pv 0) (za (zm (show OpR _ (binaryOp .Add) (zE K) from zt) (pv 1) zb) (za (zm zbl zb zb) zc)))))))
 zk)
 (ze (zq (zh (show OpR _ (compareOp .Eq) (zC K) from zp hr.units) (pv 4) zb (nomark _))
 (zf (zn (zm (show OpR _ (binaryOp .Add) (zE K) from zt) (zm (show OpR _ (binaryOp .Add) (zE K) from zt) (pv 3) zb) (zw (zbw T) (hr.mono (by decide)) rfl T.d__law_great.m T.d__law_great.F.kp T.d__law_great.b .nil (zy zx) (za (pv 0) (za (zm (show OpR _ (binaryOp .Add) (zE K) from zt) (pv 1) zb) (za (zm zbl zb zb) zc)))))))
 zk)
 (ze (zq (zh zal (pv 4) zb (nomark _))
 (zf (zn (zg (show IxR _ (rIx K) from zd) (zas (za (pv 2) (za (pv 3) zc))) (zm zaQ (pv 4) zb) (fun _ _=>rfl))))
 zk)
 (zf (zn (zm (show OpR _ (binaryOp .Add) (zE K) from zt) (pv 2) (zw (zbw T) (hr.mono (by decide)) rfl T.d__law_great.m T.d__law_great.F.kp T.d__law_great.b .nil (zy zx) (za (pv 0) (za (zm (show OpR _ (binaryOp .Add) (zE K) from zt) (pv 1) zb) (za (zm (show OpR _ (binaryOp .Add) (zE K) from zt) (zm zaU (pv 3) (pv 2)) zb) zc))))))))))))),?_⟩
 refine zI (σ0:=[some (.ref a),some (.int k),some (.int lo),some (.int hi),none]) rfl ?_
 walk_at "x"
 ·exact q _ _ (Same.refl _)
 ·exact q _ _ (Same.refl _)
 ·exact q _ _ (Same.refl _)
 ·exact q _ _ (Same.refl _)
 ·rename_i x x0 x1 n1 n2 n3 n4 n5 l H1 fl e1 hl
  obtain ⟨v,hv⟩:=at2 (i:=lo) (j:=hi) (Int.emod_nonneg x (b:=2) (by decide)) (Int.emod_lt_of_pos x (b:=2) (by decide))
  walk_at "x"
  exact q _ _ e1
 ·exact q _ _ (Same.refl _)
theorem zcE (T:Txt K mg):FnOk P w K mg base (CXF P w) 4 T.d__law_day.a T.d__law_day.fd ["_law_script", "_law_k", "_law_today"] (zjX K):=by
 refine T.d__law_day.F.okN sc__law_day (fun vs H Q E h=>?_) (fun cdv A outer s H vs Q E hr h=>?_)
 ·obtain ⟨a,ns,k,y,rfl,_⟩:=h; rfl
 obtain ⟨a,ns,k,y,rfl,hS,k0,k1,q⟩:=h
 refine ⟨_,(ze (zL (i:=3) sc__law_day.nd rfl (Or.inl rfl) (zw (zN T) (hr.mono (by decide)) rfl T.d__law_draw.m T.d__law_draw.F.kp T.d__law_draw.b .nil (zy zx) (za (pv 0) (za (pv 1) (za zb zc)))))
 (ze (zq (zh (show OpR _ (compareOp .Eq) (zC K) from zp hr.units) (pv 3) zb (nomark _))
 (zf (zn (zw (zav T) (hr.mono (by decide)) rfl T.d__law_field.m T.d__law_field.F.kp T.d__law_field.b .nil (zy zx) (za (pv 0) (za (pv 1) (za zb (za (zm zbl zb zb) zc)))))))
 zk)
 (ze (zq (zh zal (pv 3) zb (nomark _))
 (zf (zn (zm zaU (zw (zN T) (hr.mono (by decide)) rfl T.d__law_draw.m T.d__law_draw.F.kp T.d__law_draw.b .nil (zy zx) (za (pv 0) (za (zm (show OpR _ (binaryOp .Add) (zE K) from zt) (pv 1) zb) (za zb zc)))) zb)))
 zk)
 (zf (zn (zm (show OpR _ (binaryOp .Add) (zE K) from zt) (pv 2) (zw (zN T) (hr.mono (by decide)) rfl T.d__law_draw.m T.d__law_draw.F.kp T.d__law_draw.b .nil (zy zx) (za (pv 0) (za (zm (show OpR _ (binaryOp .Add) (zE K) from zt) (pv 1) zb) (za zb zc)))))))))),?_⟩
 refine zI (σ0:=[some (.ref a),some (.int k),some (.int y),none]) rfl ?_
 walk_at "x"
 ·refine zM ?_
  exact ⟨a,ns,k,_,_,rfl,hS,k0,by omega,by decide,by decide,q⟩
 ·exact q _ _ (Same.refl _)
 ·exact q _ _ (Same.refl _)
theorem zb8 (T:Txt K mg):FnOk P w K mg base (CXF P w) 3 T.d__law_number.a T.d__law_number.fd ["_law_script", "_law_k", "_law_rows"] (zhf K):=by
 refine T.d__law_number.F.okN sc__law_number (fun vs H Q E h=>?_) (fun cdv A outer s H vs Q E hr h=>?_)
 ·obtain ⟨a,ro,ns,k,xs,rfl,_⟩:=h; rfl
 obtain ⟨a,ro,ns,k,xs,rfl,hS,k0,k1,hro,q⟩:=h
 refine ⟨_,(ze (zL (i:=3) sc__law_number.nd rfl (Or.inl rfl) (zw (zN T) (hr.mono (by decide)) rfl T.d__law_draw.m T.d__law_draw.F.kp T.d__law_draw.b .nil (zy zx) (za (pv 0) (za (pv 1) (za zb zc)))))
 (ze (zq (zh (show OpR _ (compareOp .Eq) (zC K) from zp hr.units) (pv 3) zb (nomark _))
 (zf (zn (zm zaU (zjs zhx zb) (zw (zbw T) (hr.mono (by decide)) rfl T.d__law_great.m T.d__law_great.F.kp T.d__law_great.b .nil (zy zx) (za (pv 0) (za (zm (show OpR _ (binaryOp .Add) (zE K) from zt) (pv 1) zb) (za (zm zbl zb zb) zc)))))))
 zk)
 (ze (zq (zh (show OpR _ (compareOp .Eq) (zC K) from zp hr.units) (pv 3) zb (nomark _))
 (zf (zn (zm (show OpR _ (binaryOp .Add) (zE K) from zt) (zm (show OpR _ (binaryOp .Add) (zE K) from zt) (zF (show CallR _ _ (za4 K) from zU) rfl T.z_len BT.len (za (pv 2) zc)) zb) (zw (zbw T) (hr.mono (by decide)) rfl T.d__law_great.m T.d__law_great.F.kp T.d__law_great.b .nil (zy zx) (za (pv 0) (za (zm (show OpR _ (binaryOp .Add) (zE K) from zt) (pv 1) zb) (za (zm zbl zb zb) zc)))))))
 zk)
 (zf (zn (zm zaU (zw (zN T) (hr.mono (by decide)) rfl T.d__law_draw.m T.d__law_draw.F.kp T.d__law_draw.b .nil (zy zx) (za (pv 0) (za (zm (show OpR _ (binaryOp .Add) (zE K) from zt) (pv 1) zb) (za (zm (show OpR _ (binaryOp .Add) (zE K) from zt) (zF (show CallR _ _ (za4 K) from zU) rfl T.z_len BT.len (za (pv 2) zc)) zb) zc)))) zb)))))),?_⟩
 refine zI (σ0:=[some (.ref a),some (.int k),some (.ref ro),none]) rfl ?_
 walk_at "x"
 ·exact q _
 ·exact q _
 ·exact q _
theorem zfG (T:Txt K mg):FnOk P w K mg base (CXF P w) 5 T.d__law_deed.a T.d__law_deed.fd ["_law_script", "_law_at", "_law_rows", "_law_many", "_law_wares", "_law_today"] (zi3 K):=by
 refine T.d__law_deed.F.okN sc__law_deed (fun vs H Q E h=>?_) (fun cdv A outer s H vs Q E hr h=>?_)
 ·obtain ⟨a,ro,ns,k,m,w,y,xs,rfl,_⟩:=h; rfl
 obtain ⟨a,ro,ns,k,m,w,y,xs,rfl,hS,k0,k1,hro,m0,m1,w0,w1,q⟩:=h
 refine ⟨_,(ze (zL (i:=6) sc__law_deed.nd rfl (Or.inl rfl) (zw (zN T) (hr.mono (by decide)) rfl T.d__law_draw.m T.d__law_draw.F.kp T.d__law_draw.b .nil (zy zx) (za (pv 0) (za (pv 1) (za zb zc)))))
 (ze (zq (zh zal (pv 6) zb (nomark _))
 (ze (zL (i:=7) sc__law_deed.nd rfl (Or.inl rfl) (zas (za zj (za (zw (zav T) (hr.mono (by decide)) rfl T.d__law_field.m T.d__law_field.F.kp T.d__law_field.b .nil (zy zx) (za (pv 0) (za (zm (show OpR _ (binaryOp .Add) (zE K) from zt) (pv 1) zb) (za zb (za (zm zaU (pv 3) zb) zc))))) (za (zw (zav T) (hr.mono (by decide)) rfl T.d__law_field.m T.d__law_field.F.kp T.d__law_field.b .nil (zy zx) (za (pv 0) (za (zm (show OpR _ (binaryOp .Add) (zE K) from zt) (pv 1) zb) (za zb (za (zm zaU (pv 3) zb) zc))))) zc)))))
 (zbm (zq (zh zal (pv 6) zb (nomark _))
 (ze (zL (i:=7) sc__law_deed.nd rfl (Or.inl rfl) (zas (za zj (za (zw (zN T) (hr.mono (by decide)) rfl T.d__law_draw.m T.d__law_draw.F.kp T.d__law_draw.b .nil (zy zx) (za (pv 0) (za (zm (show OpR _ (binaryOp .Add) (zE K) from zt) (pv 1) zb) (za (pv 3) zc)))) zc))))
 (zf (zS (show PE _ _ (tBM K _ _ _ _) from za2 PySem.F.plainAttrs_list PySem.F.slot_list_append PySem.F.type_list_append zT (pv 7) (za (zm zaQ (zm (show OpR _ (binaryOp .Add) (zE K) from zt) (zm (show OpR _ (binaryOp .Add) (zE K) from zt) (zg (show IxR _ (rIx K) from zd) (pv 7) zb (fun _ _=>rfl)) zb) (zw (zN T) (hr.mono (by decide)) rfl T.d__law_draw.m T.d__law_draw.F.kp T.d__law_draw.b .nil (zy zx) (za (pv 0) (za (zm (show OpR _ (binaryOp .Add) (zE K) from zt) (pv 1) zb) (za (zF (zcz rfl) rfl T.z_max BT.max (za zb (za (zm zaU (pv 3) zb) zc))) zc))))) (pv 3)) zc)))))
 zk)
 (ze (zS (show PE _ _ (tBM K _ _ _ _) from za2 PySem.F.plainAttrs_list PySem.F.slot_list_append PySem.F.type_list_append zT (pv 7) (za (zw (zav T) (hr.mono (by decide)) rfl T.d__law_field.m T.d__law_field.F.kp T.d__law_field.b .nil (zy zx) (za (pv 0) (za (zm (show OpR _ (binaryOp .Add) (zE K) from zt) (pv 1) zb) (za zb (za (zm zaU (pv 4) zb) zc))))) zc)))
 (ze (zS (show PE _ _ (tBM K _ _ _ _) from za2 PySem.F.plainAttrs_list PySem.F.slot_list_append PySem.F.type_list_append zT (pv 7) (za (zw (zav T) (hr.mono (by decide)) rfl T.d__law_field.m T.d__law_field.F.kp T.d__law_field.b .nil (zy zx) (za (pv 0) (za (zm (show OpR _ (binaryOp .Add) (zE K) from zt) (pv 1) zb) (za zb (za (zm zbl zb zb) zc))))) zc)))
 (ze (zS (show PE _ _ (tBM K _ _ _ _) from za2 PySem.F.plainAttrs_list PySem.F.slot_list_append PySem.F.type_list_append zT (pv 7) (za (zw (zav T) (hr.mono (by decide)) rfl T.d__law_field.m T.d__law_field.F.kp T.d__law_field.b .nil (zy zx) (za (pv 0) (za (zm (show OpR _ (binaryOp .Add) (zE K) from zt) (pv 1) zb) (za zb (za (zm zbl zb zb) zc))))) zc)))
 (zf (zn (zm (show OpR _ (binaryOp .Add) (zE K) from zt) (pv 7) (zas (za (zw (zcE T) (hr.mono (by decide)) rfl T.d__law_day.m T.d__law_day.F.kp T.d__law_day.b .nil (zy zx) (za (pv 0) (za (zm (show OpR _ (binaryOp .Add) (zE K) from zt) (pv 1) zb) (za (pv 5) zc)))) (za (zw (zav T) (hr.mono (by decide)) rfl T.d__law_field.m T.d__law_field.F.kp T.d__law_field.b .nil (zy zx) (za (pv 0) (za (zm (show OpR _ (binaryOp .Add) (zE K) from zt) (pv 1) zb) (za zb (za zb zc))))) zc)))))))))))
 zk)
 (ze (zq (PW.pt (zac (zh (show OpR _ (compareOp .Eq) (zC K) from zp hr.units) (pv 6) zb (nomark _)) (zaD (zh (show OpR _ (compareOp .Eq) (zC K) from zp hr.units) (pv 6) zb (nomark _)))))
 (ze (zL (i:=8) sc__law_deed.nd rfl (Or.inl rfl) (zw (zb8 T) (hr.mono (by decide)) rfl T.d__law_number.m T.d__law_number.F.kp T.d__law_number.b .nil (zy zx) (za (pv 0) (za (zm (show OpR _ (binaryOp .Add) (zE K) from zt) (pv 1) zb) (za (pv 2) zc)))))
 (zf (zn (zas (za zj (za (pv 8) (za (zw (zav T) (hr.mono (by decide)) rfl T.d__law_field.m T.d__law_field.F.kp T.d__law_field.b .nil (zy zx) (za (pv 0) (za (zm (show OpR _ (binaryOp .Add) (zE K) from zt) (pv 1) zb) (za zb (za (zm zbl zb zb) zc))))) (za (zw (zcE T) (hr.mono (by decide)) rfl T.d__law_day.m T.d__law_day.F.kp T.d__law_day.b .nil (zy zx) (za (pv 0) (za (zm (show OpR _ (binaryOp .Add) (zE K) from zt) (pv 1) zb) (za (pv 5) zc)))) zc))))))))
 zk)
 (ze (zq (zh (show OpR _ (compareOp .Eq) (zC K) from zp hr.units) (pv 6) zb (nomark _))
 (zf (zn (zas (za zj (za (zw (zb8 T) (hr.mono (by decide)) rfl T.d__law_number.m T.d__law_number.F.kp T.d__law_number.b .nil (zy zx) (za (pv 0) (za (zm (show OpR _ (binaryOp .Add) (zE K) from zt) (pv 1) zb) (za (pv 2) zc)))) zc)))))
 zk)
 (ze (zq (zh (show OpR _ (compareOp .Eq) (zC K) from zp hr.units) (pv 6) zb (nomark _))
 (zf (zn (zas (za zj (za (zw (zN T) (hr.mono (by decide)) rfl T.d__law_draw.m T.d__law_draw.F.kp T.d__law_draw.b .nil (zy zx) (za (pv 0) (za (zm (show OpR _ (binaryOp .Add) (zE K) from zt) (pv 1) zb) (za (pv 3) zc)))) zc)))))
 zk)
 (ze (zq (zh (show OpR _ (compareOp .Eq) (zC K) from zp hr.units) (pv 6) zb (nomark _))
 (zf (zn (zas (za zj (za (zw (zb8 T) (hr.mono (by decide)) rfl T.d__law_number.m T.d__law_number.F.kp T.d__law_number.b .nil (zy zx) (za (pv 0) (za (zm (show OpR _ (binaryOp .Add) (zE K) from zt) (pv 1) zb) (za (pv 2) zc)))) (za (zw (zcE T) (hr.mono (by decide)) rfl T.d__law_day.m T.d__law_day.F.kp T.d__law_day.b .nil (zy zx) (za (pv 0) (za (zm (show OpR _ (binaryOp .Add) (zE K) from zt) (pv 1) zb) (za (pv 5) zc)))) zc))))))
 zk)
 (zf (zn (zas (za zj zc)))))))))),?_⟩
 refine zI (σ0:=[some (.ref a),some (.int k),some (.ref ro),some (.int m),some (.int w),some (.int y),none,none,none]) rfl ?_
 walk_at "x"
 ·rename_i way y0 y1 hlt
  refine zM ?_
  refine ⟨a,ns,_,_,_,rfl,hS,by omega,by omega,by omega,by omega,fun p H1 e1=>?_⟩
  have hS1:SqL K H1 a (ns.map V.int):=hS.keep e1
  walk_at "x"
  refine zM ?_
  refine ⟨a,ns,_,_,_,rfl,hS1,by omega,by omega,by omega,by omega,fun p' H2 e2=>?_⟩
  have hS2:SqL K H2 a (ns.map V.int):=hS1.keep e2
  walk_at "x"
  rename_i l0 H3 fl0 e3 hl0
  have e03:=e1.trans (e2.trans e3)
  have hS3:SqL K H3 a (ns.map V.int):=hS2.keep e3
  refine zb0 (fun σ' Hx=>∃ (l:Addr) (p q:Int),σ'=[some (.ref a),some (.int k),some (.ref ro),some (.int m),some (.int w),some (.int y),some (.int way),some (.ref l),none]/\Same H Hx/\H l=none/\Hx l=some (.lst [.str "strike",.int p,.int q])) ?_ ?_
  ·walk_at "x"
   ·rename_i hw x x0 x1 l1 H4 fl1 e4 hl1 z z0 z1
    refine zM ?_
    refine za6 hl1 (by show 2<=100000; decide) fun H5 b5 h5=>?_
    have fl1':H l1=none:=Same.none fl1 e03
    exact ⟨l1,_,_,rfl,b5.same (e03.trans e4) fl1',fl1',h5⟩
   ·exact ⟨l0,_,_,rfl,e03,Same.none fl0 (e1.trans e2),hl0⟩
  rintro σ' H4 ⟨l,p,q',rfl,e4,fl,hl⟩
  have hS4:SqL K H4 a (ns.map V.int):=hS.keep e4
  walk_at "x"
  refine zM ?_
  refine ⟨a,ns,_,_,_,rfl,hS4,by omega,by omega,by omega,by omega,fun v1 H5 e5=>?_⟩
  refine zM ?_
  refine za6 (e5.at hl) (by show 3<=100000; decide) fun H6 b6 h6=>?_
  have e6:=b6.same (e4.trans e5) fl
  have hS6:SqL K H6 a (ns.map V.int):=hS.keep e6
  walk_at "x"
  refine zM ?_
  refine ⟨a,ns,_,_,_,rfl,hS6,by omega,by omega,by decide,by decide,fun v2 H7 e7=>?_⟩
  refine zM ?_
  refine za6 (e7.at h6) (by show 4<=100000; decide) fun H8 b8 h8=>?_
  have e8:=b8.same (e6.trans e7) fl
  have hS8:SqL K H8 a (ns.map V.int):=hS.keep e8
  walk_at "x"
  refine zM ?_
  refine ⟨a,ns,_,_,_,rfl,hS8,by omega,by omega,by decide,by decide,fun v3 H9 e9=>?_⟩
  refine zM ?_
  refine za6 (e9.at h8) (by show 5<=100000; decide) fun H10 b10 h10=>?_
  have e10:=b10.same (e8.trans e9) fl
  have hS10:SqL K H10 a (ns.map V.int):=hS.keep e10
  walk_at "x"
  refine zM ?_
  refine ⟨a,ns,_,_,rfl,hS10,by omega,by omega,fun v4 H11 e11=>?_⟩
  have hS11:SqL K H11 a (ns.map V.int):=hS10.keep e11
  walk_at "x"
  show zfg K [V.ref a,V.int (k + 8),V.int 0,V.int 2] H11 _ E0
  refine ⟨a,ns,_,_,_,rfl,hS11,by omega,by omega,by decide,by decide,fun v5 H12 e12=>?_⟩
  walk_at "x"
  rename_i l3 H13 fl3 e13 hl3
  refine zhT ((e11.trans (e12.trans e13)).at h10) hl3 (by show 8<=100000; decide) fun l4 H14 fl4 e14 hl4=>?_
  have e013:=e10.trans (e11.trans (e12.trans e13))
  exact q l4 H14 (.st ⟨p,q',v1,v2,v3,v4,v5⟩) (Same.none fl4 e013) (e013.trans e14) hl4
 ·refine zM ?_
  refine ⟨a,ro,ns,_,xs,rfl,hS,by omega,by omega,hro,fun n=>?_⟩
  walk_at "x"
  refine zM ?_
  refine ⟨a,ns,_,_,_,rfl,hS,by omega,by omega,by decide,by decide,fun am H1 e1=>?_⟩
  have hS1:SqL K H1 a (ns.map V.int):=hS.keep e1
  walk_at "x"
  refine zM ?_
  refine ⟨a,ns,_,_,rfl,hS1,by omega,by omega,fun z H2 e2=>?_⟩
  walk_at "x"
  rename_i l H3 fl e3 hl
  exact q l H3 (.ch n am z) (Same.none fl (e1.trans e2)) (e1.trans (e2.trans e3)) hl
 ·refine zM ?_
  refine ⟨a,ro,ns,_,xs,rfl,hS,by omega,by omega,hro,fun n=>?_⟩
  walk_at "x"
  refine zM ?_
  refine ⟨a,ns,_,_,_,rfl,hS,by omega,by omega,by decide,by decide,fun am H1 e1=>?_⟩
  have hS1:SqL K H1 a (ns.map V.int):=hS.keep e1
  walk_at "x"
  refine zM ?_
  refine ⟨a,ns,_,_,rfl,hS1,by omega,by omega,fun z H2 e2=>?_⟩
  walk_at "x"
  rename_i l H3 fl e3 hl
  exact q l H3 (.ch n am z) (Same.none fl (e1.trans e2)) (e1.trans (e2.trans e3)) hl
 ·refine zM ?_
  refine ⟨a,ro,ns,_,xs,rfl,hS,by omega,by omega,hro,fun n=>?_⟩
  walk_at "x"
  rename_i l H1 fl e1 hl
  exact q l H1 (.br n) fl e1 hl
 ·rename_i x x0 x1 l H1 fl e1 hl
  exact q l H1 (.al _) fl e1 hl
 ·refine zM ?_
  refine ⟨a,ro,ns,_,xs,rfl,hS,by omega,by omega,hro,fun n=>?_⟩
  walk_at "x"
  refine zM ?_
  refine ⟨a,ns,_,_,rfl,hS,by omega,by omega,fun z H1 e1=>?_⟩
  walk_at "x"
  rename_i l H2 fl e2 hl
  exact q l H2 (.ct n z) (Same.none fl e1) (e1.trans e2) hl
 ·rename_i l H1 fl e1 hl
  exact q l H1 .cl fl e1 hl
theorem zfI (T:Txt K mg):FnOkH P w K mg base 1 T.d__law_name.a T.d__law_name.fd ["_law_e"] (ziw T.c_NoMember T.c_NoTerms T.c_NoDeal T.c_Closed T.c_Gone T.c_Settled T.c_Standing):=by
 refine T.d__law_name.F.okH sc__law_name (fun vs H Q E h=>?_) (fun cdv A outer s H vs Q E hr h=>?_)
 ·obtain ⟨er,A,n,s,rfl,_⟩:=h; rfl
 obtain ⟨er,A,n,s,rfl,he,hC,k⟩:=h
 have hn:1<=n/\n<=7:=by unfold W7 at hC; omega
 have i1:PySem.W.kitOne K (.ref A) (.ref T.c_NoMember)=some (decide (n=1)):=by
  rcases hC with ⟨rfl,rfl,_⟩ | ⟨rfl,rfl,_⟩ | ⟨rfl,rfl,_⟩ | ⟨rfl,rfl,_⟩ | ⟨rfl,rfl,_⟩ | ⟨rfl,rfl,_⟩ | ⟨rfl,rfl,_⟩
  ·exact T.i_NoMember_NoMember
  ·exact T.i_NoTerms_NoMember
  ·exact T.i_NoDeal_NoMember
  ·exact T.i_Closed_NoMember
  ·exact T.i_Gone_NoMember
  ·exact T.i_Settled_NoMember
  ·exact T.i_Standing_NoMember
 have i2:PySem.W.kitOne K (.ref A) (.ref T.c_NoTerms)=some (decide (n=2)):=by
  rcases hC with ⟨rfl,rfl,_⟩ | ⟨rfl,rfl,_⟩ | ⟨rfl,rfl,_⟩ | ⟨rfl,rfl,_⟩ | ⟨rfl,rfl,_⟩ | ⟨rfl,rfl,_⟩ | ⟨rfl,rfl,_⟩
  ·exact T.i_NoMember_NoTerms
  ·exact T.i_NoTerms_NoTerms
  ·exact T.i_NoDeal_NoTerms
  ·exact T.i_Closed_NoTerms
  ·exact T.i_Gone_NoTerms
  ·exact T.i_Settled_NoTerms
  ·exact T.i_Standing_NoTerms
 have i3:PySem.W.kitOne K (.ref A) (.ref T.c_NoDeal)=some (decide (n=3)):=by
  rcases hC with ⟨rfl,rfl,_⟩ | ⟨rfl,rfl,_⟩ | ⟨rfl,rfl,_⟩ | ⟨rfl,rfl,_⟩ | ⟨rfl,rfl,_⟩ | ⟨rfl,rfl,_⟩ | ⟨rfl,rfl,_⟩
  ·exact T.i_NoMember_NoDeal
  ·exact T.i_NoTerms_NoDeal
  ·exact T.i_NoDeal_NoDeal
  ·exact T.i_Closed_NoDeal
  ·exact T.i_Gone_NoDeal
  ·exact T.i_Settled_NoDeal
  ·exact T.i_Standing_NoDeal
 have i4:PySem.W.kitOne K (.ref A) (.ref T.c_Closed)=some (decide (n=4)):=by
  rcases hC with ⟨rfl,rfl,_⟩ | ⟨rfl,rfl,_⟩ | ⟨rfl,rfl,_⟩ | ⟨rfl,rfl,_⟩ | ⟨rfl,rfl,_⟩ | ⟨rfl,rfl,_⟩ | ⟨rfl,rfl,_⟩
  ·exact T.i_NoMember_Closed
  ·exact T.i_NoTerms_Closed
  ·exact T.i_NoDeal_Closed
  ·exact T.i_Closed_Closed
  ·exact T.i_Gone_Closed
  ·exact T.i_Settled_Closed
  ·exact T.i_Standing_Closed
 have i5:PySem.W.kitOne K (.ref A) (.ref T.c_Gone)=some (decide (n=5)):=by
  rcases hC with ⟨rfl,rfl,_⟩ | ⟨rfl,rfl,_⟩ | ⟨rfl,rfl,_⟩ | ⟨rfl,rfl,_⟩ | ⟨rfl,rfl,_⟩ | ⟨rfl,rfl,_⟩ | ⟨rfl,rfl,_⟩
  ·exact T.i_NoMember_Gone
  ·exact T.i_NoTerms_Gone
  ·exact T.i_NoDeal_Gone
  ·exact T.i_Closed_Gone
  ·exact T.i_Gone_Gone
  ·exact T.i_Settled_Gone
  ·exact T.i_Standing_Gone
 have i6:PySem.W.kitOne K (.ref A) (.ref T.c_Settled)=some (decide (n=6)):=by
  rcases hC with ⟨rfl,rfl,_⟩ | ⟨rfl,rfl,_⟩ | ⟨rfl,rfl,_⟩ | ⟨rfl,rfl,_⟩ | ⟨rfl,rfl,_⟩ | ⟨rfl,rfl,_⟩ | ⟨rfl,rfl,_⟩
  ·exact T.i_NoMember_Settled
  ·exact T.i_NoTerms_Settled
  ·exact T.i_NoDeal_Settled
  ·exact T.i_Closed_Settled
  ·exact T.i_Gone_Settled
  ·exact T.i_Settled_Settled
  ·exact T.i_Standing_Settled
 have i7:PySem.W.kitOne K (.ref A) (.ref T.c_Standing)=some (decide (n=7)):=by
  rcases hC with ⟨rfl,rfl,_⟩ | ⟨rfl,rfl,_⟩ | ⟨rfl,rfl,_⟩ | ⟨rfl,rfl,_⟩ | ⟨rfl,rfl,_⟩ | ⟨rfl,rfl,_⟩ | ⟨rfl,rfl,_⟩
  ·exact T.i_NoMember_Standing
  ·exact T.i_NoTerms_Standing
  ·exact T.i_NoDeal_Standing
  ·exact T.i_Closed_Standing
  ·exact T.i_Gone_Standing
  ·exact T.i_Settled_Standing
  ·exact T.i_Standing_Standing
 have iv:PySem.W.kitOne K (.ref A) (.type "ValueError")=some true:=by
  rcases hC with ⟨rfl,rfl,_⟩ | ⟨rfl,rfl,_⟩ | ⟨rfl,rfl,_⟩ | ⟨rfl,rfl,_⟩ | ⟨rfl,rfl,_⟩ | ⟨rfl,rfl,_⟩ | ⟨rfl,rfl,_⟩
  ·exact T.i_NoMember_ValueError
  ·exact T.i_NoTerms_ValueError
  ·exact T.i_NoDeal_ValueError
  ·exact T.i_Closed_ValueError
  ·exact T.i_Gone_ValueError
  ·exact T.i_Settled_ValueError
  ·exact T.i_Standing_ValueError
 have ea:errOk K A=true:=by
  rcases hC with ⟨rfl,rfl,_⟩ | ⟨rfl,rfl,_⟩ | ⟨rfl,rfl,_⟩ | ⟨rfl,rfl,_⟩ | ⟨rfl,rfl,_⟩ | ⟨rfl,rfl,_⟩ | ⟨rfl,rfl,_⟩
  ·exact T.e_NoMember
  ·exact T.e_NoTerms
  ·exact T.e_NoDeal
  ·exact T.e_Closed
  ·exact T.e_Gone
  ·exact T.e_Settled
  ·exact T.e_Standing
 have s1:n=1->s=("member" : Str):=fun z=>by
  rcases hC with ⟨_,h1,h2⟩ | ⟨_,h1,h2⟩ | ⟨_,h1,h2⟩ | ⟨_,h1,h2⟩ | ⟨_,h1,h2⟩ | ⟨_,h1,h2⟩ | ⟨_,h1,h2⟩
  ·exact h2
  ·omega
  ·omega
  ·omega
  ·omega
  ·omega
  ·omega
 have s2:n=2->s=("terms" : Str):=fun z=>by
  rcases hC with ⟨_,h1,h2⟩ | ⟨_,h1,h2⟩ | ⟨_,h1,h2⟩ | ⟨_,h1,h2⟩ | ⟨_,h1,h2⟩ | ⟨_,h1,h2⟩ | ⟨_,h1,h2⟩
  ·omega
  ·exact h2
  ·omega
  ·omega
  ·omega
  ·omega
  ·omega
 have s3:n=3->s=("deal" : Str):=fun z=>by
  rcases hC with ⟨_,h1,h2⟩ | ⟨_,h1,h2⟩ | ⟨_,h1,h2⟩ | ⟨_,h1,h2⟩ | ⟨_,h1,h2⟩ | ⟨_,h1,h2⟩ | ⟨_,h1,h2⟩
  ·omega
  ·omega
  ·exact h2
  ·omega
  ·omega
  ·omega
  ·omega
 have s4:n=4->s=("closed" : Str):=fun z=>by
  rcases hC with ⟨_,h1,h2⟩ | ⟨_,h1,h2⟩ | ⟨_,h1,h2⟩ | ⟨_,h1,h2⟩ | ⟨_,h1,h2⟩ | ⟨_,h1,h2⟩ | ⟨_,h1,h2⟩
  ·omega
  ·omega
  ·omega
  ·exact h2
  ·omega
  ·omega
  ·omega
 have s5:n=5->s=("gone" : Str):=fun z=>by
  rcases hC with ⟨_,h1,h2⟩ | ⟨_,h1,h2⟩ | ⟨_,h1,h2⟩ | ⟨_,h1,h2⟩ | ⟨_,h1,h2⟩ | ⟨_,h1,h2⟩ | ⟨_,h1,h2⟩
  ·omega
  ·omega
  ·omega
  ·omega
  ·exact h2
  ·omega
  ·omega
 have s6:n=6->s=("settled" : Str):=fun z=>by
  rcases hC with ⟨_,h1,h2⟩ | ⟨_,h1,h2⟩ | ⟨_,h1,h2⟩ | ⟨_,h1,h2⟩ | ⟨_,h1,h2⟩ | ⟨_,h1,h2⟩ | ⟨_,h1,h2⟩
  ·omega
  ·omega
  ·omega
  ·omega
  ·omega
  ·exact h2
  ·omega
 have s7:n=7->s=("standing" : Str):=fun z=>by
  rcases hC with ⟨_,h1,h2⟩ | ⟨_,h1,h2⟩ | ⟨_,h1,h2⟩ | ⟨_,h1,h2⟩ | ⟨_,h1,h2⟩ | ⟨_,h1,h2⟩ | ⟨_,h1,h2⟩
  ·omega
  ·omega
  ·omega
  ·omega
  ·omega
  ·omega
  ·exact h2
 refine ⟨_,(ze (zL (i:=1) sc__law_name.nd rfl (Or.inl rfl) (zas zc))
 (zbm (zq (show PT _ _ (zb4 K _) from zau (zF (show CallR _ _ (zam K) from za7) rfl T.z_isinstance BT.isinstance (za (pv 0) (za (zr (v:=.ref T.c_NoMember) rfl T.m_NoMember rfl) zc))) (fun _=>rfl))
 (zf (zS (show PE _ _ (tBM K _ _ _ _) from za2 PySem.F.plainAttrs_list PySem.F.slot_list_append PySem.F.type_list_append zT (pv 1) (za zj zc))))
 zk)
 (zbm (zq (show PT _ _ (zb4 K _) from zau (zF (show CallR _ _ (zam K) from za7) rfl T.z_isinstance BT.isinstance (za (pv 0) (za (zr (v:=.ref T.c_NoTerms) rfl T.m_NoTerms rfl) zc))) (fun _=>rfl))
 (zf (zS (show PE _ _ (tBM K _ _ _ _) from za2 PySem.F.plainAttrs_list PySem.F.slot_list_append PySem.F.type_list_append zT (pv 1) (za zj zc))))
 zk)
 (zbm (zq (show PT _ _ (zb4 K _) from zau (zF (show CallR _ _ (zam K) from za7) rfl T.z_isinstance BT.isinstance (za (pv 0) (za (zr (v:=.ref T.c_NoDeal) rfl T.m_NoDeal rfl) zc))) (fun _=>rfl))
 (zf (zS (show PE _ _ (tBM K _ _ _ _) from za2 PySem.F.plainAttrs_list PySem.F.slot_list_append PySem.F.type_list_append zT (pv 1) (za zj zc))))
 zk)
 (zbm (zq (show PT _ _ (zb4 K _) from zau (zF (show CallR _ _ (zam K) from za7) rfl T.z_isinstance BT.isinstance (za (pv 0) (za (zr (v:=.ref T.c_Closed) rfl T.m_Closed rfl) zc))) (fun _=>rfl))
 (zf (zS (show PE _ _ (tBM K _ _ _ _) from za2 PySem.F.plainAttrs_list PySem.F.slot_list_append PySem.F.type_list_append zT (pv 1) (za zj zc))))
 zk)
 (zbm (zq (show PT _ _ (zb4 K _) from zau (zF (show CallR _ _ (zam K) from za7) rfl T.z_isinstance BT.isinstance (za (pv 0) (za (zr (v:=.ref T.c_Gone) rfl T.m_Gone rfl) zc))) (fun _=>rfl))
 (zf (zS (show PE _ _ (tBM K _ _ _ _) from za2 PySem.F.plainAttrs_list PySem.F.slot_list_append PySem.F.type_list_append zT (pv 1) (za zj zc))))
 zk)
 (zbm (zq (show PT _ _ (zb4 K _) from zau (zF (show CallR _ _ (zam K) from za7) rfl T.z_isinstance BT.isinstance (za (pv 0) (za (zr (v:=.ref T.c_Settled) rfl T.m_Settled rfl) zc))) (fun _=>rfl))
 (zf (zS (show PE _ _ (tBM K _ _ _ _) from za2 PySem.F.plainAttrs_list PySem.F.slot_list_append PySem.F.type_list_append zT (pv 1) (za zj zc))))
 zk)
 (zbm (zq (show PT _ _ (zb4 K _) from zau (zF (show CallR _ _ (zam K) from za7) rfl T.z_isinstance BT.isinstance (za (pv 0) (za (zr (v:=.ref T.c_Standing) rfl T.m_Standing rfl) zc))) (fun _=>rfl))
 (zf (zS (show PE _ _ (tBM K _ _ _ _) from za2 PySem.F.plainAttrs_list PySem.F.slot_list_append PySem.F.type_list_append zT (pv 1) (za zj zc))))
 zk)
 (ze (zq (PW.pt (zac (zh (show OpR _ (compareOp .NotEq) (zbD K) from zbG hr.units) (zF (show CallR _ _ (za4 K) from zU) rfl T.z_len BT.len (za (pv 1) zc)) zb (nomark _)) (zaD (zd9 (show PT _ _ (zb4 K _) from zau (zF (show CallR _ _ (zam K) from za7) rfl T.z_isinstance BT.isinstance (za (pv 0) (za (zgl (v:=.ty "ValueError") rfl T.z_ValueError BT.ValueError rfl) zc))) (fun _=>rfl))))))
 (zf (zn zj))
 zk)
 (zf (zn (zg (show IxR _ (rIx K) from zd) (pv 1) zb (fun _ _=>rfl))))))))))))),?_⟩
 refine zI (σ0:=[some (.ref er),none]) rfl ?_
 walk_at "x"
 rename_i fo H1 ffo e1 hfo
 refine zb0 (fun σ' H'=>σ'=[some (.ref er),some (.ref fo)]/\H' fo=some (.lst (if n<=1 then [V.str s] else []))/\Same H H') ?_ ?_
 ·walk_at "x"
  ·rename_i hz
   have hl:H1 fo=some (.lst []):=by first | exact hfo | (rw [hfo,if_neg (by omega)])
   refine za6 hl (by show 0<=100000; decide) fun Hn bn hn=>?_
   exact ⟨rfl,by rw [hn,s1 hz,if_pos (by omega)]; rfl,bn.same e1 ffo⟩
  ·rename_i hz
   exact ⟨rfl,by rw [hfo,if_neg (by omega)],e1⟩
 rintro σ' HG1 ⟨rfl,hg1,eg1⟩
 have he1:=eg1.at he
 refine zb0 (fun σ' H'=>σ'=[some (.ref er),some (.ref fo)]/\H' fo=some (.lst (if n<=2 then [V.str s] else []))/\Same H H') ?_ ?_
 ·walk_at "x"
  ·rename_i hz
   have hl:HG1 fo=some (.lst []):=by first | exact hg1 | (rw [hg1,if_neg (by omega)])
   refine za6 hl (by show 0<=100000; decide) fun Hn bn hn=>?_
   exact ⟨rfl,by rw [hn,s2 hz,if_pos (by omega)]; rfl,bn.same eg1 ffo⟩
  ·rename_i hz
   exact ⟨rfl,by rw [hg1]; congr 2; exact zbB (by omega),eg1⟩
 rintro σ' HG2 ⟨rfl,hg2,eg2⟩
 have he2:=eg2.at he
 refine zb0 (fun σ' H'=>σ'=[some (.ref er),some (.ref fo)]/\H' fo=some (.lst (if n<=3 then [V.str s] else []))/\Same H H') ?_ ?_
 ·walk_at "x"
  ·rename_i hz
   have hl:HG2 fo=some (.lst []):=by first | exact hg2 | (rw [hg2,if_neg (by omega)])
   refine za6 hl (by show 0<=100000; decide) fun Hn bn hn=>?_
   exact ⟨rfl,by rw [hn,s3 hz,if_pos (by omega)]; rfl,bn.same eg2 ffo⟩
  ·rename_i hz
   exact ⟨rfl,by rw [hg2]; congr 2; exact zbB (by omega),eg2⟩
 rintro σ' HG3 ⟨rfl,hg3,eg3⟩
 have he3:=eg3.at he
 refine zb0 (fun σ' H'=>σ'=[some (.ref er),some (.ref fo)]/\H' fo=some (.lst (if n<=4 then [V.str s] else []))/\Same H H') ?_ ?_
 ·walk_at "x"
  ·rename_i hz
   have hl:HG3 fo=some (.lst []):=by first | exact hg3 | (rw [hg3,if_neg (by omega)])
   refine za6 hl (by show 0<=100000; decide) fun Hn bn hn=>?_
   exact ⟨rfl,by rw [hn,s4 hz,if_pos (by omega)]; rfl,bn.same eg3 ffo⟩
  ·rename_i hz
   exact ⟨rfl,by rw [hg3]; congr 2; exact zbB (by omega),eg3⟩
 rintro σ' HG4 ⟨rfl,hg4,eg4⟩
 have he4:=eg4.at he
 refine zb0 (fun σ' H'=>σ'=[some (.ref er),some (.ref fo)]/\H' fo=some (.lst (if n<=5 then [V.str s] else []))/\Same H H') ?_ ?_
 ·walk_at "x"
  ·rename_i hz
   have hl:HG4 fo=some (.lst []):=by first | exact hg4 | (rw [hg4,if_neg (by omega)])
   refine za6 hl (by show 0<=100000; decide) fun Hn bn hn=>?_
   exact ⟨rfl,by rw [hn,s5 hz,if_pos (by omega)]; rfl,bn.same eg4 ffo⟩
  ·rename_i hz
   exact ⟨rfl,by rw [hg4]; congr 2; exact zbB (by omega),eg4⟩
 rintro σ' HG5 ⟨rfl,hg5,eg5⟩
 have he5:=eg5.at he
 refine zb0 (fun σ' H'=>σ'=[some (.ref er),some (.ref fo)]/\H' fo=some (.lst (if n<=6 then [V.str s] else []))/\Same H H') ?_ ?_
 ·walk_at "x"
  ·rename_i hz
   have hl:HG5 fo=some (.lst []):=by first | exact hg5 | (rw [hg5,if_neg (by omega)])
   refine za6 hl (by show 0<=100000; decide) fun Hn bn hn=>?_
   exact ⟨rfl,by rw [hn,s6 hz,if_pos (by omega)]; rfl,bn.same eg5 ffo⟩
  ·rename_i hz
   exact ⟨rfl,by rw [hg5]; congr 2; exact zbB (by omega),eg5⟩
 rintro σ' HG6 ⟨rfl,hg6,eg6⟩
 have he6:=eg6.at he
 refine zb0 (fun σ' H'=>σ'=[some (.ref er),some (.ref fo)]/\H' fo=some (.lst (if n<=7 then [V.str s] else []))/\Same H H') ?_ ?_
 ·walk_at "x"
  ·rename_i hz
   have hl:HG6 fo=some (.lst []):=by first | exact hg6 | (rw [hg6,if_neg (by omega)])
   refine za6 hl (by show 0<=100000; decide) fun Hn bn hn=>?_
   exact ⟨rfl,by rw [hn,s7 hz,if_pos (by omega)]; rfl,bn.same eg6 ffo⟩
  ·rename_i hz
   exact ⟨rfl,by rw [hg6]; congr 2; exact zbB (by omega),eg6⟩
 rintro σ' HG7 ⟨rfl,hg7,eg7⟩
 have he7:=eg7.at he
 rw [if_pos hn.2] at hg7
 walk_at "x"
 all_goals first | (rename_i h; exact absurd rfl h) | exact k _ eg7
theorem zfN (T:Txt K mg):FnOk P w K mg base (CXF P w) 4 T.d__law_done.a T.d__law_done.fd ["_law_book", "_law_deed_here"] (zi0 T.c_Book T.c_NoMember T.c_NoTerms T.c_NoDeal T.c_Closed T.c_Gone T.c_Settled T.c_Standing):=by
 refine T.d__law_done.F.okX zfR (fun vs H Q E h=>?_) (fun cdv A outer s H vs Q E hr h=>?_)
 ·obtain ⟨b,d,l,m,w,y,ts,D,rfl,_⟩:=h; rfl
 obtain ⟨b,d,l,m,w,y,ts,D,rfl,hB,hG,hS,htl,hl,q0,qe⟩:=h
 obtain ⟨⟨dx,hb⟩,xs,hd,hI⟩:=id hB
 have hxl:=hI.length
 have cl_Book:=T.cl_Book
 have r1:("strike" : Str) = "strike" := rfl
 have r2:("change" : Str) = "change" := rfl
 have r3:("break" : Str) = "break" := rfl
 have r4:("all" : Str) = "all" := rfl
 have r5:("contrary" : Str) = "contrary" := rfl
 have a1:¬ ("change" : Str) = "strike" := by decide +kernel
 have b1:¬ ("break" : Str) = "strike" := by decide +kernel
 have b2:¬ ("break" : Str) = "change" := by decide +kernel
 have c1:¬ ("all" : Str) = "strike" := by decide +kernel
 have c2:¬ ("all" : Str) = "change" := by decide +kernel
 have c3:¬ ("all" : Str) = "break" := by decide +kernel
 have d1:¬ ("contrary" : Str) = "strike" := by decide +kernel
 have d2:¬ ("contrary" : Str) = "change" := by decide +kernel
 have d3:¬ ("contrary" : Str) = "break" := by decide +kernel
 have d4:¬ ("contrary" : Str) = "all" := by decide +kernel
 have f1:¬ ("close" : Str) = "strike" := by decide +kernel
 have f2:¬ ("close" : Str) = "change" := by decide +kernel
 have f3:¬ ("close" : Str) = "break" := by decide +kernel
 have f4:¬ ("close" : Str) = "all" := by decide +kernel
 have f5:¬ ("close" : Str) = "contrary" := by decide +kernel
 refine ⟨_,(ze (zq (zh (show OpR _ (compareOp .Eq) (zC K) from zp hr.units) (zg (show IxR _ (rIx K) from zd) (pv 1) zb (fun _ _=>rfl)) zj (nomark _))
 (zf (zn (zV (pv 0) T.cl_Book T.d_Book_strike.mt (zcK T) (hr.mono (by decide)) T.d_Book_strike.b .nil zbj (za (zg (show IxR _ (rIx K) from zd) (pv 1) zb (fun _ _=>rfl)) (za (zg (show IxR _ (rIx K) from zd) (pv 1) zb (fun _ _=>rfl)) (za (zg (show IxR _ (rIx K) from zd) (pv 1) zb (fun _ _=>rfl)) (za (zg (show IxR _ (rIx K) from zd) (pv 1) zb (fun _ _=>rfl)) (za (zg (show IxR _ (rIx K) from zd) (pv 1) zb (fun _ _=>rfl)) (za (zg (show IxR _ (rIx K) from zd) (pv 1) zb (fun _ _=>rfl)) (za (zg (show IxR _ (rIx K) from zd) (pv 1) zb (fun _ _=>rfl)) zc))))))))))
 zk)
 (ze (zq (zh (show OpR _ (compareOp .Eq) (zC K) from zp hr.units) (zg (show IxR _ (rIx K) from zd) (pv 1) zb (fun _ _=>rfl)) zj (nomark _))
 (zf (zn (zV (pv 0) T.cl_Book T.d_Book_change.mt (zex T) (hr.mono (by decide)) T.d_Book_change.b .nil zbj (za (zg (show IxR _ (rIx K) from zd) (pv 1) zb (fun _ _=>rfl)) (za (zg (show IxR _ (rIx K) from zd) (pv 1) zb (fun _ _=>rfl)) (za (zg (show IxR _ (rIx K) from zd) (pv 1) zb (fun _ _=>rfl)) zc))))))
 zk)
 (ze (zq (zh (show OpR _ (compareOp .Eq) (zC K) from zp hr.units) (zg (show IxR _ (rIx K) from zd) (pv 1) zb (fun _ _=>rfl)) zj (nomark _))
 (zf (zn (zV (pv 0) T.cl_Book T.d_Book_break_off.mt (zdI T) (hr.mono (by decide)) T.d_Book_break_off.b .nil zbj (za (zg (show IxR _ (rIx K) from zd) (pv 1) zb (fun _ _=>rfl)) zc))))
 zk)
 (ze (zq (zh (show OpR _ (compareOp .Eq) (zC K) from zp hr.units) (zg (show IxR _ (rIx K) from zd) (pv 1) zb (fun _ _=>rfl)) zj (nomark _))
 (zf (zn (zV (pv 0) T.cl_Book T.d_Book_break_all.mt (zdF T) (hr.mono (by decide)) T.d_Book_break_all.b .nil (zy zx) (za (zg (show IxR _ (rIx K) from zd) (pv 1) zb (fun _ _=>rfl)) zc))))
 zk)
 (ze (zq (zh (show OpR _ (compareOp .Eq) (zC K) from zp hr.units) (zg (show IxR _ (rIx K) from zd) (pv 1) zb (fun _ _=>rfl)) zj (nomark _))
 (zf (zn (zV (pv 0) T.cl_Book T.d_Book_contrary.mt (zdR T) (hr.mono (by decide)) T.d_Book_contrary.b .nil zbj (za (zg (show IxR _ (rIx K) from zd) (pv 1) zb (fun _ _=>rfl)) (za (zg (show IxR _ (rIx K) from zd) (pv 1) zb (fun _ _=>rfl)) zc)))))
 zk)
 (zf (zn (zd5 (pv 0) T.cl_Book T.d_Book_close.mt (zfr T) (hr.mono (by decide)) T.d_Book_close.b .nil (zy zx))))))))),?_⟩
 refine zI (σ0:=[some (.ref b),some (.ref l)]) rfl ?_
 cases D with
 | st t=>
  have hl':H l=some (.lst [.str "strike",.int t.p,.int t.q,.int t.w,.int t.u,.int t.a,.int t.y,.int t.r]):=hl
  walk_at "x"
  have h3:=zj7 m w y t
  refine ⟨b,dx,d,m,w,y,t,xs,rfl,hb,hd,by omega,?_⟩
  obtain h | h | h | h:zR m w y t=0\/zR m w y t=1\/zR m w y t=2\/zR m w y t=3:=by omega
  ·refine .inl ⟨h,fun a H1 H2 e1 ha b2 h2=>?_⟩
   rw [hxl]
   refine q0 (by unfold dW; dsimp only; rw [if_pos h]) _ H2 ⟨⟨dx,b2.ins (e1.at hb)⟩,_,h2,IsTs.app (f:=zad) (b2.tup ha) (LBut.isTs b2 (hI.same e1))⟩ (fun c o n1 n2 z=>b2.1.at (e1.at z) n1) rfl
  ·exact .inr (.inl ⟨h,fun H1 e1=>qe "member" (by unfold dW; dsimp only; rw [if_neg (by omega),h]; rfl) H1 _ 1 e1 (.inl ⟨rfl,rfl,rfl⟩)⟩)
  ·exact .inr (.inr (.inl ⟨h,fun H1 e1=>qe "terms" (by unfold dW; dsimp only; rw [if_neg (by omega),h]; rfl) H1 _ 2 e1 (.inr (.inl ⟨rfl,rfl,rfl⟩))⟩))
  ·exact .inr (.inr (.inr ⟨h,fun H1 e1=>qe "closed" (by unfold dW; dsimp only; rw [if_neg (by omega),h]; rfl) H1 _ 4 e1 (.inr (.inr (.inr (.inl ⟨rfl,rfl,rfl⟩))))⟩))
 | ch n a z=>
  have hl':H l=some (.lst [.str "change",.int n,.int a,.int z]):=hl
  walk_at "x"
  have h5:=zlC y ts n a z
  refine ⟨b,d,m,w,y,n,a,z,ts,rfl,hB,fun t ht=>⟨⟨(hG t ht).w0,(hG t ht).w1⟩,⟨(hG t ht).u0,(hG t ht).u1⟩,(hG t ht).r0,(hG t ht).r1⟩,?_⟩
  obtain h | h | h | h | h | h:chK y ts n a z=0\/chK y ts n a z=1\/chK y ts n a z=2\/chK y ts n a z=3\/chK y ts n a z=4\/chK y ts n a z=5:=by omega
  ·have hr':0<=n/\n < ts.length:=by
    unfold chK at h
    by_cases c:0<=n/\n < ts.length
    ·exact c
    ·rw [if_pos c] at h; cases h
   obtain ⟨t,ht⟩:=zu (show n.toNat < ts.length by omega)
   refine .inl ⟨t,h,ht,hr'.1,fun H1 hB1 g1=>?_⟩
   refine q0 (by unfold dW; dsimp only; rw [if_pos h]) _ H1 ?_ (fun c o n1 n2 z=>g1.at z n1) rfl
   show Bk _ H1 b d m w y (ts.set n.toNat (chg (ts.getD n.toNat t0) a z))
   rw [zak ht]; exact hB1
  ·exact .inr (.inl ⟨h,fun H1 e1=>qe "deal" (by unfold dW; dsimp only; rw [if_neg (by omega),h]; rfl) H1 _ 3 e1 (.inr (.inr (.inl ⟨rfl,rfl,rfl⟩)))⟩)
  ·exact .inr (.inr (.inl ⟨h,fun H1 e1=>qe "gone" (by unfold dW; dsimp only; rw [if_neg (by omega),h]; rfl) H1 _ 5 e1 (.inr (.inr (.inr (.inr (.inl ⟨rfl,rfl,rfl⟩)))))⟩))
  ·exact .inr (.inr (.inr (.inl ⟨h,fun H1 e1=>qe "settled" (by unfold dW; dsimp only; rw [if_neg (by omega),h]; rfl) H1 _ 6 e1 (.inr (.inr (.inr (.inr (.inr (.inl ⟨rfl,rfl,rfl⟩))))))⟩)))
  ·exact .inr (.inr (.inr (.inr (.inl ⟨h,fun H1 e1=>qe "terms" (by unfold dW; dsimp only; rw [if_neg (by omega),h]; rfl) H1 _ 2 e1 (.inr (.inl ⟨rfl,rfl,rfl⟩))⟩))))
  ·exact .inr (.inr (.inr (.inr (.inr ⟨h,fun H1 e1=>qe "closed" (by unfold dW; dsimp only; rw [if_neg (by omega),h]; rfl) H1 _ 4 e1 (.inr (.inr (.inr (.inl ⟨rfl,rfl,rfl⟩))))⟩))))
 | br n=>
  have hl':H l=some (.lst [.str "break",.int n]):=hl
  walk_at "x"
  refine ⟨b,d,m,w,y,n,ts,rfl,hB,?_⟩
  by_cases c:0<=n/\n < ts.length
  ·obtain ⟨t,ht⟩:=zu (show n.toNat < ts.length by omega)
   have hg:=zak ht
   have hnn:=Classical.not_not.mpr c
   by_cases h1:t.2=("broken" : Str)
   ·exact .inr (.inr (.inl ⟨t,c.1,ht,h1,qe "gone" (by unfold dW; dsimp only; rw [show brK ts n=2 by unfold brK; rw [if_neg hnn,hg,if_pos h1]]; rfl) H _ 5 (Same.refl _) (.inr (.inr (.inr (.inr (.inl ⟨rfl,rfl,rfl⟩)))))⟩))
   ·by_cases h2:t.2=("settled" : Str)
    ·exact .inr (.inr (.inr ⟨t,c.1,ht,h2,qe "settled" (by unfold dW; dsimp only; rw [show brK ts n=3 by unfold brK; rw [if_neg hnn,hg,if_neg h1,if_pos h2]]; rfl) H _ 6 (Same.refl _) (.inr (.inr (.inr (.inr (.inr (.inl ⟨rfl,rfl,rfl⟩))))))⟩))
    ·refine .inl ⟨t,c.1,ht,h1,h2,fun H1 hB1 g1=>?_⟩
     refine q0 (by unfold dW; dsimp only; rw [show brK ts n=0 by unfold brK; rw [if_neg hnn,hg,if_neg h1,if_neg h2]]; rfl) _ H1 ?_ (fun c o n1 n2 z=>g1.at z n1) rfl
     show Bk _ H1 b d m w y (ts.set n.toNat ((ts.getD n.toNat t0).1,("broken" : Str)))
     rw [hg]; exact hB1
  ·exact .inr (.inl ⟨c,qe "deal" (by unfold dW; dsimp only; rw [show brK ts n=1 by unfold brK; rw [if_pos c]]; rfl) H _ 3 (Same.refl _) (.inr (.inr (.inl ⟨rfl,rfl,rfl⟩)))⟩)
 | al i=>
  have hl':H l=some (.lst [.str "all",.int i]):=hl
  walk_at "x"
  refine ⟨b,d,m,w,y,i,ts,rfl,hB,by omega,fun p H1 fp hB1 k1 hp=>?_⟩
  exact q0 rfl _ H1 hB1 (fun c o n1 n2 z=>k1 c o n1 z) ⟨p,rfl,fp,hp⟩
 | ct n z=>
  have hl':H l=some (.lst [.str "contrary",.int n,.int z]):=hl
  walk_at "x"
  have h5:=zld y ts n z
  refine ⟨b,d,m,w,y,n,z,ts,rfl,hB,hG,by omega,?_⟩
  obtain h | h | h | h | h | h:ctK y ts n z=0\/ctK y ts n z=1\/ctK y ts n z=2\/ctK y ts n z=3\/ctK y ts n z=4\/ctK y ts n z=5:=by omega
  ·have hr':0<=n/\n < ts.length:=by
    unfold ctK at h
    by_cases c:0<=n/\n < ts.length
    ·exact c
    ·rw [if_pos c] at h; cases h
   obtain ⟨t,ht⟩:=zu (show n.toNat < ts.length by omega)
   refine .inl ⟨t,h,ht,hr'.1,fun H1 hB1 g1=>?_⟩
   refine q0 (by unfold dW; dsimp only; rw [if_pos h]) _ H1 ?_ (fun c o n1 n2 z=>g1.at z n1) rfl
   show Bk _ H1 b d m w y (ts ++ [(swp (ts.getD n.toNat t0) z,("standing" : Str))])
   rw [zak ht]; exact hB1
  ·exact .inr (.inl ⟨h,fun H1 e1=>qe "deal" (by unfold dW; dsimp only; rw [if_neg (by omega),h]; rfl) H1 _ 3 e1 (.inr (.inr (.inl ⟨rfl,rfl,rfl⟩)))⟩)
  ·exact .inr (.inr (.inl ⟨h,fun H1 e1=>qe "gone" (by unfold dW; dsimp only; rw [if_neg (by omega),h]; rfl) H1 _ 5 e1 (.inr (.inr (.inr (.inr (.inl ⟨rfl,rfl,rfl⟩)))))⟩))
  ·exact .inr (.inr (.inr (.inl ⟨h,fun H1 e1=>qe "standing" (by unfold dW; dsimp only; rw [if_neg (by omega),h]; rfl) H1 _ 7 e1 (.inr (.inr (.inr (.inr (.inr (.inr ⟨rfl,rfl,rfl⟩))))))⟩)))
  ·exact .inr (.inr (.inr (.inr (.inl ⟨h,fun H1 e1=>qe "terms" (by unfold dW; dsimp only; rw [if_neg (by omega),h]; rfl) H1 _ 2 e1 (.inr (.inl ⟨rfl,rfl,rfl⟩))⟩))))
  ·exact .inr (.inr (.inr (.inr (.inr ⟨h,fun H1 e1=>qe "closed" (by unfold dW; dsimp only; rw [if_neg (by omega),h]; rfl) H1 _ 4 e1 (.inr (.inr (.inr (.inl ⟨rfl,rfl,rfl⟩))))⟩))))
 | cl=>
  have hl':H l=some (.lst [.str "close"]):=hl
  walk_at "x"
  refine ⟨b,d,m,w,y,ts,rfl,hB,by omega,fun p H1 fp hB1 k1 hp=>?_⟩
  exact q0 rfl _ H1 hB1 (fun c o n1 n2 z=>k1 c o n1 n2 z) ⟨p,rfl,fp,hp⟩
theorem zfs (T:Txt K mg):FnOk P w K mg base (CXF P w) 5 T.d__law_found.a T.d__law_found.fd ["_law_book", "_law_deed_here"] (zhO T.c_Book):=by
 refine T.d__law_found.F.okN sc__law_found (fun vs H Q E h=>?_) (fun cdv A outer s H vs Q E hr h=>?_)
 ·obtain ⟨b,d,l,m,w,y,ts,D,rfl,_⟩:=h; rfl
 obtain ⟨b,d,l,m,w,y,ts,D,rfl,hB,hG,hS,htl,hl,q⟩:=h
 refine ⟨_,(ze (zL (i:=2) sc__law_found.nd rfl (Or.inl rfl) (zQ (za zj (za zb zc))))
 (ze (show PS _ _ (zgY K _ _ _ _) from zkj (i:=3) ⟨rfl,rfl⟩ (ziX (zjJ (i:=2) sc__law_found.nd rfl (Or.inl rfl) (zj9 (ziB zj (zik (zji (zfN T) (hr.mono (by decide)) rfl T.d__law_done.m T.d__law_done.F.kp T.d__law_done.b (za (pv 0) (za (pv 1) zc)))))))) rfl T.m_QuitsError sc__law_found.nd rfl rfl (fun _=>(zf (zL (i:=2) sc__law_found.nd rfl (Or.inl rfl) (zQ (za zj (za (show PE _ _ (zd8 _ [] E0 _) from ziG (zfI T) (Room.mark (hr.mono (j:=1) (by decide)) _) (by rfl) T.d__law_name.m T.d__law_name.F.kp T.d__law_name.b (za (pv 3) zc)) zc)))))))
 (zf (zn (pv 2))))),?_⟩
 refine zI (σ0:=[some (.ref b),some (.ref l),none,none]) rfl ?_
 walk_at "x"
 refine zW (by first | decide | simp) fun t0' H1 ft0 e1 ht0=>?_
 walk_at "x"
 refine ⟨b,d,l,m,w,y,ts,D,rfl,hB.same e1,hG,hS,htl,e1.at hl,fun h0 v H2 hB2 k2 hT=>?_,fun s hs H2 A n e2 hw=>⟨_,rfl,?_⟩⟩
 ·walk_at "x"
  refine zW (by first | decide | simp) fun p H3 fp e3 hp=>?_
  walk_at "x"
  refine q p v "told" H3 ?_ (fun c o n1 n2 z=>e3.at (k2 c o n1 n2 (e1.at z))) hp (.inl ⟨h0,rfl,hT.mono (fun p hp=>Same.none hp e1) fun p xs _ z=>e3.at z⟩)
  unfold nT
  rw [if_pos h0]
  exact hB2.same e3
 ·have hx:PySem.W.exmOne K (.ref A) (.ref T.c_QuitsError)=some true:=by
   rcases hw with ⟨rfl,_⟩ | ⟨rfl,_⟩ | ⟨rfl,_⟩ | ⟨rfl,_⟩ | ⟨rfl,_⟩ | ⟨rfl,_⟩ | ⟨rfl,_⟩
   ·exact T.q_NoMember_QuitsError
   ·exact T.q_NoTerms_QuitsError
   ·exact T.q_NoDeal_QuitsError
   ·exact T.q_Closed_QuitsError
   ·exact T.q_Gone_QuitsError
   ·exact T.q_Settled_QuitsError
   ·exact T.q_Standing_QuitsError
  refine zgp hx fun er H3 f3 e3 h3=>?_
  walk_at "x"
  refine ⟨er,A,n,s,rfl,h3,hw,fun H4 e4=>?_⟩
  walk_at "x"
  refine zW (by first | decide | simp) fun p H5 fp e5 hp=>?_
  walk_at "x"
  have e05:=e1.trans (e2.trans (e3.trans (e4.trans e5)))
  have hne:¬ dW m w y ts D=none:=by rw [hs]; exact fun z=>nomatch z
  refine q p (.str s) "refused" H5 ?_ (fun c o _ _ z=>e05.at z) hp (.inr ⟨s,hs,rfl,rfl⟩)
  rw [zlX m w y ts D hne]
  unfold nT
  rw [if_neg hne]
  exact hB.same e05
theorem zcJ (T:Txt K mg):FnOk P w K mg base (CXF P w) 1 T.d__law_marked.a T.d__law_marked.fd ["_law_rows", "_law_numbers", "_law_state"] zcT:=by
 refine T.d__law_marked.F.okN sc__law_marked (fun vs H Q E h=>?_) (fun cdv A outer s H vs Q E hr h=>?_)
 ·obtain ⟨ro,nl,as,ts,P,st,rfl,_⟩:=h; rfl
 obtain ⟨ro,nl,as,ts,P,st,rfl,hro,hR,hnl,n1,n2,htl,q⟩:=h
 have hal:=hR.2.1
 have nro:ro ∉ as:=hR.neRef hro (fun v hv=>by obtain ⟨a,_,e⟩:=List.mem_map.mp hv; exact ⟨a,e.symm⟩)
 refine ⟨_,(ze (zax PassesOwn.never rfl (show PI _ _ _ (zbh K _) from zaE (pv 1)) (z4 (i:=3) sc__law_marked.nd rfl (Or.inl rfl))
 (zf (zcg (pv 2) (zce (zg (show IxR _ (rIx K) from zd) (pv 0) (pv 3) (fun _ _=>rfl)) zb zbe))))
 (zf (zn (zQ (za zj (za (pv 1) zc)))))),?_⟩
 refine zI (σ0:=[some (.ref ro),some (.ref nl),some (.str st),none]) rfl ?_
 walk_at "x"
 refine zbF (xs:=(zv P ts ts.length).map V.int) (fun i σ' H'=>∃ f3:Option V,σ'=[some (.ref ro),some (.ref nl),some (.str st),f3]/\H' ro=some (.lst (as.map V.ref))/\DRows H' as (zby st ts ((zv P ts ts.length).take i))/\H' nl=some (.lst ((zv P ts ts.length).map V.int))/\zfu ro as H H') ⟨_,rfl,hro,by rw [List.take_zero,zdf]; exact hR,hnl,fun c o _ _ h=>h⟩ ?_ ?_ ?_
 ·rintro i σ' H' _ ⟨_,_,_,_,h,_⟩; exact SqL.of h
 ·rintro i x σ' H' hx ⟨f3,rfl,hro',hR',hnl',hK'⟩
  obtain ⟨n,hn,ex⟩:∃ n,(zv P ts ts.length)[i]?=some n/\x=.int n:=by
   rw [List.getElem?_map] at hx
   cases h:(zv P ts ts.length)[i]? with
   | none=>rw [h] at hx; cases hx
   | some n=>rw [h] at hx; exact ⟨n,rfl,(Option.some.inj hx).symm⟩
  subst ex
  obtain ⟨j,t,hj,rfl,htj,hP⟩:=(zbg (Nat.le_refl _)).mp (List.mem_of_getElem? hn)
  obtain ⟨c,hc⟩:=zu (show j < as.length by omega)
  have hmj:=zbo (s:=st) (S:=(zv P ts ts.length).take i) htj
  obtain ⟨t',ht',e1⟩:∃ t':T7 × Str,(zby st ts ((zv P ts ts.length).take i))[j]?=some t'/\t'.1=t.1:=⟨_,hmj,by split <;> rfl⟩
  have hrow:H' c=some (.lst [.int t'.1.p,.int t'.1.q,.int t'.1.w,.int t'.1.u,.int t'.1.a,.int t'.1.y,.int t'.1.r,.str t'.2]):=hR'.2.2 j c t' hc ht'
  have hat:atI (as.map V.ref) (j:Int)=some (.ref c):=zbA (by rw [List.getElem?_map,hc]; rfl)
  have hcm:=List.mem_of_getElem? hc
  walk_at "x"
  refine zcw hrow (j:=7) rfl fun H2 b2 h2=>?_
  have hR2:=hR'.set (t:=(t'.1,st)) hc b2 h2
  rw [e1,zdj htj,<- zaw hn] at hR2
  exact ⟨_,rfl,b2.lst hro' (fun z=>nro (z ▸ hcm)),hR2,b2.lst hnl' (fun z=>n2 (z ▸ hcm)),fun c' o m1 m2 h=>b2.1.at (hK' c' o m1 m2 h) (fun z=>m2 (z ▸ hcm))⟩
 ·rintro σ' H' ⟨f3,rfl,hro',hR',hnl',hK'⟩
  rw [List.length_map,List.take_length] at hR'
  walk_at "x"
  refine zW (by first | decide | simp) fun p H3 fp e3 hp=>?_
  exact q p H3 (fun c o m1 m2 h=>e3.at (hK' c o m1 m2 h)) (e3.at hro') (hR'.same e3) hp
theorem zcL (T:Txt K mg):FnOk P w K mg base (CXF P w) 1 T.d__law_struck.a T.d__law_struck.fd ["_law_rows", "_law_many", "_law_wares", "_law_today", "_law_terms"] zg3:=by
 refine T.d__law_struck.F.okN zeI (fun vs H Q E h=>?_) (fun cdv A outer s H vs Q E hr h=>?_)
 ·obtain ⟨ro,l,as,m,w,y,ts,t,D,rfl,_⟩:=h; rfl
 obtain ⟨ro,l,as,m,w,y,ts,t,D,rfl,hW,hl,htl,hD,q⟩:=h
 have hro:=hW.ro
 have hal:=hW.R.2.1
 have haml:(as.map V.ref).length=as.length:=List.length_map ..
 have hl':H l=some (.lst [.int t.p,.int t.q,.int t.w,.int t.u,.int t.a,.int t.y,.int t.r]):=hl
 have hdw:dW m w y ts D=(if zR m w y t=0 then none else some (zcU (zR m w y t))):=by
  rcases hD with rfl | ⟨n,z,rfl,e,_⟩
  ·rfl
  ·exact e
 have hdn:dN y ts D=ts ++ [(t,("standing" : Str))]:=by
  rcases hD with rfl | ⟨n,z,rfl,_,e⟩
  ·rfl
  ·show ts ++ [(swp (ts.getD n.toNat t0) z,("standing" : Str))]=_; rw [e]
 have hdt:∀ {Ha Hb:Hp},dT y ts Ha Hb (.int ts.length) D:=fun {Ha Hb}=>by
  rcases hD with rfl | ⟨n,z,rfl,_,e⟩
  ·rfl
  ·rfl
 have no:∀ {k:Nat} {x:Str},zR m w y t=k->k ≠ 0->zcU k=x->∀ r H',Same H H'->H' r=some (.tup [.str "refused",.str x])->Q (.ref r) H':=fun {k x} h1 h2 h3 r H' e hr'=>by
  have hs:dW m w y ts D=some x:=by rw [hdw,h1,if_neg h2,h3]
  have hne:¬ dW m w y ts D=none:=by rw [hs]; exact fun z=>nomatch z
  exact q r H' ⟨as, "refused",.str x,fun c o _ _ z=>e.at z,fun c hc=>.inl hc,e.at hro,by unfold nT; rw [if_neg hne]; exact hW.R.same e,hr',.inr ⟨x,hs,rfl,rfl⟩⟩
 refine ⟨_,(ze (zq (PW.pt (zac (zh zal (zF (zid rfl) rfl T.z_min BT.min (za (zg (show IxR _ (rIx K) from zd) (pv 4) zb (fun _ _=>rfl)) (za (zg (show IxR _ (rIx K) from zd) (pv 4) zb (fun _ _=>rfl)) zc))) zb (nomark _)) (zac (zh zcP (zF (zcz rfl) rfl T.z_max BT.max (za (zg (show IxR _ (rIx K) from zd) (pv 4) zb (fun _ _=>rfl)) (za (zg (show IxR _ (rIx K) from zd) (pv 4) zb (fun _ _=>rfl)) zc))) (pv 1) (nomark _)) (zaD (zh (show OpR _ (compareOp .Eq) (zC K) from zp hr.units) (zg (show IxR _ (rIx K) from zd) (pv 4) zb (fun _ _=>rfl)) (zg (show IxR _ (rIx K) from zd) (pv 4) zb (fun _ _=>rfl)) (nomark _))))))
 (zf (zn (zQ (za zj (za zj zc)))))
 zk)
 (ze (zq (PW.pt (zac (zh zal (zg (show IxR _ (rIx K) from zd) (pv 4) zb (fun _ _=>rfl)) zb (nomark _)) (zac (zh zcP (zg (show IxR _ (rIx K) from zd) (pv 4) zb (fun _ _=>rfl)) (pv 2) (nomark _)) (zac (zh zal (zg (show IxR _ (rIx K) from zd) (pv 4) zb (fun _ _=>rfl)) zb (nomark _)) (zac (zh zcd (zg (show IxR _ (rIx K) from zd) (pv 4) zb (fun _ _=>rfl)) (zm zbl zb zb) (nomark _)) (zac (zh zal (zg (show IxR _ (rIx K) from zd) (pv 4) zb (fun _ _=>rfl)) zb (nomark _)) (zaD (zh zcd (zg (show IxR _ (rIx K) from zd) (pv 4) zb (fun _ _=>rfl)) zb (nomark _)))))))))
 (zf (zn (zQ (za zj (za zj zc)))))
 zk)
 (ze (zq (PW.pt (zac (zh zal (zg (show IxR _ (rIx K) from zd) (pv 4) zb (fun _ _=>rfl)) zb (nomark _)) (zac (zh zcd (zg (show IxR _ (rIx K) from zd) (pv 4) zb (fun _ _=>rfl)) (zm zbl zb zb) (nomark _)) (zac (zh zal (zg (show IxR _ (rIx K) from zd) (pv 4) zb (fun _ _=>rfl)) zb (nomark _)) (zaD (zh zcd (zg (show IxR _ (rIx K) from zd) (pv 4) zb (fun _ _=>rfl)) (zm zbl zb zb) (nomark _)))))))
 (zf (zn (zQ (za zj (za zj zc)))))
 zk)
 (ze (zq (zh zal (zg (show IxR _ (rIx K) from zd) (pv 4) zb (fun _ _=>rfl)) (pv 3) (nomark _))
 (zf (zn (zQ (za zj (za zj zc)))))
 zk)
 (ze (zS (show PE _ _ (tBM K _ _ _ _) from za2 PySem.F.plainAttrs_list PySem.F.slot_list_append PySem.F.type_list_append zT (pv 0) (za (zm (show OpR _ (binaryOp .Add) (zE K) from zt) (zfc (show CallR _ _ (zcN K) from zgU) rfl T.z_list BT.list (za (pv 4) zc)) (zas (za zj zc))) zc)))
 (zf (zn (zQ (za zj (za (zm zaU (zF (show CallR _ _ (za4 K) from zU) rfl T.z_len BT.len (za (pv 0) zc)) zb) zc)))))))))),?_⟩
 refine zI (σ0:=[some (.ref ro),some (.int m),some (.int w),some (.int y),some (.ref l)]) rfl ?_
 by_cases hm:zcR m t.p t.q
 ·obtain ⟨⟨p0,p1⟩,⟨q0,q1⟩,pq⟩:=id hm
  by_cases ht:zbV w t
  ·obtain ⟨⟨w0,w1⟩,⟨u0,u1⟩,⟨a0,a1⟩,⟨y0,y1⟩,r0,r1⟩:=id ht
   walk_at "x"
   all_goals first | (exfalso; omega) | (exfalso; exact absurd trivial (by assumption)) | skip
   ·rename_i hy
    have hk:zR m w y t=3:=by unfold zR; rw [if_neg (Classical.not_not.mpr hm),if_neg (Classical.not_not.mpr ht),if_pos hy]
    refine zW (by first | decide | simp) fun r H1 fr e1 hr1=>?_
    exact no hk (by decide) rfl r H1 e1 hr1
   ·rename_i hy l1 H1 fl1 e1 hl1 l2 H2 fl2 e2 hl2
    have hk:zR m w y t=0:=by unfold zR; rw [if_neg (Classical.not_not.mpr hm),if_neg (Classical.not_not.mpr ht),if_neg hy]
    have hs:dW m w y ts D=none:=by rw [hdw,if_pos hk]
    refine zhT (e2.at hl1) hl2 (by show 8<=100000; decide) fun p H3 fp e3 hp=>?_
    have e03:=e1.trans (e2.trans e3)
    have hro3:=e03.at hro
    have hp':H3 p=some (.lst (zad (t,("standing" : Str)))):=hp
    have nro:ro ∉ as:=hW.R.neRef hro (fun v hv=>by obtain ⟨a,_,e⟩:=List.mem_map.mp hv; exact ⟨a,e.symm⟩)
    have fpH:H p=none:=Same.none fp (e1.trans e2)
    have npa:p ∉ as:=hW.R.fresh fpH
    have npr:p ≠ ro:=zaS fpH hro
    refine zM ?_
    refine za6 hro3 (by omega) fun H4 b4 h4=>?_
    walk_at "x"
    refine zW (by first | decide | simp) fun r H5 fr e5 hr5=>?_
    have hlen:((as.map V.ref ++ [V.ref p]).length:Int) - 1=ts.length:=by
     rw [List.length_append,haml,hal]; show ((ts.length + 1:Nat):Int) - 1=_; omega
    rw [hlen] at hr5
    refine q r H5 ⟨as ++ [p], "told",.int ts.length,fun c o n1 n2 z=>e5.at (b4.1.at (e03.at z) n1),fun c hc=>(List.mem_append.mp hc).imp id fun z=>by rw [List.mem_singleton.mp z]; exact fpH,by rw [List.map_append]; exact e5.at h4,?_,hr5,.inl ⟨hs,rfl,hdt⟩⟩
    unfold nT
    rw [if_pos hs,hdn]
    exact (DRows.app ((hW.R.same e03).keep fun a o ha z=>b4.1.at z (fun q=>nro (q ▸ ha))) npa (b4.lst hp' npr)).same e5
  ·have hk:zR m w y t=2:=by unfold zR; rw [if_neg (Classical.not_not.mpr hm),if_pos ht]
   have nt:¬ ((0<=t.w/\t.w < w)/\(1<=t.u/\t.u<=1000000)/\(1<=t.a/\t.a<=1000000000)/\(0<=t.y/\t.y<=1000000)/\(0<=t.r/\t.r<=2)):=ht
   have p6:(10:Int) ^ (6:Int).toNat=1000000:=rfl
   have p9:(10:Int) ^ (9:Int).toNat=1000000000:=rfl
   walk_at "x"
   all_goals first | (exfalso; omega) | (exfalso; exact absurd trivial (by assumption)) | skip
   all_goals
    refine zW (by first | decide | simp) fun r H1 fr e1 hr1=>?_
    exact no hk (by decide) rfl r H1 e1 hr1
 ·have hk:zR m w y t=1:=by unfold zR; rw [if_pos hm]
  have nm:¬ ((0<=t.p/\t.p < m)/\(0<=t.q/\t.q < m)/\t.p ≠ t.q):=hm
  walk_at "x"
  all_goals first | (exfalso; omega) | (exfalso; exact absurd trivial (by assumption)) | skip
  all_goals
   refine zW (by first | decide | simp) fun r H1 fr e1 hr1=>?_
   exact no hk (by decide) rfl r H1 e1 hr1
theorem zeA (T:Txt K mg):FnOk P w K mg base (CXF P w) 1 T.d__law_turned.a T.d__law_turned.fd ["_law_rows", "_law_today", "_law_deed_here"] zgS:=by
 refine T.d__law_turned.F.okN sc__law_turned (fun vs H Q E h=>?_) (fun cdv A outer s H vs Q E hr h=>?_)
 ·obtain ⟨ro,l,as,m,w,y,ts,D,rfl,_⟩:=h; rfl
 obtain ⟨ro,l,as,m,w,y,ts,D,rfl,hW,hl,htl,hD,q⟩:=h
 have hro:=hW.ro
 have hal:=hW.R.2.1
 have haml:(as.map V.ref).length=as.length:=List.length_map ..
 have nro:ro ∉ as:=hW.R.neRef hro (fun v hv=>by obtain ⟨a,_,e⟩:=List.mem_map.mp hv; exact ⟨a,e.symm⟩)
 have no:∀ {x:Str},dW m w y ts D=some x->∀ r H',Same H H'->H' r=some (.tup [.str "refused",.str x])->Q (.ref r) H':=fun {x} hs r H' e hr'=>by
  have hne:¬ dW m w y ts D=none:=by rw [hs]; exact fun z=>nomatch z
  exact q r H' ⟨as, "refused",.str x,fun c o _ _ z=>e.at z,fun c hc=>.inl hc,e.at hro,by unfold nT; rw [if_neg hne]; exact hW.R.same e,hr',.inr ⟨x,hs,rfl,rfl⟩⟩
 have yes:dW m w y ts D=none->∀ r H1 H2,zfu ro as H H1->H1 ro=some (.lst (as.map V.ref))->DRows H1 as (dN y ts D)->Same H1 H2->H2 r=some (.tup [.str "told",.non])->Q (.ref r) H2:=fun hs r H1 H2 k1 h1 h2 e hr'=>by
  refine q r H2 ⟨as, "told",.non,fun c o n1 n2 z=>e.at (k1 c o n1 n2 z),fun c hc=>.inl hc,e.at h1,by unfold nT; rw [if_pos hs]; exact h2.same e,hr',.inl ⟨hs,rfl,?_⟩⟩
  rcases hD with ⟨n,a,z,rfl⟩ | ⟨n,rfl⟩
  ·rfl
  ·rfl
 have rb:("break" : Str) = "break" := rfl
 have nb:¬ ("change" : Str) = "break" := by decide +kernel
 refine ⟨_,(ze (zq (PW.pt (zac (zh zal (zg (show IxR _ (rIx K) from zd) (pv 2) zb (fun _ _=>rfl)) zb (nomark _)) (zaD (zh zcP (zg (show IxR _ (rIx K) from zd) (pv 2) zb (fun _ _=>rfl)) (zF (show CallR _ _ (za4 K) from zU) rfl T.z_len BT.len (za (pv 0) zc)) (nomark _)))))
 (zf (zn (zQ (za zj (za zj zc)))))
 zk)
 (ze (zL (i:=3) sc__law_turned.nd rfl (Or.inl rfl) (zg (show IxR _ (rIx K) from zd) (pv 0) (zg (show IxR _ (rIx K) from zd) (pv 2) zb (fun _ _=>rfl)) (fun _ _=>rfl)))
 (ze (zq (zh (show OpR _ (compareOp .Eq) (zC K) from zp hr.units) (zg (show IxR _ (rIx K) from zd) (pv 3) zb (fun _ _=>rfl)) zj (nomark _))
 (zf (zn (zQ (za zj (za zj zc)))))
 zk)
 (ze (zq (zh (show OpR _ (compareOp .Eq) (zC K) from zp hr.units) (zg (show IxR _ (rIx K) from zd) (pv 3) zb (fun _ _=>rfl)) zj (nomark _))
 (zf (zn (zQ (za zj (za zj zc)))))
 zk)
 (ze (zq (zh (show OpR _ (compareOp .Eq) (zC K) from zp hr.units) (zg (show IxR _ (rIx K) from zd) (pv 2) zb (fun _ _=>rfl)) zj (nomark _))
 (ze (zcg zj (zce (pv 3) zb zbe))
 (zf (zn (zQ (za zj (za zhn zc))))))
 zk)
 (ze (zq (PW.pt (zac (zh zal (zg (show IxR _ (rIx K) from zd) (pv 2) zb (fun _ _=>rfl)) zb (nomark _)) (zac (zh zcd (zg (show IxR _ (rIx K) from zd) (pv 2) zb (fun _ _=>rfl)) (zm zbl zb zb) (nomark _)) (zac (zh zal (zg (show IxR _ (rIx K) from zd) (pv 2) zb (fun _ _=>rfl)) zb (nomark _)) (zaD (zh zcd (zg (show IxR _ (rIx K) from zd) (pv 2) zb (fun _ _=>rfl)) (zm zbl zb zb) (nomark _)))))))
 (zf (zn (zQ (za zj (za zj zc)))))
 zk)
 (ze (zq (zh zal (zg (show IxR _ (rIx K) from zd) (pv 2) zb (fun _ _=>rfl)) (pv 1) (nomark _))
 (zf (zn (zQ (za zj (za zj zc)))))
 zk)
 (ze (zcg (zg (show IxR _ (rIx K) from zd) (pv 2) zb (fun _ _=>rfl)) (zce (pv 3) zb zbe))
 (ze (zcg (zg (show IxR _ (rIx K) from zd) (pv 2) zb (fun _ _=>rfl)) (zce (pv 3) zb zbe))
 (zf (zn (zQ (za zj (za zhn zc)))))))))))))),?_⟩
 refine zI (σ0:=[some (.ref ro),some (.int y),some (.ref l),none]) rfl ?_
 rcases hD with ⟨n,a,z,rfl⟩ | ⟨n,rfl⟩
 ·have hl':H l=some (.lst [.str "change",.int n,.int a,.int z]):=hl
  by_cases c:0<=n/\n < ts.length
  ·obtain ⟨c0,c1⟩:=c
   have hnn:=Classical.not_not.mpr (show 0<=n/\n < ts.length from ⟨c0,c1⟩)
   obtain ⟨t,ht⟩:=zu (show n.toNat < ts.length by omega)
   obtain ⟨cc,hc⟩:=zu (show n.toNat < as.length by omega)
   have hg:=zak ht
   have hrow:H cc=some (.lst [.int t.1.p,.int t.1.q,.int t.1.w,.int t.1.u,.int t.1.a,.int t.1.y,.int t.1.r,.str t.2]):=hW.R.2.2 _ cc t hc ht
   have hat:atI (as.map V.ref) n=some (.ref cc):=zbE c0 (by rw [List.getElem?_map,hc]; rfl)
   have hcm:=List.mem_of_getElem? hc
   have p6:(10:Int) ^ (6:Int).toNat=1000000:=rfl
   have p9:(10:Int) ^ (9:Int).toNat=1000000000:=rfl
   have nlc:l ≠ cc:=fun z=>by rw [z,hrow] at hl'; cases hl'
   by_cases hb:t.2=("broken" : Str)
   ·have hk:chK y ts n a z=2:=by unfold chK; rw [if_neg hnn,hg,if_pos hb]
    walk_at "x"
    all_goals first | (exfalso; omega) | (exfalso; exact absurd trivial (by assumption)) | skip
    all_goals
     refine zW (by first | decide | simp) fun r H1 fr e1 hr1=>?_
     exact no (by unfold dW; dsimp only; rw [hk]; rfl) r H1 e1 hr1
   by_cases hs:t.2=("settled" : Str)
   ·have hk:chK y ts n a z=3:=by unfold chK; rw [if_neg hnn,hg,if_neg hb,if_pos hs]
    walk_at "x"
    all_goals first | (exfalso; omega) | (exfalso; exact absurd trivial (by assumption)) | skip
    all_goals
     refine zW (by first | decide | simp) fun r H1 fr e1 hr1=>?_
     exact no (by unfold dW; dsimp only; rw [hk]; rfl) r H1 e1 hr1
   by_cases hT:(1<=a/\a<=1000000000)/\(0<=z/\z<=1000000)
   case neg=>
    have hk:chK y ts n a z=4:=by unfold chK; rw [if_neg hnn,hg,if_neg hb,if_neg hs,if_pos hT]
    walk_at "x"
    all_goals first | (exfalso; omega) | (exfalso; exact absurd trivial (by assumption)) | skip
    all_goals
     refine zW (by first | decide | simp) fun r H1 fr e1 hr1=>?_
     exact no (by unfold dW; dsimp only; rw [hk]; rfl) r H1 e1 hr1
   obtain ⟨⟨a0,a1⟩,z0,z1⟩:=id hT
   by_cases hy:z < y
   ·have hk:chK y ts n a z=5:=by unfold chK; rw [if_neg hnn,hg,if_neg hb,if_neg hs,if_neg (Classical.not_not.mpr hT),if_pos hy]
    walk_at "x"
    all_goals first | (exfalso; omega) | (exfalso; exact absurd trivial (by assumption)) | skip
    all_goals
     refine zW (by first | decide | simp) fun r H1 fr e1 hr1=>?_
     exact no (by unfold dW; dsimp only; rw [hk]; rfl) r H1 e1 hr1
   have hk:chK y ts n a z=0:=by unfold chK; rw [if_neg hnn,hg,if_neg hb,if_neg hs,if_neg (Classical.not_not.mpr hT),if_neg hy]
   walk_at "x"
   all_goals first | (exfalso; omega) | (exfalso; exact absurd trivial (by assumption)) | skip
   show zcy (V.ref cc) (V.int 4) (V.int a) H _
   refine zcw hrow (j:=4) rfl fun H1 b1 h1=>?_
   have hl1:=b1.lst hl' nlc
   walk_at "x"
   show zcy (V.ref cc) (V.int 5) (V.int z) H1 _
   refine zcw h1 (j:=5) rfl fun H2 b2 h2=>?_
   walk_at "x"
   refine zW (by first | decide | simp) fun r H3 fr e3 hr3=>?_
   have nrc:ro ≠ cc:=fun z=>nro (z ▸ hcm)
   have hR2:=(hW.R.set (t:=({ t.1 with a:=a },t.2)) hc b1 h1).set (t:=chg t a z) hc b2 h2
   rw [List.set_set] at hR2
   refine yes (by unfold dW; dsimp only; rw [hk]; rfl) r H2 H3 (fun c o n1 n2 h=>b2.1.at (b1.1.at h (fun z=>n2 (z ▸ hcm))) (fun z=>n2 (z ▸ hcm))) (b2.lst (b1.lst hro nrc) nrc) ?_ e3 hr3
   show DRows H2 as (ts.set n.toNat (chg (ts.getD n.toNat t0) a z))
   rw [hg]; exact hR2
  ·have hk:chK y ts n a z=1:=by unfold chK; rw [if_pos c]
   walk_at "x"
   all_goals first | (exfalso; omega) | skip
   all_goals
    refine zW (by first | decide | simp) fun r H1 fr e1 hr1=>?_
    exact no (by unfold dW; dsimp only; rw [hk]; rfl) r H1 e1 hr1
 ·have hl':H l=some (.lst [.str "break",.int n]):=hl
  by_cases c:0<=n/\n < ts.length
  ·obtain ⟨c0,c1⟩:=c
   have hnn:=Classical.not_not.mpr (show 0<=n/\n < ts.length from ⟨c0,c1⟩)
   obtain ⟨t,ht⟩:=zu (show n.toNat < ts.length by omega)
   obtain ⟨cc,hc⟩:=zu (show n.toNat < as.length by omega)
   have hg:=zak ht
   have hrow:H cc=some (.lst [.int t.1.p,.int t.1.q,.int t.1.w,.int t.1.u,.int t.1.a,.int t.1.y,.int t.1.r,.str t.2]):=hW.R.2.2 _ cc t hc ht
   have hat:atI (as.map V.ref) n=some (.ref cc):=zbE c0 (by rw [List.getElem?_map,hc]; rfl)
   have hcm:=List.mem_of_getElem? hc
   by_cases hb:t.2=("broken" : Str)
   ·have hk:brK ts n=2:=by unfold brK; rw [if_neg hnn,hg,if_pos hb]
    walk_at "x"
    all_goals first | (exfalso; omega) | (exfalso; exact absurd trivial (by assumption)) | skip
    all_goals
     refine zW (by first | decide | simp) fun r H1 fr e1 hr1=>?_
     exact no (by unfold dW; dsimp only; rw [hk]; rfl) r H1 e1 hr1
   by_cases hs:t.2=("settled" : Str)
   ·have hk:brK ts n=3:=by unfold brK; rw [if_neg hnn,hg,if_neg hb,if_pos hs]
    walk_at "x"
    all_goals first | (exfalso; omega) | (exfalso; exact absurd trivial (by assumption)) | skip
    all_goals
     refine zW (by first | decide | simp) fun r H1 fr e1 hr1=>?_
     exact no (by unfold dW; dsimp only; rw [hk]; rfl) r H1 e1 hr1
   have hk:brK ts n=0:=by unfold brK; rw [if_neg hnn,hg,if_neg hb,if_neg hs]
   walk_at "x"
   all_goals first | (exfalso; omega) | (exfalso; exact absurd trivial (by assumption)) | skip
   show zcy (V.ref cc) (V.int 7) (V.str "broken") H _
   refine zcw hrow (j:=7) rfl fun H1 b1 h1=>?_
   walk_at "x"
   refine zW (by first | decide | simp) fun r H3 fr e3 hr3=>?_
   have nrc:ro ≠ cc:=fun z=>nro (z ▸ hcm)
   have hR2:=hW.R.set (t:=(t.1,("broken" : Str))) hc b1 h1
   refine yes (by unfold dW; dsimp only; rw [hk]; rfl) r H1 H3 (fun c o n1 n2 h=>b1.1.at h (fun z=>n2 (z ▸ hcm))) (b1.lst hro nrc) ?_ e3 hr3
   show DRows H1 as (ts.set n.toNat ((ts.getD n.toNat t0).1,("broken" : Str)))
   rw [hg]; exact hR2
  ·have hk:brK ts n=1:=by unfold brK; rw [if_pos c]
   walk_at "x"
   all_goals first | (exfalso; omega) | skip
   all_goals
    refine zW (by first | decide | simp) fun r H1 fr e1 hr1=>?_
    exact no (by unfold dW; dsimp only; rw [hk]; rfl) r H1 e1 hr1
theorem zdH (T:Txt K mg):FnOk P w K mg base (CXF P w) 2 T.d__law_set_right.a T.d__law_set_right.fd ["_law_rows", "_law_many", "_law_wares", "_law_today", "_law_deed_here"] zfY:=by
 refine T.d__law_set_right.F.okN sc__law_set_right (fun vs H Q E h=>?_) (fun cdv A outer s H vs Q E hr h=>?_)
 ·obtain ⟨ro,l,as,m,w,y,ts,n,z,rfl,_⟩:=h; rfl
 obtain ⟨ro,l,as,m,w,y,ts,n,z,rfl,hW,hl,htl,q⟩:=h
 have hro:=hW.ro
 have hal:=hW.R.2.1
 have haml:(as.map V.ref).length=as.length:=List.length_map ..
 have no:∀ {x:Str},dW m w y ts (.ct n z)=some x->∀ r H',Same H H'->H' r=some (.tup [.str "refused",.str x])->Q (.ref r) H':=fun {x} hs r H' e hr'=>by
  have hne:¬ dW m w y ts (.ct n z)=none:=by rw [hs]; exact fun z=>nomatch z
  exact q r H' ⟨as, "refused",.str x,fun c o _ _ z=>e.at z,fun c hc=>.inl hc,e.at hro,by unfold nT; rw [if_neg hne]; exact hW.R.same e,hr',.inr ⟨x,hs,rfl,rfl⟩⟩
 have hl':H l=some (.lst [.str "contrary",.int n,.int z]):=hl
 refine ⟨_,(ze (zq (PW.pt (zac (zh zal (zg (show IxR _ (rIx K) from zd) (pv 4) zb (fun _ _=>rfl)) zb (nomark _)) (zaD (zh zcP (zg (show IxR _ (rIx K) from zd) (pv 4) zb (fun _ _=>rfl)) (zF (show CallR _ _ (za4 K) from zU) rfl T.z_len BT.len (za (pv 0) zc)) (nomark _)))))
 (zf (zn (zQ (za zj (za zj zc)))))
 zk)
 (ze (zL (i:=5) sc__law_set_right.nd rfl (Or.inl rfl) (zg (show IxR _ (rIx K) from zd) (pv 0) (zg (show IxR _ (rIx K) from zd) (pv 4) zb (fun _ _=>rfl)) (fun _ _=>rfl)))
 (ze (zq (zh (show OpR _ (compareOp .Eq) (zC K) from zp hr.units) (zg (show IxR _ (rIx K) from zd) (pv 5) zb (fun _ _=>rfl)) zj (nomark _))
 (zf (zn (zQ (za zj (za zj zc)))))
 zk)
 (ze (zq (zh (show OpR _ (compareOp .Eq) (zC K) from zp hr.units) (zg (show IxR _ (rIx K) from zd) (pv 5) zb (fun _ _=>rfl)) zj (nomark _))
 (zf (zn (zQ (za zj (za zj zc)))))
 zk)
 (zf (zn (zw (zcL T) (hr.mono (by decide)) rfl T.d__law_struck.m T.d__law_struck.F.kp T.d__law_struck.b .nil (zy zx) (za (pv 0) (za (pv 1) (za (pv 2) (za (pv 3) (za (zas (za (zg (show IxR _ (rIx K) from zd) (pv 5) zb (fun _ _=>rfl)) (za (zg (show IxR _ (rIx K) from zd) (pv 5) zb (fun _ _=>rfl)) (za (zg (show IxR _ (rIx K) from zd) (pv 5) zb (fun _ _=>rfl)) (za (zg (show IxR _ (rIx K) from zd) (pv 5) zb (fun _ _=>rfl)) (za (zg (show IxR _ (rIx K) from zd) (pv 5) zb (fun _ _=>rfl)) (za (zg (show IxR _ (rIx K) from zd) (pv 4) zb (fun _ _=>rfl)) (za (zg (show IxR _ (rIx K) from zd) (pv 5) zb (fun _ _=>rfl)) zc)))))))) zc)))))))))))),?_⟩
 refine zI (σ0:=[some (.ref ro),some (.int m),some (.int w),some (.int y),some (.ref l),none]) rfl ?_
 by_cases c:0<=n/\n < ts.length
 ·obtain ⟨c0,c1⟩:=c
  have hnn:=Classical.not_not.mpr (show 0<=n/\n < ts.length from ⟨c0,c1⟩)
  obtain ⟨t,ht⟩:=zu (show n.toNat < ts.length by omega)
  obtain ⟨cc,hc⟩:=zu (show n.toNat < as.length by omega)
  have hg:=zak ht
  have hrow:H cc=some (.lst [.int t.1.p,.int t.1.q,.int t.1.w,.int t.1.u,.int t.1.a,.int t.1.y,.int t.1.r,.str t.2]):=hW.R.2.2 _ cc t hc ht
  have hat:atI (as.map V.ref) n=some (.ref cc):=zbE c0 (by rw [List.getElem?_map,hc]; rfl)
  have hG:=hW.g t (List.mem_of_getElem? ht)
  by_cases hb:t.2=("broken" : Str)
  ·have hk:ctK y ts n z=2:=by unfold ctK; rw [if_neg hnn,hg,if_pos hb]
   walk_at "x"
   all_goals first | (exfalso; omega) | (exfalso; exact absurd trivial (by assumption)) | skip
   all_goals
    refine zW (by first | decide | simp) fun r H1 fr e1 hr1=>?_
    exact no (by unfold dW; dsimp only; rw [hk]; rfl) r H1 e1 hr1
  by_cases hs:t.2=("standing" : Str)
  ·have hk:ctK y ts n z=3:=by unfold ctK; rw [if_neg hnn,hg,if_neg hb,if_pos hs]
   walk_at "x"
   all_goals first | (exfalso; omega) | (exfalso; exact absurd trivial (by assumption)) | skip
   all_goals
    refine zW (by first | decide | simp) fun r H1 fr e1 hr1=>?_
    exact no (by unfold dW; dsimp only; rw [hk]; rfl) r H1 e1 hr1
  walk_at "x"
  all_goals first | (exfalso; omega) | (exfalso; exact absurd trivial (by assumption)) | skip
  rename_i g1 g2 l2 H1 fl2 e1 hl2
  refine zM ?_
  have hM:=zgj (z:=z) hG
  have hdw:dW m w y ts (.ct n z)=(if zR m w y (swp t z)=0 then none else some (zcU (zR m w y (swp t z)))):=by
   unfold dW ctK zR
   dsimp only
   rw [if_neg hnn,hg,if_neg hb,if_neg hs,if_neg (Classical.not_not.mpr hM)]
   by_cases hz:0<=z/\z<=1000000
   ·have hT:=zgq hG hz
    rw [if_neg (Classical.not_not.mpr hz),if_neg (Classical.not_not.mpr hT)]
    by_cases hy:z < y
    ·rw [if_pos hy,if_pos (show (swp t z).y < y from hy)]; rfl
    ·rw [if_neg hy,if_neg (show ¬ (swp t z).y < y from hy)]; rfl
   ·have hT:¬ zbV w (swp t z):=fun q=>hz q.2.2.2.1
    rw [if_pos hz,if_pos hT]; rfl
  refine ⟨ro,l2,as,m,w,y,ts,swp t z,.ct n z,rfl,⟨e1.at hro,hW.R.same e1,hW.s,hW.g⟩,hl2,htl,.inr ⟨n,z,rfl,hdw,by rw [hg]⟩,fun r H2 hd=>?_⟩
  obtain ⟨as',s,v,k1,k2,k3,k4,k5,k6⟩:=hd
  exact q r H2 ⟨as',s,v,fun c o n1 n2 h=>k1 c o n1 n2 (e1.at h),fun c hc=>(k2 c hc).imp id fun h=>Same.none h e1,k3,k4,k5,k6.mono (fun p hp=>Same.none hp e1) fun p xs _ h=>h⟩
 ·have hk:ctK y ts n z=1:=by unfold ctK; rw [if_pos c]
  walk_at "x"
  all_goals first | (exfalso; omega) | skip
  all_goals
   refine zW (by first | decide | simp) fun r H1 fr e1 hr1=>?_
   exact no (by unfold dW; dsimp only; rw [hk]; rfl) r H1 e1 hr1
theorem zf8 (T:Txt K mg):FnOk P w K mg base (CXF P w) 3 T.d__law_due.a T.d__law_due.fd ["_law_rows", "_law_many", "_law_wares", "_law_today", "_law_deed_here"] zkp:=by
 refine T.d__law_due.F.okN sc__law_due (fun vs H Q E h=>?_) (fun cdv A outer s H vs Q E hr h=>?_)
 ·obtain ⟨ro,l,as,m,w,y,ts,D,rfl,_⟩:=h; rfl
 obtain ⟨ro,l,as,m,w,y,ts,D,rfl,hW,hl,htl,q⟩:=h
 have hro:=hW.ro
 have hal:=hW.R.2.1
 have haml:(as.map V.ref).length=as.length:=List.length_map ..
 have r1:("strike" : Str) = "strike" := rfl
 have r2:("change" : Str) = "change" := rfl
 have r3:("break" : Str) = "break" := rfl
 have r4:("all" : Str) = "all" := rfl
 have r5:("contrary" : Str) = "contrary" := rfl
 have a1:¬ ("change" : Str) = "strike" := by decide +kernel
 have b1:¬ ("break" : Str) = "strike" := by decide +kernel
 have b2:¬ ("break" : Str) = "change" := by decide +kernel
 have c1:¬ ("all" : Str) = "strike" := by decide +kernel
 have c2:¬ ("all" : Str) = "change" := by decide +kernel
 have c3:¬ ("all" : Str) = "break" := by decide +kernel
 have c4:¬ ("all" : Str) = "contrary" := by decide +kernel
 have d1:¬ ("contrary" : Str) = "strike" := by decide +kernel
 have d2:¬ ("contrary" : Str) = "change" := by decide +kernel
 have d3:¬ ("contrary" : Str) = "break" := by decide +kernel
 have f1:¬ ("close" : Str) = "strike" := by decide +kernel
 have f2:¬ ("close" : Str) = "change" := by decide +kernel
 have f3:¬ ("close" : Str) = "break" := by decide +kernel
 have f4:¬ ("close" : Str) = "all" := by decide +kernel
 have f5:¬ ("close" : Str) = "contrary" := by decide +kernel
 have lift:∀ {H1 H2:Hp} {r:Addr},Same H H1->zeR m w y ts ro as D H1 H2 r->Q (.ref r) H2:=fun {H1 H2 r} e1 hd=>by
  obtain ⟨as',s,v,k1,k2,k3,k4,k5,k6⟩:=hd
  exact q r H2 ⟨as',s,v,fun c o n1 n2 h=>k1 c o n1 n2 (e1.at h),fun c hc=>(k2 c hc).imp id fun h=>Same.none h e1,k3,k4,k5,k6.mono (fun p hp=>Same.none hp e1) fun p xs _ h=>h⟩
 obtain ⟨stP,hstP⟩:∃ f:T7 × Str->Bool,f=fun t=>decide (t.2=("standing" : Str)):=⟨_,rfl⟩
 refine ⟨_,(ze (zco (i:=5) sc__law_due.nd rfl rfl rfl (zbp rfl T.z_range (za (zF (show CallR _ _ (za4 K) from zU) rfl T.z_len BT.len (za (pv 0) zc)) zc)) (zae (Ni:=["_law_k", "_law_rows"]) (caps:=[none,some 0]) (by rfl)) (fun S _ _ _ _ _=>(zaz (gi:=0) S (Or.inl rfl) rfl)) (fun _ _ _ _ _=>(zcv (zh (show OpR _ (compareOp .Eq) (zC K) from zp hr.units) (zg (show IxR _ (rIx K) from zd) (zg (show IxR _ (rIx K) from zd) (pv 1) (pv 0) (fun _ _=>rfl)) zb (fun _ _=>rfl)) zj (nomark _)))) (fun _ _ _ _ _=>(pv 0)))
 (ze (zq (zh (show OpR _ (compareOp .Eq) (zC K) from zp hr.units) (zg (show IxR _ (rIx K) from zd) (pv 4) zb (fun _ _=>rfl)) zj (nomark _))
 (zf (zn (zw (zcL T) (hr.mono (by decide)) rfl T.d__law_struck.m T.d__law_struck.F.kp T.d__law_struck.b .nil (zy zx) (za (pv 0) (za (pv 1) (za (pv 2) (za (pv 3) (za (zbO (show SlR _ (zdZ K) from zeP) (pv 4) (zca zb) zb5) zc))))))))
 zk)
 (ze (zq (PW.pt (zac (zh (show OpR _ (compareOp .Eq) (zC K) from zp hr.units) (zg (show IxR _ (rIx K) from zd) (pv 4) zb (fun _ _=>rfl)) zj (nomark _)) (zaD (zh (show OpR _ (compareOp .Eq) (zC K) from zp hr.units) (zg (show IxR _ (rIx K) from zd) (pv 4) zb (fun _ _=>rfl)) zj (nomark _)))))
 (zf (zn (zw (zeA T) (hr.mono (by decide)) rfl T.d__law_turned.m T.d__law_turned.F.kp T.d__law_turned.b .nil (zy zx) (za (pv 0) (za (pv 3) (za (pv 4) zc))))))
 zk)
 (ze (zq (zh (show OpR _ (compareOp .Eq) (zC K) from zp hr.units) (zg (show IxR _ (rIx K) from zd) (pv 4) zb (fun _ _=>rfl)) zj (nomark _))
 (zf (zn (zw (zdH T) (hr.mono (by decide)) rfl T.d__law_set_right.m T.d__law_set_right.F.kp T.d__law_set_right.b .nil (zy zx) (za (pv 0) (za (pv 1) (za (pv 2) (za (pv 3) (za (pv 4) zc))))))))
 zk)
 (ze (zq (zh (show OpR _ (compareOp .Eq) (zC K) from zp hr.units) (zg (show IxR _ (rIx K) from zd) (pv 4) zb (fun _ _=>rfl)) zj (nomark _))
 (zf (zn (zw (zcJ T) (hr.mono (by decide)) rfl T.d__law_marked.m T.d__law_marked.F.kp T.d__law_marked.b .nil (zy zx) (za (pv 0) (za (zdC rfl (show PI _ _ _ (zbh K _) from zaE (pv 5)) (zae (Ni:=["_law_k", "_law_deed_here", "_law_rows"]) (caps:=[none,some 4,some 0]) (by rfl)) (fun S _ _ _ _ _=>(zaz (gi:=0) S (Or.inl rfl) rfl)) (fun _ _ _ _ _=>(zcv (zh (show OpR _ (compareOp .In) (rIn K false) from ze9) (zg (show IxR _ (rIx K) from zd) (pv 1) zb (fun _ _=>rfl)) (zbO (show SlR _ (zdZ K) from zeP) (zg (show IxR _ (rIx K) from zd) (pv 2) (pv 0) (fun _ _=>rfl)) zb5 (zca zb)) (by with_unfolding_all rfl)))) (fun _ _ _ _ _=>(pv 0))) (za zj zc))))))
 zk)
 (zf (zn (zw (zcJ T) (hr.mono (by decide)) rfl T.d__law_marked.m T.d__law_marked.F.kp T.d__law_marked.b .nil (zy zx) (za (pv 0) (za (zdC rfl (show PI _ _ _ (zbh K _) from zaE (pv 5)) (zae (Ni:=["_law_k", "_law_rows", "_law_today"]) (caps:=[none,some 0,some 3]) (by rfl)) (fun S _ _ _ _ _=>(zaz (gi:=0) S (Or.inl rfl) rfl)) (fun _ _ _ _ _=>(zcv (zh (show OpR _ (compareOp .Eq) (zC K) from zp hr.units) (zg (show IxR _ (rIx K) from zd) (zg (show IxR _ (rIx K) from zd) (pv 1) (pv 0) (fun _ _=>rfl)) zb (fun _ _=>rfl)) (pv 2) (nomark _)))) (fun _ _ _ _ _=>(pv 0))) (za zj zc))))))))))),?_⟩
 refine zI (σ0:=[some (.ref ro),some (.int m),some (.int w),some (.int y),some (.ref l),none]) rfl ?_
 walk_at "x"
 refine zbR zdd (fun _ _=>trivial) rfl (fun i vs _=>vs=(zv stP ts i).map V.int) (fun _ _=>rfl) ?_ ?_
 ·rintro i x D' vs o H4 H5 hi hD e4 hv hvl rfl e5 rfl
  have ez:(0:Int) + (i:Int)=i:=by omega
  obtain ⟨a,ha⟩:=zu (show i < as.length by omega)
  obtain ⟨t,ht⟩:=zu (show i < ts.length by omega)
  have hra:H5 a=some (.lst [.int t.1.p,.int t.1.q,.int t.1.w,.int t.1.u,.int t.1.a,.int t.1.y,.int t.1.r,.str t.2]):=e5.at (e4.at (hW.R.2.2 i a t ha ht))
  have hat:atI (as.map V.ref) ((0:Int) + (i:Int))=some (.ref a):=by rw [ez]; exact zbA (by rw [List.getElem?_map,ha]; rfl)
  have hro5:H5 ro=some (.lst (as.map V.ref)):=e5.at (e4.at hro)
  have es:=zbn (P:=stP) ht
  have est:stP t=decide (t.2=("standing" : Str)):=by rw [hstP]
  have hml:((zv stP ts i).map V.int).length<=1000:=by omega
  have hv5:=e5.at hv
  walk_at "x"
  ·rename_i h H6 b6 h6
   rw [ez] at h6
   rw [if_pos (by rw [est]; exact decide_eq_true h)] at es
   refine ⟨⟨_,rfl⟩,b6.same (e4.trans e5) hD,_,h6,by rw [List.length_append]; exact Nat.succ_le_succ hvl,?_⟩
   show _=(zv stP ts (i + 1)).map V.int
   rw [es,List.map_append]; rfl
  ·rename_i h
   rw [if_neg (by rw [est,decide_eq_false h]; simp),List.append_nil] at es
   refine ⟨⟨_,rfl⟩,e4.trans e5,_,hv5,by omega,?_⟩
   show _=(zv stP ts (i + 1)).map V.int
   rw [es]
 rintro sl H1 vs fsl e1 hsl _ rfl
 have hsl':H1 sl=some (.lst ((zv stP ts ts.length).map V.int)):=by
  rw [hsl]; congr 4; omega
 have hW1:RW H1 ro as m w ts:=⟨e1.at hro,hW.R.same e1,hW.s,hW.g⟩
 have hl1:=e1.at hl
 have hro1:=hW1.ro
 have hnl:=zcc (P:=stP) (ts:=ts) ts.length
 cases D with
 | st t=>
  have hl':H1 l=some (.lst [.str "strike",.int t.p,.int t.q,.int t.w,.int t.u,.int t.a,.int t.y,.int t.r]):=hl1
  walk_at "x"
  rename_i l2 H2 fl2 e2 hl2
  refine zM ?_
  exact ⟨ro,l2,as,m,w,y,ts,t,.st t,rfl,⟨e2.at hro1,hW1.R.same e2,hW.s,hW.g⟩,hl2,htl,.inl rfl,fun r H3 hd=>lift (e1.trans e2) hd⟩
 | ch n a z=>
  have hl':H1 l=some (.lst [.str "change",.int n,.int a,.int z]):=hl1
  walk_at "x"
  exact ⟨ro,l,as,m,w,y,ts,.ch n a z,rfl,hW1,hl1,htl,.inl ⟨n,a,z,rfl⟩,fun r H3 hd=>lift e1 hd⟩
 | br n=>
  have hl':H1 l=some (.lst [.str "break",.int n]):=hl1
  walk_at "x"
  exact ⟨ro,l,as,m,w,y,ts,.br n,rfl,hW1,hl1,htl,.inr ⟨n,rfl⟩,fun r H3 hd=>lift e1 hd⟩
 | ct n z=>
  have hl':H1 l=some (.lst [.str "contrary",.int n,.int z]):=hl1
  walk_at "x"
  exact ⟨ro,l,as,m,w,y,ts,n,z,rfl,hW1,hl1,htl,fun r H3 hd=>lift e1 hd⟩
 | al i=>
  have hl':H1 l=some (.lst [.str "all",.int i]):=hl1
  obtain ⟨RR,hRR⟩:∃ f:T7 × Str->Bool,f=fun t=>decide (t.1.p=i) || decide (t.1.q=i):=⟨_,rfl⟩
  walk_at "x"
  refine zbR (zc4 (K:=K) (a:=sl) (xs:=(zv stP ts ts.length).map V.int)) (fun H' e=>SqL.of (e.at hsl')) rfl (fun j vs _=>vs=(((zv stP ts ts.length).take j).filter fun q=>RR (ts.getD q.toNat t0)).map V.int) (fun _ _=>rfl) ?_ ?_
  ·rintro j x D' vs o H4 H5 hj hD e4 hv hvl rfl e5 hx
   rw [List.length_map] at hj
   obtain ⟨n,hn⟩:=zu hj
   have ex:x=.int n:=by rw [List.getElem?_map,hn] at hx; exact (Option.some.inj hx).symm
   subst ex
   obtain ⟨jj,t,hjl,rfl,ht,_⟩:=(zbg (Nat.le_refl _)).mp (List.mem_of_getElem? hn)
   obtain ⟨c,hc⟩:=zu (show jj < as.length by omega)
   have hrow:H5 c=some (.lst [.int t.1.p,.int t.1.q,.int t.1.w,.int t.1.u,.int t.1.a,.int t.1.y,.int t.1.r,.str t.2]):=e5.at (e4.at (hW1.R.2.2 jj c t hc ht))
   have hat:atI (as.map V.ref) (jj:Int)=some (.ref c):=zbA (by rw [List.getElem?_map,hc]; rfl)
   have hro5:=e5.at (e4.at hro1)
   have hl5:=e5.at (e4.at hl')
   have hv5:=e5.at hv
   have hgj:ts.getD (jj:Int).toNat t0=t:=by rw [Int.toNat_natCast]; exact zak ht
   have hvl2:((((zv stP ts ts.length).take j).filter fun q=>RR (ts.getD q.toNat t0)).map V.int).length<=1000:=by omega
   have yes:RR t=true->((((zv stP ts ts.length).take (j + 1)).filter fun q=>RR (ts.getD q.toNat t0)).map V.int)=((((zv stP ts ts.length).take j).filter fun q=>RR (ts.getD q.toNat t0)).map V.int) ++ [V.int (jj:Int)]:=fun hR=>by
    rw [zaw hn,List.filter_append,List.filter_cons_of_pos (by rw [hgj]; exact hR),List.filter_nil,List.map_append]; rfl
   have non:¬ RR t=true->((((zv stP ts ts.length).take (j + 1)).filter fun q=>RR (ts.getD q.toNat t0)).map V.int)=((((zv stP ts ts.length).take j).filter fun q=>RR (ts.getD q.toNat t0)).map V.int):=fun hR=>by
    rw [zaw hn,List.filter_append,List.filter_cons_of_neg (by rw [hgj]; exact hR),List.filter_nil,List.append_nil]
   walk_at "x"
   rename_i l5 H6 fl5 e6 hl6
   have hl6':H6 l5=some (.lst ([t.1.p,t.1.q].map V.int)):=hl6
   have hv6:=e6.at hv5
   refine zlz (.of hl6') ?_
   by_cases hm:i ∈ [t.1.p,t.1.q]
   ·rw [decide_eq_true hm]
    have hpq:t.1.p=i\/t.1.q=i:=by
     rcases List.mem_cons.mp hm with z | z
     ·exact .inl z.symm
     ·exact .inr (List.mem_singleton.mp z).symm
    walk_at "x"
    rename_i H7 b7 h7
    exact ⟨⟨_,rfl⟩,b7.same (e4.trans (e5.trans e6)) hD,_,h7,by rw [List.length_append]; exact Nat.succ_le_succ hvl,(yes (by rw [hRR]; dsimp only; rw [Bool.or_eq_true,decide_eq_true_iff,decide_eq_true_iff]; exact hpq)).symm⟩
   ·rw [decide_eq_false hm]
    walk_at "x"
    exact ⟨⟨_,rfl⟩,e4.trans (e5.trans e6),_,hv6,by omega,(non (fun z=>by
     rw [hRR] at z
     dsimp only at z
     rw [Bool.or_eq_true,decide_eq_true_iff,decide_eq_true_iff] at z
     refine hm ?_
     rcases z with q | q <;> simp [q])).symm⟩
  rintro nl H2 vs fnl e2 hnl2 _ rfl
  rw [List.length_map,List.take_length,zcF _ (Nat.le_refl _)] at hnl2
  have hPP:(fun t=>stP t && RR t)=zap i:=by
   funext t
   rw [hstP,hRR]; rfl
  rw [hPP] at hnl2
  have e02:=e1.trans e2
  have hW2:RW H2 ro as m w ts:=⟨e02.at hro,hW.R.same e02,hW.s,hW.g⟩
  walk_at "x"
  have fnlH:H nl=none:=Same.none fnl e1
  show zcT [V.ref ro,V.ref nl,V.str "broken"] H2 _ E0
  refine ⟨ro,nl,as,ts,zap i, "broken",rfl,hW2.ro,hW2.R,hnl2,zaS fnlH hro,hW.R.fresh fnlH,htl,fun r H3 k3 h3 hR3 hr3=>?_⟩
  rw [zfP] at hR3
  have n3:H3 nl=some (.lst ((zv (zap i) ts ts.length).map V.int)):=k3 nl _ (zaS fnlH hro) (hW.R.fresh fnlH) hnl2
  exact lift (H1:=H) (Same.refl _) ⟨as, "told",.ref nl,fun c o n1 n2 h=>k3 c o n1 n2 (e02.at h),fun c hc=>.inl hc,h3,hR3,hr3,.inl ⟨rfl,rfl,nl,rfl,fnlH,n3⟩⟩
 | cl=>
  have hl':H1 l=some (.lst [.str "close"]):=hl1
  obtain ⟨RR,hRR⟩:∃ f:T7 × Str->Bool,f=fun t=>decide (t.1.y=y):=⟨_,rfl⟩
  walk_at "x"
  refine zbR (zc4 (K:=K) (a:=sl) (xs:=(zv stP ts ts.length).map V.int)) (fun H' e=>SqL.of (e.at hsl')) rfl (fun j vs _=>vs=(((zv stP ts ts.length).take j).filter fun q=>RR (ts.getD q.toNat t0)).map V.int) (fun _ _=>rfl) ?_ ?_
  ·rintro j x D' vs o H4 H5 hj hD e4 hv hvl rfl e5 hx
   rw [List.length_map] at hj
   obtain ⟨n,hn⟩:=zu hj
   have ex:x=.int n:=by rw [List.getElem?_map,hn] at hx; exact (Option.some.inj hx).symm
   subst ex
   obtain ⟨jj,t,hjl,rfl,ht,_⟩:=(zbg (Nat.le_refl _)).mp (List.mem_of_getElem? hn)
   obtain ⟨c,hc⟩:=zu (show jj < as.length by omega)
   have hrow:H5 c=some (.lst [.int t.1.p,.int t.1.q,.int t.1.w,.int t.1.u,.int t.1.a,.int t.1.y,.int t.1.r,.str t.2]):=e5.at (e4.at (hW1.R.2.2 jj c t hc ht))
   have hat:atI (as.map V.ref) (jj:Int)=some (.ref c):=zbA (by rw [List.getElem?_map,hc]; rfl)
   have hro5:=e5.at (e4.at hro1)
   have hl5:=e5.at (e4.at hl')
   have hv5:=e5.at hv
   have hgj:ts.getD (jj:Int).toNat t0=t:=by rw [Int.toNat_natCast]; exact zak ht
   have hvl2:((((zv stP ts ts.length).take j).filter fun q=>RR (ts.getD q.toNat t0)).map V.int).length<=1000:=by omega
   have yes:RR t=true->((((zv stP ts ts.length).take (j + 1)).filter fun q=>RR (ts.getD q.toNat t0)).map V.int)=((((zv stP ts ts.length).take j).filter fun q=>RR (ts.getD q.toNat t0)).map V.int) ++ [V.int (jj:Int)]:=fun hR=>by
    rw [zaw hn,List.filter_append,List.filter_cons_of_pos (by rw [hgj]; exact hR),List.filter_nil,List.map_append]; rfl
   have non:¬ RR t=true->((((zv stP ts ts.length).take (j + 1)).filter fun q=>RR (ts.getD q.toNat t0)).map V.int)=((((zv stP ts ts.length).take j).filter fun q=>RR (ts.getD q.toNat t0)).map V.int):=fun hR=>by
    rw [zaw hn,List.filter_append,List.filter_cons_of_neg (by rw [hgj]; exact hR),List.filter_nil,List.append_nil]
   walk_at "x"
   ·rename_i h H6 b6 h6
    exact ⟨⟨_,rfl⟩,b6.same (e4.trans e5) hD,_,h6,by rw [List.length_append]; exact Nat.succ_le_succ hvl,(yes (by rw [hRR]; exact decide_eq_true h)).symm⟩
   ·rename_i h
    exact ⟨⟨_,rfl⟩,e4.trans e5,_,hv5,by omega,(non (by rw [hRR]; simp [h])).symm⟩
  rintro nl H2 vs fnl e2 hnl2 _ rfl
  rw [List.length_map,List.take_length,zcF _ (Nat.le_refl _)] at hnl2
  have hPP:(fun t=>stP t && RR t)=zY y:=by
   funext t
   rw [hstP,hRR]; rfl
  rw [hPP] at hnl2
  have e02:=e1.trans e2
  have hW2:RW H2 ro as m w ts:=⟨e02.at hro,hW.R.same e02,hW.s,hW.g⟩
  walk_at "x"
  have fnlH:H nl=none:=Same.none fnl e1
  show zcT [V.ref ro,V.ref nl,V.str "settled"] H2 _ E0
  refine ⟨ro,nl,as,ts,zY y, "settled",rfl,hW2.ro,hW2.R,hnl2,zaS fnlH hro,hW.R.fresh fnlH,htl,fun r H3 k3 h3 hR3 hr3=>?_⟩
  rw [zfB] at hR3
  have n3:H3 nl=some (.lst ((zv (zY y) ts ts.length).map V.int)):=k3 nl _ (zaS fnlH hro) (hW.R.fresh fnlH) hnl2
  exact lift (H1:=H) (Same.refl _) ⟨as, "told",.ref nl,fun c o n1 n2 h=>k3 c o n1 n2 (e02.at h),fun c hc=>.inl hc,h3,hR3,hr3,.inl ⟨rfl,rfl,nl,rfl,fnlH,n3⟩⟩
theorem zc9 (T:Txt K mg):FnOk P w K mg base (CXF P w) 1 T.d__law_entries_due.a T.d__law_entries_due.fd ["_law_rows", "_law_member"] zhs:=by
 refine T.d__law_entries_due.F.okN sc__law_entries_due (fun vs H Q E h=>?_) (fun cdv A outer s H vs Q E hr h=>?_)
 ·obtain ⟨ro,n,ts,as,rfl,_⟩:=h; rfl
 obtain ⟨ro,n,ts,as,rfl,hro,hR,hl,hpq,k⟩:=h
 have hal:=hR.2.1
 have haml:(as.map V.ref).length=ts.length:=by rw [List.length_map]; exact hal
 refine ⟨_,(ze (zL (i:=2) sc__law_entries_due.nd rfl (Or.inl rfl) (zas zc))
 (ze (zax PassesOwn.never rfl (zbp rfl T.z_range (za (zF (show CallR _ _ (za4 K) from zU) rfl T.z_len BT.len (za (pv 0) zc)) zc)) (z4 (i:=3) sc__law_entries_due.nd rfl (Or.inl rfl))
 (zbm (zq (PW.pt (zbk (zh (show OpR _ (compareOp .NotEq) (zbD K) from zbG hr.units) (zg (show IxR _ (rIx K) from zd) (zg (show IxR _ (rIx K) from zd) (pv 0) (pv 3) (fun _ _=>rfl)) zb (fun _ _=>rfl)) zj (nomark _)) (zaR (zh (show OpR _ (compareOp .Eq) (zC K) from zp hr.units) (zg (show IxR _ (rIx K) from zd) (zg (show IxR _ (rIx K) from zd) (pv 0) (pv 3) (fun _ _=>rfl)) zb (fun _ _=>rfl)) (pv 1) (nomark _)))))
 (zf (zS (show PE _ _ (tBM K _ _ _ _) from za2 PySem.F.plainAttrs_list PySem.F.slot_list_append PySem.F.type_list_append zT (pv 2) (za (zQ (za (zg (show IxR _ (rIx K) from zd) (zg (show IxR _ (rIx K) from zd) (pv 0) (pv 3) (fun _ _=>rfl)) zb (fun _ _=>rfl)) (za (pv 3) (za (zm zaU zb (zg (show IxR _ (rIx K) from zd) (zg (show IxR _ (rIx K) from zd) (pv 0) (pv 3) (fun _ _=>rfl)) zb (fun _ _=>rfl))) zc)))) zc))))
 zk)
 (zf (zq (PW.pt (zbk (zh (show OpR _ (compareOp .NotEq) (zbD K) from zbG hr.units) (zg (show IxR _ (rIx K) from zd) (zg (show IxR _ (rIx K) from zd) (pv 0) (pv 3) (fun _ _=>rfl)) zb (fun _ _=>rfl)) zj (nomark _)) (zaR (zh (show OpR _ (compareOp .Eq) (zC K) from zp hr.units) (zg (show IxR _ (rIx K) from zd) (zg (show IxR _ (rIx K) from zd) (pv 0) (pv 3) (fun _ _=>rfl)) zb (fun _ _=>rfl)) (pv 1) (nomark _)))))
 (zf (zS (show PE _ _ (tBM K _ _ _ _) from za2 PySem.F.plainAttrs_list PySem.F.slot_list_append PySem.F.type_list_append zT (pv 2) (za (zQ (za (zg (show IxR _ (rIx K) from zd) (zg (show IxR _ (rIx K) from zd) (pv 0) (pv 3) (fun _ _=>rfl)) zb (fun _ _=>rfl)) (za (pv 3) (za (zg (show IxR _ (rIx K) from zd) (zg (show IxR _ (rIx K) from zd) (pv 0) (pv 3) (fun _ _=>rfl)) zb (fun _ _=>rfl)) zc)))) zc))))
 zk))))
 (zf (zn (zF (show CallR _ _ (zcQ K) from zdq) rfl T.z_sorted BT.sorted (za (pv 2) zc)))))),?_⟩
 refine zI (σ0:=[some (.ref ro),some (.int n),none,none]) rfl ?_
 walk_at "x"
 rename_i ma H1 fma e1 hma
 refine zdp (fun i σ' H'=>∃ (f3:Option V) (us:List V),σ'=[some (.ref ro),some (.int n),some (.ref ma),f3]/\Same H H'/\H' ma=some (.lst us)/\IsTs e3V H' us (za9 ts n i)) ⟨_,[],rfl,e1,hma,trivial⟩ ?_ ?_
 ·rintro i σ' H2 hi ⟨f3,us,rfl,e2,hma2,hT2⟩
  obtain ⟨c,hc⟩:=zu (show i < as.length by omega)
  obtain ⟨u,hu⟩:=zu (show i < ts.length by omega)
  have ez:(0:Int) + (i:Int)=i:=by omega
  have hat:atI (as.map V.ref) ((0:Int) + (i:Int))=some (.ref c):=by rw [ez]; exact zbA (by rw [List.getElem?_map,hc]; rfl)
  have hrow:H2 c=some (.lst [.int u.1.p,.int u.1.q,.int u.1.w,.int u.1.u,.int u.1.a,.int u.1.y,.int u.1.r,.str u.2]):=e2.at (hR.2.2 i c u hc hu)
  have hro2:=e2.at hro
  have hul:us.length<=1000:=by rw [hT2.length]; have:=zbL (ts:=ts) (m:=n) i; omega
  have es:=zcx (m:=n) hu
  have upq:=hpq u (List.mem_of_getElem? hu)
  unfold zbv at es
  refine zb0 (fun σ' H'=>∃ us':List V,σ'=[some (.ref ro),some (.int n),some (.ref ma),some (.int ((0:Int) + (i:Int)))]/\Same H H'/\H' ma=some (.lst us')/\us'.length<=1000/\IsTs e3V H' us' (za9 ts n i ++ if ¬ u.2=("broken" : Str)/\u.1.p=n then [(u.1.y,(i:Int),-u.1.a)] else [])) ?_ ?_
  ·walk_at "x"
   ·rename_i h1 h2 tt H4 ftt e4 htt H5 b5 h5
    rw [ez,Int.zero_sub] at htt
    refine ⟨_,rfl,b5.same (e2.trans e4) fma,h5,by rw [List.length_append,List.length_singleton,hT2.length]; have:=zbL (ts:=ts) (m:=n) i; omega,?_⟩
    rw [if_pos ⟨h1,h2⟩]
    exact IsTs.app (f:=e3V) (x:=(u.1.y,(i:Int),-u.1.a)) (b5.tup htt) (LBut.isTs b5 (hT2.same e4))
   ·rename_i h1 h2
    exact ⟨us,rfl,e2,hma2,hul,by rw [if_neg fun z=>h2 z.2,List.append_nil]; exact hT2⟩
   ·rename_i h1
    exact ⟨us,rfl,e2,hma2,hul,by rw [if_neg fun z=>z.1 h1,List.append_nil]; exact hT2⟩
  rintro σ' H3 ⟨us',rfl,e3,hma3,hul3,hT3⟩
  have hrow3:H3 c=some (.lst [.int u.1.p,.int u.1.q,.int u.1.w,.int u.1.u,.int u.1.a,.int u.1.y,.int u.1.r,.str u.2]):=e3.at (hR.2.2 i c u hc hu)
  have hro3:=e3.at hro
  walk_at "x"
  ·rename_i h1 h2 tt H4 ftt e4 htt H5 b5 h5
   rw [ez] at htt
   rw [if_neg (fun z=>upq (z.2.trans h2.symm)),List.append_nil] at hT3
   rw [if_neg h1,if_neg (fun z=>upq (z.trans h2.symm)),if_pos h2] at es
   refine ⟨_,_,rfl,b5.same (e3.trans e4) fma,h5,?_⟩
   rw [es]
   exact IsTs.app (f:=e3V) (x:=(u.1.y,(i:Int),u.1.a)) (b5.tup htt) (LBut.isTs b5 (hT3.same e4))
  ·rename_i h1 h2
   rw [if_neg h1] at es
   refine ⟨_,us',rfl,e3,hma3,?_⟩
   rw [es]
   by_cases hp:u.1.p=n
   ·rw [if_pos ⟨h1,hp⟩] at hT3
    rw [if_pos hp]; exact hT3
   ·rw [if_neg fun z=>hp z.2] at hT3
    rw [if_neg hp,if_neg h2]; exact hT3
  ·rename_i h1
   rw [if_pos h1] at es
   rw [if_neg fun z=>z.1 h1] at hT3
   exact ⟨_,us',rfl,e3,hma3,by rw [es]; exact hT3⟩
 ·rintro σ' H2 ⟨f3,us,rfl,e2,hma2,hT2⟩
  have hnn:((as.map V.ref).length:Int).toNat=ts.length:=by omega
  rw [hnn] at hT2
  walk_at "x"
  refine zgw hma2 hT2 (by have:=zbL (ts:=ts) (m:=n) ts.length; omega) (zcX (by omega)) fun l H3 us' xs' fl e3 hl3 hT3 hp hs=>?_
  exact k l H3 us' xs' (Same.none fl e2) (e2.trans e3) hl3 hT3 hp hs
theorem zc6 (T:Txt K mg):FnOk P w K mg base (CXF P w) 1 T.d__law_position_due.a T.d__law_position_due.fd ["_law_rows", "_law_member", "_law_wares"] zg4:=by
 refine T.d__law_position_due.F.okN sc__law_position_due (fun vs H Q E h=>?_) (fun cdv A outer s H vs Q E hr h=>?_)
 ·obtain ⟨ro,n,w,ts,as,rfl,_⟩:=h; rfl
 obtain ⟨ro,n,w,ts,as,rfl,hro,hR,hk,htl,hw,k⟩:=h
 have hal:=hR.2.1
 refine ⟨_,(ze (zco (i:=3) sc__law_position_due.nd rfl rfl rfl (zbp rfl T.z_range (za (pv 2) zc)) (zae (Ni:=["_law_ware"]) (caps:=[none]) (by rfl)) (fun S _ _ _ _ _=>(zaz (gi:=0) S (Or.inl rfl) rfl)) (fun _ _ _ _ _=>zfK) (fun _ _ _ _ _=>zb))
 (ze (zax PassesOwn.never rfl (show PI _ _ _ (zbh K _) from zaE (pv 0)) (z4 (i:=4) sc__law_position_due.nd rfl (Or.inl rfl))
 (zbm (zq (PW.pt (zbk (zh (show OpR _ (compareOp .Eq) (zC K) from zp hr.units) (zg (show IxR _ (rIx K) from zd) (pv 4) zb (fun _ _=>rfl)) zj (nomark _)) (zaR (zh (show OpR _ (compareOp .Eq) (zC K) from zp hr.units) (zg (show IxR _ (rIx K) from zd) (pv 4) zb (fun _ _=>rfl)) (pv 1) (nomark _)))))
 (zf (zcg (zm (show OpR _ (binaryOp .Add) (zE K) from zt) (zg (show IxR _ (rIx K) from zd) (pv 3) (zg (show IxR _ (rIx K) from zd) (pv 4) zb (fun _ _=>rfl)) (fun _ _=>rfl)) (zg (show IxR _ (rIx K) from zd) (pv 4) zb (fun _ _=>rfl))) (zce (pv 3) (zg (show IxR _ (rIx K) from zd) (pv 4) zb (fun _ _=>rfl)) zbe)))
 zk)
 (zf (zq (PW.pt (zbk (zh (show OpR _ (compareOp .Eq) (zC K) from zp hr.units) (zg (show IxR _ (rIx K) from zd) (pv 4) zb (fun _ _=>rfl)) zj (nomark _)) (zaR (zh (show OpR _ (compareOp .Eq) (zC K) from zp hr.units) (zg (show IxR _ (rIx K) from zd) (pv 4) zb (fun _ _=>rfl)) (pv 1) (nomark _)))))
 (zf (zcg (zm zaU (zg (show IxR _ (rIx K) from zd) (pv 3) (zg (show IxR _ (rIx K) from zd) (pv 4) zb (fun _ _=>rfl)) (fun _ _=>rfl)) (zg (show IxR _ (rIx K) from zd) (pv 4) zb (fun _ _=>rfl))) (zce (pv 3) (zg (show IxR _ (rIx K) from zd) (pv 4) zb (fun _ _=>rfl)) zbe)))
 zk))))
 (zf (zn (pv 3))))),?_⟩
 refine zI (σ0:=[some (.ref ro),some (.int n),some (.int (w:Int)),none,none]) rfl ?_
 walk_at "x"
 rename_i du H1 fdu e1 hdu
 rw [Int.toNat_natCast] at hdu
 refine zbF (xs:=as.map V.ref) (fun i σ' H'=>∃ f4:Option V,σ'=[some (.ref ro),some (.int n),some (.int (w:Int)),some (.ref du),f4]/\Same H H'/\H' du=some (.lst ((vec w (zbu (ts.take i) n)).map V.int))) ⟨_,rfl,e1,hdu⟩ ?_ ?_ ?_
 ·rintro i σ' H' _ ⟨_,_,e,_⟩; exact SqL.of (e.at hro)
 ·rintro i x σ' H2 hx ⟨f4,rfl,e2,hdu2⟩
  have hi:i < as.length:=by have:=(List.getElem?_eq_some_iff.mp hx).1; rwa [List.length_map] at this
  obtain ⟨c,hc⟩:=zu hi
  obtain ⟨t,ht⟩:=zu (show i < ts.length by omega)
  have ex:x=.ref c:=by rw [List.getElem?_map,hc] at hx; exact (Option.some.inj hx).symm
  subst ex
  obtain ⟨⟨w0,w1⟩,pq⟩:=hk t (List.mem_of_getElem? ht)
  have hcH:=hR.2.2 i c t hc ht
  have hrow:H2 c=some (.lst [.int t.1.p,.int t.1.q,.int t.1.w,.int t.1.u,.int t.1.a,.int t.1.y,.int t.1.r,.str t.2]):=e2.at hcH
  have ncd:c ≠ du:=zJ hcH fdu
  have es:=fun j=>zeZ ht n j
  refine zb0 (fun σ' H'=>σ'=[some (.ref ro),some (.int n),some (.int (w:Int)),some (.ref du),some (.ref c)]/\Same H H'/\H' du=some (.lst ((vec w fun j=>zbu (ts.take i) n j + (if t.2=("standing" : Str)/\t.1.p=n/\j=t.1.w.toNat then t.1.u else 0)).map V.int))) ?_ ?_
  ·walk_at "x"
   ·rename_i h1 h2 H3 b3 h3
    refine ⟨rfl,b3.same e2 fdu,?_⟩
    rw [h3,zbq fun j hj=>?_]
    by_cases c':j=t.1.w.toNat
    ·rw [if_pos c',if_pos ⟨h1,h2,c'⟩,c']
    ·rw [if_neg c',if_neg (fun z=>c' z.2.2)]; omega
   ·rename_i h1 h2
    refine ⟨rfl,e2,?_⟩
    rw [hdu2,zbq fun j hj=>?_]
    rw [if_neg (fun z=>h2 z.2.1)]; omega
   ·rename_i h1
    refine ⟨rfl,e2,?_⟩
    rw [hdu2,zbq fun j hj=>?_]
    rw [if_neg (fun z=>h1 z.1)]; omega
  rintro σ' H3 ⟨rfl,e3,hdu3⟩
  have hrow3:H3 c=some (.lst [.int t.1.p,.int t.1.q,.int t.1.w,.int t.1.u,.int t.1.a,.int t.1.y,.int t.1.r,.str t.2]):=e3.at hcH
  walk_at "x"
  ·rename_i h1 h2 H4 b4 h4
   refine ⟨_,rfl,b4.same e3 fdu,?_⟩
   rw [h4,zbq fun j hj=>?_]
   have hnp:¬ (t.2=("standing" : Str)/\t.1.p=n/\j=t.1.w.toNat):=fun z=>pq (z.2.1.trans h2.symm)
   have hnp2:¬ (t.2=("standing" : Str)/\t.1.p=n/\t.1.w.toNat=t.1.w.toNat):=fun z=>pq (z.2.1.trans h2.symm)
   rw [es j,if_neg hnp,if_neg hnp2]
   unfold zcj
   by_cases c':j=t.1.w.toNat
   ·rw [if_pos c',if_pos ⟨h1,by omega⟩,if_neg (fun z=>pq (z.trans h2.symm)),if_pos h2,c']; omega
   ·rw [if_neg c',if_neg (fun z=>c' (by have:=z.2; omega))]
  ·rename_i h1 h2
   refine ⟨_,rfl,e3,?_⟩
   rw [hdu3,zbq fun j hj=>?_]
   rw [es j]
   unfold zcj
   by_cases c':t.1.p=n
   ·by_cases c2:j=t.1.w.toNat
    ·rw [if_pos ⟨h1,c',c2⟩,if_pos ⟨h1,by omega⟩,if_pos c']
    ·rw [if_neg (fun z=>c2 z.2.2),if_neg (fun z=>c2 (by have:=z.2; omega))]
   ·rw [if_neg (fun z=>c' z.2.1),if_neg c',if_neg h2]; split <;> rfl
  ·rename_i h1
   refine ⟨_,rfl,e3,?_⟩
   rw [hdu3,zbq fun j hj=>?_]
   rw [es j,if_neg (fun z=>h1 z.1),zcj,if_neg (fun z=>h1 z.1)]
 ·rintro σ' H2 ⟨f4,rfl,e2,hdu2⟩
  walk_at "x"
  rw [List.length_map,hal,List.take_length] at hdu2
  exact k du H2 fdu e2 hdu2
theorem zb6 (T:Txt K mg):FnOk P w K mg base (CXF P w) 3 T.d__law_looked.a T.d__law_looked.fd ["_law_book", "_law_rows", "_law_way", "_law_nth", "_law_many", "_law_wares", "_law_today"] (zgD T.c_Book):=by
 refine T.d__law_looked.F.okN sc__law_looked (fun vs H Q E h=>?_) (fun cdv A outer s H vs Q E hr h=>?_)
 ·obtain ⟨b,d,ro,as,m,y,k,n,w,ts,rfl,_⟩:=h; rfl
 obtain ⟨b,d,ro,as,m,y,k,n,w,ts,rfl,hBB,m1,q⟩:=h
 obtain ⟨⟨hB,hro,hR,hS,hG⟩,htl,hw1⟩:=id hBB
 obtain ⟨⟨dx,hb⟩,xs,hd,hI⟩:=id hB
 have hxl:=hI.length
 have hal:=hR.2.1
 have haml:(as.map V.ref).length=as.length:=List.length_map ..
 have cl_Book:=T.cl_Book
 have hpq:∀ t ∈ ts,t.1.p ≠ t.1.q:=fun t ht=>(hG t ht).pq
 refine ⟨_,(ze (zq (zh (show OpR _ (compareOp .Eq) (zC K) from zp hr.units) (pv 2) zb (nomark _))
 (ze (zL (i:=7) sc__law_looked.nd rfl (Or.inl rfl) (zm zaQ (pv 3) (zF (zcz rfl) rfl T.z_max BT.max (za zb (za (zF (show CallR _ _ (za4 K) from zU) rfl T.z_len BT.len (za (pv 1) zc)) zc)))))
 (zf (zn (zmc (zbT (show OpR _ (compareOp .Eq) (zC K) from zp hr.units) (zF (show CallR _ _ (za4 K) from zU) rfl T.z_len BT.len (za (pv 1) zc)) zb (nomark _)) (zht (zbT (show OpR _ (compareOp .Eq) (zC K) from zp hr.units) (zV (pv 0) T.cl_Book T.d_Book_deal.mt (zct T) (hr.mono (by decide)) T.d_Book_deal.b .nil (zy zx) (za (pv 7) zc)) (zfc (show CallR _ _ (zdP K) from zgg) rfl T.z_tuple BT.tuple (za (zg (show IxR _ (rIx K) from zd) (pv 1) (pv 7) (fun _ _=>rfl)) zc)) (nomark _)))))))
 zk)
 (ze (zq (zh (show OpR _ (compareOp .Eq) (zC K) from zp hr.units) (pv 2) zb (nomark _))
 (zf (zn (zbT (show OpR _ (compareOp .Eq) (zC K) from zp hr.units) (zV (pv 0) T.cl_Book T.d_Book_entries.mt (zcB T) (hr.mono (by decide)) T.d_Book_entries.b .nil (zy zx) (za (zm zaQ (pv 3) (pv 4)) zc)) (zw (zc9 T) (hr.mono (by decide)) rfl T.d__law_entries_due.m T.d__law_entries_due.F.kp T.d__law_entries_due.b .nil (zy zx) (za (pv 1) (za (zm zaQ (pv 3) (pv 4)) zc))) (nomark _))))
 zk)
 (ze (zq (zh (show OpR _ (compareOp .Eq) (zC K) from zp hr.units) (pv 2) zb (nomark _))
 (zf (zn (zbT (show OpR _ (compareOp .Eq) (zC K) from zp hr.units) (zV (pv 0) T.cl_Book T.d_Book_position.mt (zdU T) (hr.mono (by decide)) T.d_Book_position.b .nil (zy zx) (za (zm zaQ (pv 3) (pv 4)) zc)) (zw (zc6 T) (hr.mono (by decide)) rfl T.d__law_position_due.m T.d__law_position_due.F.kp T.d__law_position_due.b .nil (zy zx) (za (pv 1) (za (zm zaQ (pv 3) (pv 4)) (za (pv 5) zc)))) (nomark _))))
 zk)
 (ze (zq (zh (show OpR _ (compareOp .Eq) (zC K) from zp hr.units) (pv 2) zb (nomark _))
 (zf (zn (zlb (zbT (show OpR _ (compareOp .Eq) (zC K) from zp hr.units) (zd5 (pv 0) T.cl_Book T.d_Book_today.mt (zfq T) (hr.mono (by decide)) T.d_Book_today.b .nil (zy zx)) (pv 6) (nomark _)) (zht (zbT (show OpR _ (compareOp .Eq) (zC K) from zp hr.units) (zd5 (pv 0) T.cl_Book T.d_Book_struck.mt (zeU T) (hr.mono (by decide)) T.d_Book_struck.b .nil (zy zx)) (zF (show CallR _ _ (za4 K) from zU) rfl T.z_len BT.len (za (pv 1) zc)) (nomark _))))))
 zk)
 (ze (zco (i:=8) sc__law_looked.nd rfl rfl rfl (zbp rfl T.z_range (za (zF (show CallR _ _ (za4 K) from zU) rfl T.z_len BT.len (za (pv 1) zc)) zc)) (zae (Ni:=["_law_k", "_law_rows", "_law_nth"]) (caps:=[none,some 1,some 3]) (by rfl)) (fun S _ _ _ _ _=>(zaz (gi:=0) S (Or.inl rfl) rfl)) (fun _ _ _ _ _=>(zcv (PW.pt (zbk (zh (show OpR _ (compareOp .Eq) (zC K) from zp hr.units) (zg (show IxR _ (rIx K) from zd) (zg (show IxR _ (rIx K) from zd) (pv 1) (pv 0) (fun _ _=>rfl)) zb (fun _ _=>rfl)) (pv 2) (nomark _)) (zaR (zh (show OpR _ (compareOp .NotEq) (zbD K) from zbG hr.units) (zg (show IxR _ (rIx K) from zd) (zg (show IxR _ (rIx K) from zd) (pv 1) (pv 0) (fun _ _=>rfl)) zb (fun _ _=>rfl)) zj (nomark _))))))) (fun _ _ _ _ _=>(pv 0)))
 (ze (zq (zh (show OpR _ (compareOp .Eq) (zC K) from zp hr.units) (pv 2) zb (nomark _))
 (zf (zn (zbT (show OpR _ (compareOp .Eq) (zC K) from zp hr.units) (zV (pv 0) T.cl_Book T.d_Book_numbers_on.mt (zci T) (hr.mono (by decide)) T.d_Book_numbers_on.b .nil (zy zx) (za (pv 3) zc)) (pv 8) (nomark _))))
 zk)
 (ze (zL (i:=9) sc__law_looked.nd rfl (Or.inl rfl) (zas zc))
 (ze (zax PassesOwn.never rfl (show PI _ _ _ (zbh K _) from zaE (pv 8)) (z4 (i:=10) sc__law_looked.nd rfl (Or.inl rfl))
 (zf (zS (show PE _ _ (tBM K _ _ _ _) from za2 PySem.F.plainAttrs_list PySem.F.slot_list_append PySem.F.type_list_append zT (pv 9) (za (zQ (za (zg (show IxR _ (rIx K) from zd) (zg (show IxR _ (rIx K) from zd) (pv 1) (pv 10) (fun _ _=>rfl)) zb (fun _ _=>rfl)) (za (zg (show IxR _ (rIx K) from zd) (zg (show IxR _ (rIx K) from zd) (pv 1) (pv 10) (fun _ _=>rfl)) zb (fun _ _=>rfl)) (za (zg (show IxR _ (rIx K) from zd) (zg (show IxR _ (rIx K) from zd) (pv 1) (pv 10) (fun _ _=>rfl)) zb (fun _ _=>rfl)) (za (zg (show IxR _ (rIx K) from zd) (zg (show IxR _ (rIx K) from zd) (pv 1) (pv 10) (fun _ _=>rfl)) zb (fun _ _=>rfl)) zc))))) zc)))))
 (zf (zn (zbT (show OpR _ (compareOp .Eq) (zC K) from zp hr.units) (zV (pv 0) T.cl_Book T.d_Book_sheet_on.mt (zdT T) (hr.mono (by decide)) T.d_Book_sheet_on.b .nil (zy zx) (za (pv 3) zc)) (pv 9) (nomark _)))))))))))),?_⟩
 refine zI (σ0:=[some (.ref b),some (.ref ro),some (.int k),some (.int n),some (.int m),some (.int (w:Int)),some (.int y),none,none,none,none]) rfl ?_
 have en:∀ x:Int,0<=x % m:=fun x=>Int.emod_nonneg x (by omega)
 walk_at "x"
 ·exact q _ (Same.refl _)
 ·rename_i h0 hln
  obtain ⟨ix,hix,ix0,ix1⟩:∃ ix:Int,ix=n % (if ((as.map V.ref).length:Int) > 1 then ((as.map V.ref).length:Int) else 1)/\0<=ix/\ix < as.length:=by
   refine ⟨_,rfl,Int.emod_nonneg _ (by omega),?_⟩
   have:=Int.emod_lt_of_pos n (b:=if ((as.map V.ref).length:Int) > 1 then ((as.map V.ref).length:Int) else 1) (by omega)
   omega
  rw [<- hix]
  obtain ⟨a,ha⟩:=zu (show ix.toNat < as.length by omega)
  obtain ⟨t,ht⟩:=zu (show ix.toNat < ts.length by omega)
  obtain ⟨x,hx1,hx2⟩:=hI.getI ht
  have hra:=hR.2.2 _ a t ha ht
  have hat:atI (as.map V.ref) ix=some (.ref a):=zbE ix0 (by rw [List.getElem?_map,ha]; rfl)
  refine zM ?_
  refine ⟨b,dx,d,m,_,y,ix,xs,rfl,hb,hd,.inl ⟨ix0,.ref x,hx1,?_⟩⟩
  walk_at "x"
  refine zjd hra fun p H1 fp e1 hp=>?_
  refine ziM (e1.at hx2) hp ?_ ?_
  ·rcases hS t (List.mem_of_getElem? ht) with z | z | z <;> rw [z] <;> decide +kernel
  ·exact q _ e1
 ·refine zM ?_
  refine ⟨b,d,m,(w:Int),y,_,ts,rfl,hB,htl,fun en' H1 us xs1 fen e1 hen hus hpx hsx=>?_⟩
  walk_at "x"
  refine zM ?_
  refine ⟨ro,_,ts,as,rfl,e1.at hro,hR.same e1,htl,hpq,fun en2 H2 us2 xs2 fen2 e2 hen2 hus2 hpx2 hsx2=>?_⟩
  obtain rfl:xs1=xs2:=ziu (zcX (by omega)) hpx hpx2 hsx hsx2
  refine zjD (e2.at hen) hen2 (Fls.ts zhS (hus.same e2)) (Fls.ts zhS hus2) ?_
  exact q _ (e1.trans e2)
 ·refine zM ?_
  refine ⟨b,d,m,y,_,w,ts,rfl,hB,(fun t ht=>⟨(hG t ht).w0,(hG t ht).w1⟩),by omega,fun p H1 fp e1 hp=>?_⟩
  have hro1:=e1.at hro
  walk_at "x"
  refine zM ?_
  refine ⟨ro,_,w,ts,as,rfl,hro1,hR.same e1,(fun t ht=>⟨⟨(hG t ht).w0,(hG t ht).w1⟩,(hG t ht).pq⟩),by omega,by omega,fun p2 H2 fp2 e2 hp2=>?_⟩
  have hp':=e2.at hp
  walk_at "x"
  exact q _ (e1.trans e2)
 ·rw [show decide ((xs.length:Int)=((as.map V.ref).length:Int))=true from decide_eq_true (by omega)]
  exact q _ (Same.refl _)
 ·rename_i h; exact absurd rfl h
 ·refine zbR zdd (fun _ _=>trivial) rfl (fun i vs _=>vs=(zv (onP n) ts i).map V.int) (fun _ _=>rfl) ?_ ?_
  ·rintro i x D' vs o H4 H5 hi hD e4 hv hvl rfl e5 rfl
   have ez:(0:Int) + (i:Int)=i:=by omega
   obtain ⟨a,ha⟩:=zu (show i < as.length by omega)
   obtain ⟨t,ht⟩:=zu (show i < ts.length by omega)
   have hra:H5 a=some (.lst [.int t.1.p,.int t.1.q,.int t.1.w,.int t.1.u,.int t.1.a,.int t.1.y,.int t.1.r,.str t.2]):=e5.at (e4.at (hR.2.2 i a t ha ht))
   have hat:atI (as.map V.ref) ((0:Int) + (i:Int))=some (.ref a):=by rw [ez]; exact zbA (by rw [List.getElem?_map,ha]; rfl)
   have hro5:H5 ro=some (.lst (as.map V.ref)):=e5.at (e4.at hro)
   have es:=zbn (P:=onP n) ht
   have hml:((zv (onP n) ts i).map V.int).length<=1000:=by omega
   have hv5:=e5.at hv
   walk_at "x"
   ·rename_i h1 h2 H6 b6 h6
    rw [ez] at h6
    rw [if_pos (by unfold onP; rw [decide_eq_true h1,decide_eq_true h2]; rfl)] at es
    refine ⟨⟨_,rfl⟩,b6.same (e4.trans e5) hD,_,h6,by rw [List.length_append]; exact Nat.succ_le_succ hvl,?_⟩
    show _=(zv (onP n) ts (i + 1)).map V.int
    rw [es,List.map_append]; rfl
   ·rename_i h1 h2
    rw [if_neg (by unfold onP; rw [decide_eq_false (show ¬ ¬ t.2=("broken" : Str) from Classical.not_not.mpr h2)]; simp),List.append_nil] at es
    refine ⟨⟨_,rfl⟩,e4.trans e5,_,hv5,by omega,?_⟩
    show _=(zv (onP n) ts (i + 1)).map V.int
    rw [es]
   ·rename_i h1
    rw [if_neg (by unfold onP; rw [decide_eq_false h1]; simp),List.append_nil] at es
    refine ⟨⟨_,rfl⟩,e4.trans e5,_,hv5,by omega,?_⟩
    show _=(zv (onP n) ts (i + 1)).map V.int
    rw [es]
  rintro nl H1 vs fnl e1 hnl _ rfl
  have hnl':H1 nl=some (.lst ((zv (onP n) ts ts.length).map V.int)):=by
   rw [hnl]; congr 4; omega
  have hb1:=e1.at hb
  have hro1:=e1.at hro
  walk_at "x"
  ·refine zM ?_
   refine ⟨b,d,m,(w:Int),y,n,ts,rfl,hB.same e1,by omega,fun p H2 fp e2 hp=>?_⟩
   have hnl2:=e2.at hnl'
   walk_at "x"
   exact q _ (e1.trans e2)
  ·rename_i g1 g2 g3 g4 g5 sh H2 fsh e2 hsh
   have hmm:=fun x=>zbg (P:=onP n) (ts:=ts) (x:=x) (Nat.le_refl ts.length)
   have hnl2:=e2.at hnl'
   have hll:=zcc (P:=onP n) (ts:=ts) ts.length
   refine zbF (xs:=(zv (onP n) ts ts.length).map V.int) (fun i σ' H'=>∃ (f10:Option V) (us:List V),σ'=[some (.ref b),some (.ref ro),some (.int k),some (.int n),some (.int m),some (.int (w:Int)),some (.int y),none,some (.ref nl),some (.ref sh),f10]/\Same H1 H'/\H' sh=some (.lst us)/\IsTs zcC H' us ((zbr ts ((zv (onP n) ts ts.length).take i)).map zdx)) ⟨_,[],rfl,e2,hsh,trivial⟩ ?_ ?_ ?_
   ·rintro i σ' H' _ ⟨_,_,_,e,_⟩; exact SqL.of (e.at hnl')
   ·rintro i x σ' H3 hx ⟨f10,us,rfl,e3,hsh3,hT3⟩
    have hi:i < (zv (onP n) ts ts.length).length:=by have:=(List.getElem?_eq_some_iff.mp hx).1; rwa [List.length_map] at this
    obtain ⟨z,hz⟩:=zu hi
    have ex:x=.int z:=by rw [List.getElem?_map,hz] at hx; exact (Option.some.inj hx).symm
    subst ex
    obtain ⟨jj,t,hjl,rfl,ht,_⟩:=(hmm z).mp (List.mem_of_getElem? hz)
    obtain ⟨c,hc⟩:=zu (show jj < as.length by omega)
    have hrow:H3 c=some (.lst [.int t.1.p,.int t.1.q,.int t.1.w,.int t.1.u,.int t.1.a,.int t.1.y,.int t.1.r,.str t.2]):=e3.at (e1.at (hR.2.2 jj c t hc ht))
    have hat:atI (as.map V.ref) (jj:Int)=some (.ref c):=zbA (by rw [List.getElem?_map,hc]; rfl)
    have hro3:=e3.at hro1
    have hul:us.length<=1000:=by rw [hT3.length,List.length_map]; unfold zbr; rw [List.length_map,List.length_take]; omega
    have es:zbr ts ((zv (onP n) ts ts.length).take (i + 1))=zbr ts ((zv (onP n) ts ts.length).take i) ++ [t]:=by
     rw [zaw hz]; unfold zbr; rw [List.map_append,List.map_singleton,Int.toNat_natCast,zak ht]
    walk_at "x"
    rename_i tp H4 ftp e4 htp H5 b5 h5
    refine ⟨_,_,rfl,b5.same (e3.trans e4) fsh,h5,?_⟩
    rw [es,List.map_append]
    exact IsTs.app (f:=zcC) (x:=zdx t) (b5.tup htp) (LBut.isTs b5 (hT3.same e4))
   ·rintro σ' H3 ⟨f10,us,rfl,e3,hsh3,hT3⟩
    rw [List.length_map,List.take_length] at hT3
    have hb3:=e3.at hb1
    walk_at "x"
    refine zM ?_
    refine ⟨b,d,m,(w:Int),y,n,ts,rfl,hB.same (e1.trans e3),by omega,fun p H4 vs fp e4 hp hT=>?_⟩
    walk_at "x"
    exact q _ (e1.trans (e3.trans e4))
theorem zez (T:Txt K mg):FnOk P w K mg base (CXF P w) 2 T.d__law_evened.a T.d__law_evened.fd ["_law_book", "_law_rows", "_law_many"] (zgZ T.c_Book):=by
 refine T.d__law_evened.F.okN sc__law_evened (fun vs H Q E h=>?_) (fun cdv A outer s H vs Q E hr h=>?_)
 ·obtain ⟨b,d,ro,as,m,y,w,ts,rfl,_⟩:=h; rfl
 obtain ⟨b,d,ro,as,m,y,w,ts,rfl,hBB,m1,m2,q⟩:=h
 obtain ⟨⟨hB,hro,hR,hS,hG⟩,htl,hw1⟩:=id hBB
 obtain ⟨⟨dx,hb⟩,xs,hd,hI⟩:=id hB
 have hal:=hR.2.1
 have cl_Book:=T.cl_Book
 obtain ⟨N,rfl⟩:∃ N:Nat,m=(N:Int):=⟨m.toNat,by omega⟩
 refine ⟨_,(ze (zL (i:=3) sc__law_evened.nd rfl (Or.inl rfl) ziF)
 (ze (zax PassesOwn.never rfl (zbp rfl T.z_range (za (pv 2) zc)) (z4 (i:=4) sc__law_evened.nd rfl (Or.inl rfl))
 (zf (zax PassesOwn.never rfl (show PI _ _ _ (zbh K _) from zaE (zV (pv 0) T.cl_Book T.d_Book_entries.mt (zcB T) (hr.mono (by decide)) T.d_Book_entries.b .nil (zy zx) (za (pv 4) zc))) (z4 (i:=5) sc__law_evened.nd rfl (Or.inl rfl))
 (zf (zko (Nat.lt_of_le_of_lt (Nat.add_le_add_left (by decide:(1:Nat)<=64) _) hr.units) (pv 3) (zg (show IxR _ (rIx K) from zd) (pv 5) zb (fun _ _=>rfl)) (zm (show OpR _ (binaryOp .Add) (zE K) from zt) (zje (Nat.lt_of_le_of_lt (Nat.add_le_add_left (by decide:(1:Nat)<=64) _) hr.units) (pv 3) (zg (show IxR _ (rIx K) from zd) (pv 5) zb (fun _ _=>rfl)) zb ⟨rfl,rfl,rfl,rfl⟩) (zg (show IxR _ (rIx K) from zd) (pv 5) zb (fun _ _=>rfl))) rfl)))))
 (ze (zax PassesOwn.never rfl (show PI _ _ _ (zbh K _) from zaE (pv 1)) (z4 (i:=6) sc__law_evened.nd rfl (Or.inl rfl))
 (zf (zq (PW.pt (zbk (zh (show OpR _ (compareOp .NotEq) (zbD K) from zbG hr.units) (zg (show IxR _ (rIx K) from zd) (pv 6) zb (fun _ _=>rfl)) zj (nomark _)) (zaR (zlx (zib (Nat.lt_of_le_of_lt (Nat.add_le_add_left (by decide:(1:Nat)<=64) _) hr.units) (zg (show IxR _ (rIx K) from zd) (pv 6) zb (fun _ _=>rfl)) (pv 3))))))
 (zf (zn zc2))
 zk)))
 (ze (zax PassesOwn.never rfl (show PI _ _ _ (iDK _) from zmu (pv 3)) (z4 (i:=7) sc__law_evened.nd rfl (Or.inl rfl))
 (zf (zq (zh (show OpR _ (compareOp .NotEq) (zbD K) from zbG hr.units) (zj0 (Nat.lt_of_le_of_lt (Nat.add_le_add_left (by decide:(1:Nat)<=64) _) hr.units) (pv 3) (pv 7) (fun _ _=>rfl)) zb (nomark _))
 (zf (zn zc2))
 zk)))
 (zf (zn zc2)))))),?_⟩
 refine zI (σ0:=[some (.ref b),some (.ref ro),some (.int (N:Int)),none,none,none,none,none]) rfl ?_
 intro p fp
 have e1:Same H (upd H p (.dK [])):=Same.new fp _
 have h1:(upd H p (.dK [])) p=some (.dK []):=zK
 generalize upd H p (.dK [])=H1 at *
 walk_at "x"
 refine zdp (fun i σ' H'=>∃ (f4 f5 f6 f7:Option V) (L:List (Int × Int × Int)) (kvs:List (Key × V)),σ'=[some (.ref b),some (.ref ro),some (.int (N:Int)),some (.ref p),f4,f5,f6,f7]/\Same H H'/\H' p=some (.dK kvs)/\DI L kvs/\(∀ z,dsum L z=tsum (fun k=>dsum (za9 ts k ts.length) z) ((vec N fun i=>(i:Int)).take i))/\(∀ t ∈ ts,¬ t.2=("broken" : Str)->t.1.p < (i:Int)->t.1.y ∈ L.map (·.1))/\L.length<=64 * i) ⟨_,_,_,_,[],[],rfl,e1,h1,DI.nil,(fun z=>by rw [List.take_zero]; rfl),(fun t ht _ hp=>absurd (hG t ht).p0 (by omega)),Nat.le_refl 0⟩ ?_ ?_
 ·rintro i σ' H2 hi ⟨f4,f5,f6,f7,L,kvs,rfl,e2,hp2,hD,hsum,hin,hLl⟩
  rw [Int.toNat_natCast] at hi
  rw [show ((0:Int) + (i:Int))=(i:Int) by omega]
  have hb2:=e2.at hb
  walk_at "x"
  refine zM ?_
  refine ⟨b,d,_,(w:Int),y,(i:Int),ts,rfl,hB.same e2,htl,fun en H3 us xs1 fen e3 hen hus hpx hsx=>?_⟩
  have hxl:=hpx.length_eq
  have hel:=zbL (ts:=ts) (m:=(i:Int)) ts.length
  walk_at "x"
  refine zbF (xs:=us) (fun j σ' H'=>∃ (f5:Option V) (kvs:List (Key × V)),σ'=[some (.ref b),some (.ref ro),some (.int (N:Int)),some (.ref p),some (.int (i:Int)),f5,f6,f7]/\Same H H'/\H' en=some (.lst us)/\IsTs e3V H' us xs1/\H' p=some (.dK kvs)/\DI (L ++ xs1.take j) kvs) ⟨_,kvs,rfl,e2.trans e3,hen,hus,e3.at hp2,by rw [List.take_zero,List.append_nil]; exact hD⟩ ?_ ?_ ?_
  ·rintro j σ' H' _ ⟨_,_,_,_,h,_⟩; exact SqL.of h
  ·rintro j x σ' H4 hx ⟨g5,kvs4,rfl,e4,hen4,hus4,hp4,hD4⟩
   obtain ⟨c,x3,rfl,hx3,hc⟩:=hus4.get hx
   have hc':H4 c=some (.tup [.int x3.1,.int x3.2.1,.int x3.2.2]):=hc
   have hkl:kvs4.length < sizeLine:=by
    have:=hD4.len
    rw [List.length_append,List.length_take] at this
    rw [sizeLine_eq]; omega
   have nep:en ≠ p:=zaS fen hp2
   walk_at "x"
   show zjv _ _ _ _ _ H4
   refine ⟨_,rfl,p,rfl,.inl ⟨kvs4,.inl hp4⟩,?_⟩
   walk_at "x"
   refine ⟨_,DGet.k (k:=.inl x3.1) hp4,?_⟩
   rw [hD4.getD]
   walk_at "x"
   refine ⟨p,_,rfl,DPut.k (k:=.inl x3.1) hp4 hkl,?_⟩
   refine ⟨_,_,rfl,fun c' o z=>by rw [zG (zJ z fp)]; exact e4 c' o z,by rw [zG nep]; exact hen4,hus4.keep fun a' ys z=>by rw [zG (zbI z hp4 (by intro w'; cases w'))]; exact z,zK,by rw [zaw hx3,<- List.append_assoc]; exact hD4.snoc x3⟩
  ·rintro σ' H4 ⟨g5,kvs4,rfl,e4,hen4,hus4,hp4,hD4⟩
   rw [hus.length,List.take_length] at hD4
   refine ⟨_,_,_,_,_,kvs4,rfl,e4,hp4,hD4,fun z=>?_,fun t ht hb' hp'=>?_,?_⟩
   ·have hti:(vec N fun i=>(i:Int))[i]?=some (i:Int):=zcM hi
    rw [zd3,hsum,zaw hti,ziq,zh1 hpx]
   ·rw [List.map_append]
    by_cases c:t.1.p < (i:Int)
    ·exact List.mem_append_left _ (hin t ht hb' c)
    ·have hpi:t.1.p=(i:Int):=by omega
     obtain ⟨jj,hjj,ej⟩:=List.getElem_of_mem ht
     have hm:=zf6 (ts:=ts) (i:=jj) (t:=t) (by rw [List.getElem?_eq_getElem hjj,ej]) hb' ts.length hjj (Nat.le_refl _)
     rw [hpi] at hm
     exact List.mem_append_right _ (List.mem_map.mpr ⟨_,hpx.mem_iff.mpr hm,rfl⟩)
   ·rw [List.length_append]; omega
 ·rintro σ' H2 ⟨f4,f5,f6,f7,L,kvs,rfl,e2,hp2,hD,hsum,hin,hLl⟩
  rw [Int.toNat_natCast] at hsum hin hLl
  have hz:∀ z,dsum L z=0:=fun z=>by
   rw [hsum,List.take_of_length_le (by rw [zbU]; exact Nat.le_refl _)]
   exact even (zhy N) (fun t ht=>⟨zgt (hG t ht).p0 (hG t ht).p1,zgt (hG t ht).q0 (hG t ht).q1,(hG t ht).pq⟩) z ts.length
  have hro2:=e2.at hro
  walk_at "x"
  refine zbF (xs:=as.map V.ref) (fun i σ' H'=>∃ f6:Option V,σ'=[some (.ref b),some (.ref ro),some (.int (N:Int)),some (.ref p),f4,f5,f6,f7]/\Same H2 H') ⟨_,rfl,Same.refl _⟩ ?_ ?_ ?_
  ·rintro i σ' H' _ ⟨_,_,e⟩; exact SqL.of (e.at hro2)
  ·rintro i x σ' H3 hx ⟨g6,rfl,e3⟩
   have hi:i < as.length:=by have:=(List.getElem?_eq_some_iff.mp hx).1; rwa [List.length_map] at this
   obtain ⟨c,hc⟩:=zu hi
   obtain ⟨t,ht⟩:=zu (show i < ts.length by omega)
   have ex:x=.ref c:=by rw [List.getElem?_map,hc] at hx; exact (Option.some.inj hx).symm
   subst ex
   have htm:=List.mem_of_getElem? ht
   have hrow:H3 c=some (.lst [.int t.1.p,.int t.1.q,.int t.1.w,.int t.1.u,.int t.1.a,.int t.1.y,.int t.1.r,.str t.2]):=e3.at (e2.at (hR.2.2 i c t hc ht))
   have hp3:=e3.at hp2
   walk_at "x"
   ·rename_i hnb
    have hv:zaM kvs (.inl t.1.y)=some (.int (dsum L t.1.y)):=by
     rw [hD.val,if_pos (hin t htm hnb (hG t htm).p1)]
    show tOp (rIx K) (zg2 6) (tC (V.int 5)) _ H3 _
    walk_at "x"
    refine ⟨p,_,rfl,DGet.k (k:=.inl t.1.y) hp3,?_⟩
    rw [hv]
    walk_at "x"
    all_goals first | exact ⟨_,rfl,e3⟩ | (rename_i hh; cases hh)
   ·exact ⟨_,rfl,e3⟩
  ·rintro σ' H3 ⟨g6,rfl,e3⟩
   have hp3:=e3.at hp2
   walk_at "x"
   refine ⟨_,rfl,p,kvs,rfl,hp3,fun o=>?_⟩
   have hpf:(upd H3 p (.frz o (.dK kvs))) p=some (.frz o (.dK kvs)):=zK
   generalize upd H3 p (.frz o (.dK kvs))=H4 at *
   refine zfL (zkM (a:=p) (o:=o) (kvs:=kvs)) (fun j σ' H'=>∃ f7:Option V,σ'=[some (.ref b),some (.ref ro),some (.int (N:Int)),some (.ref p),f4,f5,g6,f7]/\Same H4 H') ⟨_,rfl,Same.refl _⟩ ?_ ?_ ?_
   ·rintro j σ' H' ⟨_,_,e⟩; exact e.at hpf
   ·rintro j x σ' H5 H6 hj ⟨g7,rfl,e5⟩ e6 ⟨k,v,hkv,rfl⟩
    obtain ⟨z,hzk⟩:=hD.key _ (List.mem_of_getElem? hkv)
    have hzk':k=Sum.inl z:=hzk
    subst hzk'
    have hv:zaM kvs (.inl z)=some (.int 0):=by
     have h2:=ziY (List.mem_of_getElem? hkv)
     rw [hD.val] at h2 ⊢
     by_cases c:z ∈ L.map (·.1)
     ·rw [if_pos c,hz]
     ·rw [if_neg c] at h2; cases h2
    have hp6:=(e5.trans e6).at hpf
    show zc3 7 (V.int z) _ H6 _
    walk_at "x"
    refine ⟨_,rfl,_,rfl,p,V.int 0,rfl,.inl ⟨kvs,.inl z,.inr ⟨o,hp6⟩,rfl,hv.symm⟩,?_⟩
    walk_at "x"
    all_goals first | exact ⟨_,rfl,e5.trans e6⟩ | (rename_i hh; exact absurd rfl hh)
   ·rintro σ' H5 ⟨g7,rfl,e5⟩
    walk_at "x"
    exact q _
noncomputable def zft (K:PySem.W.Frag):Sp:=fun vs H Q _=>∃ (a:Addr) (ns:List Int),vs=[.ref a]/\SqL K H a (ns.map V.int)/\ns.length<=63/\∀ H',Q (.bl true) H'
theorem zkR (T:Txt K mg):FnOk P w K mg base (CXF P w) 6 T.d_law.a T.d_law.fd ["_law_script"] (zft K):=by
 refine T.d_law.F.okN sc_law (fun vs H Q E h=>?_) (fun cdv A outer s H vs Q E hr h=>?_)
 ·obtain ⟨a,ns,rfl,_⟩:=h; rfl
 obtain ⟨a,ns,rfl,hS,h63,k⟩:=h
 refine ⟨_,(ze (zL (i:=1) sc_law.nd rfl (Or.inl rfl) (zm (show OpR _ (binaryOp .Add) (zE K) from zt) zb (zw (zN T) (hr.mono (by decide)) rfl T.d__law_draw.m T.d__law_draw.F.kp T.d__law_draw.b .nil (zy zx) (za (pv 0) (za zb (za zb zc))))))
 (ze (zL (i:=2) sc_law.nd rfl (Or.inl rfl) (zm (show OpR _ (binaryOp .Add) (zE K) from zt) zb (zw (zN T) (hr.mono (by decide)) rfl T.d__law_draw.m T.d__law_draw.F.kp T.d__law_draw.b .nil (zy zx) (za (pv 0) (za zb (za zb zc))))))
 (ze (zL (i:=3) sc_law.nd rfl (Or.inl rfl) (zjR T.mk_Book (zdL T) (hr.mono (by decide)) rfl T.m_Book T.d_Book___init__.b .nil (zy zx) (za (pv 1) (za (pv 2) zc))))
 (ze (zL (i:=4) sc_law.nd rfl (Or.inl rfl) (zas zc))
 (ze (zL (i:=5) sc_law.nd rfl (Or.inl rfl) zb)
 (ze (zax PassesOwn.never rfl (zbp rfl T.z_range (za (zm (show OpR _ (binaryOp .Add) (zE K) from zt) (zm (show OpR _ (binaryOp .Add) (zE K) from zt) zb (zw (zN T) (hr.mono (by decide)) rfl T.d__law_draw.m T.d__law_draw.F.kp T.d__law_draw.b .nil (zy zx) (za (pv 0) (za zb (za zb zc))))) (zF (show CallR _ _ (za4 K) from zU) rfl T.z_len BT.len (za (zbO (show SlR _ (zdZ K) from zeP) (pv 0) zb5 (zca zb)) zc))) zc)) (z4 (i:=6) sc_law.nd rfl (Or.inl rfl))
 (ze (zL (i:=7) sc_law.nd rfl (Or.inl rfl) (zm (show OpR _ (binaryOp .Add) (zE K) from zt) zb (zm zcb zb (pv 6))))
 (ze (zL (i:=8) sc_law.nd rfl (Or.inl rfl) (zw (zfG T) (hr.mono (by decide)) rfl T.d__law_deed.m T.d__law_deed.F.kp T.d__law_deed.b .nil (zy zx) (za (pv 0) (za (pv 7) (za (pv 4) (za (pv 1) (za (pv 2) (za (pv 5) zc))))))))
 (ze (zL (i:=9) sc_law.nd rfl (Or.inl rfl) (zw (zfs T) (hr.mono (by decide)) rfl T.d__law_found.m T.d__law_found.F.kp T.d__law_found.b .nil (zy zx) (za (pv 3) (za (pv 8) zc))))
 (ze (zq (PW.pt (zac (zh (show OpR _ (compareOp .NotEq) (zbD K) from zbG hr.units) (pv 9) (zw (zf8 T) (hr.mono (by decide)) rfl T.d__law_due.m T.d__law_due.F.kp T.d__law_due.b .nil (zy zx) (za (pv 4) (za (pv 1) (za (pv 2) (za (pv 5) (za (pv 8) zc)))))) (nomark _)) (zaD (show PT _ _ (zb4 K _) from zau (zF (show CallR _ _ (zam K) from za7) rfl T.z_isinstance BT.isinstance (za (zg (show IxR _ (rIx K) from zd) (pv 9) zb (fun _ _=>rfl)) (za (zgl (v:=.ty "bool") rfl T.z_bool BT.bool rfl) zc))) (fun _=>rfl)))))
 (zf (zn zc2))
 zk)
 (zbm (zq (zh (show OpR _ (compareOp .Eq) (zC K) from zp hr.units) (zg (show IxR _ (rIx K) from zd) (pv 8) zb (fun _ _=>rfl)) zj (nomark _))
 (zf (zL (i:=5) sc_law.nd rfl (Or.inl rfl) (zm (show OpR _ (binaryOp .Add) (zE K) from zt) (pv 5) zb)))
 zk)
 (ze (zL (i:=10) sc_law.nd rfl (Or.inl rfl) (zw (zN T) (hr.mono (by decide)) rfl T.d__law_draw.m T.d__law_draw.F.kp T.d__law_draw.b .nil (zy zx) (za (pv 0) (za (zm (show OpR _ (binaryOp .Add) (zE K) from zt) (pv 7) zb) (za zb zc)))))
 (ze (zL (i:=11) sc_law.nd rfl (Or.inl rfl) (zw (zN T) (hr.mono (by decide)) rfl T.d__law_draw.m T.d__law_draw.F.kp T.d__law_draw.b .nil (zy zx) (za (pv 0) (za (zm (show OpR _ (binaryOp .Add) (zE K) from zt) (pv 7) zb) (za zb zc)))))
 (zf (zq (zd9 (show PT _ _ (zb4 K _) from zau (zw (zb6 T) (hr.mono (by decide)) rfl T.d__law_looked.m T.d__law_looked.F.kp T.d__law_looked.b .nil (zy zx) (za (pv 3) (za (pv 4) (za (pv 10) (za (pv 11) (za (pv 1) (za (pv 2) (za (pv 5) zc)))))))) (fun _=>rfl)))
 (zf (zn zc2))
 zk))))))))))
 (ze (zax PassesOwn.never rfl (zbp rfl T.z_range (za zb zc)) (z4 (i:=10) sc_law.nd rfl (Or.inl rfl))
 (zf (zax PassesOwn.never rfl (zbp rfl T.z_range (za (zF (zcz rfl) rfl T.z_max BT.max (za (zF (show CallR _ _ (za4 K) from zU) rfl T.z_len BT.len (za (pv 4) zc)) (za zb zc))) zc)) (z4 (i:=11) sc_law.nd rfl (Or.inl rfl))
 (zf (zq (zd9 (show PT _ _ (zb4 K _) from zau (zw (zb6 T) (hr.mono (by decide)) rfl T.d__law_looked.m T.d__law_looked.F.kp T.d__law_looked.b .nil (zy zx) (za (pv 3) (za (pv 4) (za (pv 10) (za (pv 11) (za (pv 1) (za (pv 2) (za (pv 5) zc)))))))) (fun _=>rfl)))
 (zf (zn zc2))
 zk)))))
 (ze (zax PassesOwn.never rfl (show PI _ _ _ (zbh K _) from zaE (pv 4)) (z4 (i:=12) sc_law.nd rfl (Or.inl rfl))
 (zf (zax PassesOwn.never rfl (show PI _ _ _ (zbh K _) from zaE (zas (za zb (za zb zc)))) (z4 (i:=10) sc_law.nd rfl (Or.inl rfl))
 (zf (zq (zd9 (show PT _ _ (zb4 K _) from zau (zw (zb6 T) (hr.mono (by decide)) rfl T.d__law_looked.m T.d__law_looked.F.kp T.d__law_looked.b .nil (zy zx) (za (pv 3) (za (pv 4) (za (pv 10) (za (zg (show IxR _ (rIx K) from zd) (pv 12) zb (fun _ _=>rfl)) (za (pv 1) (za (pv 2) (za (pv 5) zc)))))))) (fun _=>rfl)))
 (zf (zn zc2))
 zk)))))
 (zf (zn (zw (zez T) (hr.mono (by decide)) rfl T.d__law_evened.m T.d__law_evened.F.kp T.d__law_evened.b .nil (zy zx) (za (pv 3) (za (pv 4) (za (pv 1) zc)))))))))))))),?_⟩
 refine zI (σ0:=[some (.ref a),none,none,none,none,none,none,none,none,none,none,none,none]) rfl ?_
 walk_at "x"
 rename_i x x0 x1 x' x0' x1'
 obtain ⟨N,eN,N0,N1⟩:∃ N:Int,1 + x=N/\1<=N/\N<=8:=⟨_,rfl,by omega,by omega⟩
 obtain ⟨W,eW,W0,W1⟩:∃ W:Nat,1 + x'=(W:Int)/\1<=W/\W<=4:=⟨(1 + x').toNat,by omega,by omega,by omega⟩
 rw [eN,eW]
 refine zM ?_
 refine zjQ fun b dx H1 fb e1 h1=>?_
 refine ⟨b,dx,_,_,rfl,h1,fun d H2 fd s2 hb2 hd2=>⟨rfl,?_⟩⟩
 have e2:Same H H2:=fun c o q=>s2 c o (zJ q fb) (e1 c o q)
 have fd0:H d=none:=Same.none fd e1
 have hBk:Bk T.c_Book H2 b d N (W:Int) 0 []:=⟨⟨dx,hb2⟩,[],hd2,trivial⟩
 have hS2:=e2.seq hS
 have hcl:(zb9 (ns.map V.int) none (some 40)).length<=40:=zlt (k:=40)
 walk_at "x"
 rename_i ro H3 fro e3 hro c c0 c1 sc H4 fsc e4 hsc
 have hL0:LB T.c_Book H H4 b d ro N W 0 [] []:=⟨⟨hBk.same (e3.trans e4),e4.at hro,⟨List.nodup_nil,rfl,fun i a t h=>nomatch h⟩,(fun t ht=>nomatch ht),(fun t ht=>nomatch ht)⟩,e2.trans (e3.trans e4),fb,fd0,Same.none fro e2,(fun c hc=>nomatch hc),(zaS fro hd2).symm,(fun h=>nomatch h)⟩
 obtain ⟨cn,ecn,cn1⟩:∃ cn:Nat,(1 + c + ((zb9 (ns.map V.int) none (some 40)).length:Int)).toNat=cn/\cn<=48:=⟨_,rfl,by omega⟩
 refine zdp (fun i σ' H'=>∃ (g6 g7 g8 g9 g10 g11:Option V) (y:Int) (ts:List (T7 × Str)) (as:List Addr),σ'=[some (.ref a),some (.int N),some (.int (W:Int)),some (.ref b),some (.ref ro),some (.int y),g6,g7,g8,g9,g10,g11,none]/\LB T.c_Book H H' b d ro N W y ts as/\ts.length<=i/\0<=y) ⟨_,_,_,_,_,_,0,[],[],rfl,hL0,Nat.le_refl 0,Int.le_refl 0⟩ ?_ ?_
 ·rintro i σ' H5 hi ⟨g6,g7,g8,g9,g10,g11,y,ts,as,rfl,hL,htl,y0⟩
  have hi48:i < 48:=by omega
  have hS5:SqL K H5 a (ns.map V.int):=hL.e0.seq hS
  have hro5:=hL.q.ro
  walk_at "x"
  refine zM ?_
  refine ⟨a,ro,ns,_,N,(W:Int),y,_,rfl,hS5,by omega,by omega,hro5,by omega,by omega,by omega,by omega,fun l H6 D fl e6 hl=>?_⟩
  have hL6:=hL.same e6
  have nld:l ≠ d:=by
   obtain ⟨_,xs0,hd0,_⟩:=hL.q.B
   exact zaS fl hd0
  have nlb:l ≠ b:=by
   obtain ⟨⟨dx0,hb0⟩,_⟩:=hL.q.B
   exact zbI hl ((hL6.q.B).ob.choose_spec) (by intro z; cases z)
  walk_at "x"
  refine zM ?_
  refine ⟨b,d,l,N,(W:Int),y,ts,D,rfl,hL6.q.B,hL6.q.g,hL6.q.s,by omega,hl,fun r v s H7 hB7 k7 hr7 o7=>?_⟩
  have nrob:ro ≠ b:=by
   obtain ⟨⟨dx0,hb0⟩,_⟩:=hL6.q.B
   exact zbI hL6.q.ro hb0 (by intro z; cases z)
  have hro7:H7 ro=some (.lst (as.map V.ref)):=k7 ro _ hL6.n1.symm nrob hL6.q.ro
  have hR7:DRows H7 as ts:=hL6.q.R.keep fun a' o ha' z=>k7 a' o (fun e=>hL6.n2 (e ▸ ha')) (fun e=>by
   obtain ⟨⟨dx0,hb0⟩,_⟩:=hL6.q.B
   obtain ⟨_,t,_,_,e'⟩:=hL6.q.R.mem ha'
   rw [e,hb0] at e'; cases e') z
  have hl7:=k7 l _ nld nlb hl
  walk_at "x"
  refine zM ?_
  refine ⟨ro,l,as,N,(W:Int),y,ts,D,rfl,⟨hro7,hR7,hL6.q.s,hL6.q.g⟩,hl7,by omega,fun r2 H8 hd8=>?_⟩
  have hl8:H8 l=some (.lst (dV D)):=by
   obtain ⟨as',s',v',k8,_⟩:=hd8
   exact k8 l _ (zaS fl hL.q.ro) (hL.q.R.fresh fl) hl7
  obtain ⟨as8,hL8,hr8,o8,s',v',hr28,o28⟩:=hL6.deed (K:=K) y0 hB7 k7 hr7 o7 hd8
  have hnl:(nT N (W:Int) y ts D).length<=ts.length + 1:=by
   unfold nT
   split
   ·exact zkJ y ts D
   ·omega
  have hy8:dY y D=y\/dY y D=y + 1:=by cases D <;> first | exact .inl rfl | exact .inr rfl
  walk_at "x"
  refine zkx hr8 hr28 o8 o28 ?_
  walk_at "x"
  show zam K [v,V.ty "bool"] H8 _
  refine zkf o8 ?_
  walk_at "x"
  obtain ⟨s0,rest,hdv,hc,hn⟩:∃ (s0:Str) (rest:List V),dV D=.str s0 :: rest/\(s0=("close" : Str)->dY y D=y + 1)/\(¬ s0=("close" : Str)->dY y D=y):=by
   cases D with
   | st t=>exact ⟨_,_,rfl,(fun z=>absurd z (by decide +kernel)),fun _=>rfl⟩
   | ch n a z=>exact ⟨_,_,rfl,(fun z=>absurd z (by decide +kernel)),fun _=>rfl⟩
   | br n=>exact ⟨_,_,rfl,(fun z=>absurd z (by decide +kernel)),fun _=>rfl⟩
   | al n=>exact ⟨_,_,rfl,(fun z=>absurd z (by decide +kernel)),fun _=>rfl⟩
   | ct n z=>exact ⟨_,_,rfl,(fun z=>absurd z (by decide +kernel)),fun _=>rfl⟩
   | cl=>exact ⟨_,_,rfl,(fun _=>rfl),fun z=>absurd rfl z⟩
  rw [hdv] at hl8
  have hat0:atI (V.str s0 :: rest) 0=some (.str s0):=zbE (Int.le_refl 0) rfl
  have hS8:SqL K H8 a (ns.map V.int):=hL8.e0.seq hS
  refine zb0 (fun σ' H'=>σ'=[some (.ref a),some (.int N),some (.int (W:Int)),some (.ref b),some (.ref ro),some (.int (dY y D)),some (.int (0 + (i:Int))),some (.int (10 + 16 * (0 + (i:Int)))),some (.ref l),some (.ref r),g10,g11,none]/\H'=H8) ?_ ?_
  ·walk_at "x"
   ·rename_i hz; rw [hc hz]; exact ⟨rfl,rfl⟩
   ·rename_i hz; rw [hn hz]; exact ⟨rfl,rfl⟩
  rintro σ' H9 ⟨rfl,rfl⟩
  walk_at "x"
  refine zM ?_
  refine ⟨b,d,ro,as8,N,dY y D,_,_,W,nT N (W:Int) y ts D,rfl,⟨hL8.q,by omega,by omega⟩,N0,fun H10 e10=>?_⟩
  walk_at "x"
  exact ⟨_,_,_,_,_,_,dY y D,_,as8,rfl,hL8.same e10,by omega,by omega⟩
 ·rintro σ' H5 ⟨g6,g7,g8,g9,g10,g11,y,ts,as,rfl,hL,htl,y0⟩
  rw [ecn] at htl
  have hro5:=hL.q.ro
  have hal:=hL.q.R.2.1
  have haml:(as.map V.ref).length=as.length:=List.length_map ..
  have hBB:BB T.c_Book H5 b d ro N W y ts as:=⟨hL.q,by omega,by omega⟩
  walk_at "x"
  refine zdp (fun i σ' H'=>∃ (g10 g11:Option V),σ'=[some (.ref a),some (.int N),some (.int (W:Int)),some (.ref b),some (.ref ro),some (.int y),g6,g7,g8,g9,g10,g11,none]/\Same H5 H') ⟨_,_,rfl,Same.refl _⟩ ?_ ?_
  ·rintro i σ' H6 hi ⟨q10,q11,rfl,e6⟩
   have hro6:=e6.at hro5
   walk_at "x"
   refine zdp (fun j σ' H'=>∃ (g11:Option V),σ'=[some (.ref a),some (.int N),some (.int (W:Int)),some (.ref b),some (.ref ro),some (.int y),g6,g7,g8,g9,some (.int (0 + (i:Int))),g11,none]/\Same H5 H') ⟨_,rfl,e6⟩ ?_ ?_
   ·rintro j σ' H7 hj ⟨q11',rfl,e7⟩
    walk_at "x"
    refine zM ?_
    refine ⟨b,d,ro,as,N,y,_,_,W,ts,rfl,hBB.same e7,N0,fun H8 e8=>?_⟩
    walk_at "x"
    exact ⟨_,rfl,e7.trans e8⟩
   ·rintro σ' H7 ⟨q11',rfl,e7⟩
    exact ⟨_,_,rfl,e7⟩
  ·rintro σ' H6 ⟨q10,q11,rfl,e6⟩
   have hro6:=e6.at hro5
   walk_at "x"
   refine zbF (xs:=as.map V.ref) (fun i σ' H'=>∃ (g10 g12:Option V),σ'=[some (.ref a),some (.int N),some (.int (W:Int)),some (.ref b),some (.ref ro),some (.int y),g6,g7,g8,g9,g10,q11,g12]/\Same H5 H') ⟨_,_,rfl,e6⟩ ?_ ?_ ?_
   ·rintro i σ' H' _ ⟨_,_,_,e⟩; exact SqL.of (e.at hro5)
   ·rintro i x σ' H7 hx ⟨q10',q12,rfl,e7⟩
    have hi:i < as.length:=by have:=(List.getElem?_eq_some_iff.mp hx).1; rwa [List.length_map] at this
    obtain ⟨c',hc'⟩:=zu hi
    obtain ⟨t,ht⟩:=zu (show i < ts.length by omega)
    have ex:x=.ref c':=by rw [List.getElem?_map,hc'] at hx; exact (Option.some.inj hx).symm
    subst ex
    walk_at "x"
    rename_i wl H8 fwl e8 hwl
    refine zbF (xs:=[.int 4,.int 5]) (fun j σ' H'=>∃ (g10:Option V),σ'=[some (.ref a),some (.int N),some (.int (W:Int)),some (.ref b),some (.ref ro),some (.int y),g6,g7,g8,g9,g10,q11,some (.ref c')]/\Same H8 H') ⟨_,rfl,Same.refl _⟩ ?_ ?_ ?_
    ·rintro j σ' H' _ ⟨_,_,e⟩; exact SqL.of (e.at hwl)
    ·rintro j x σ' H9 hx ⟨r10,rfl,e9⟩
     have hj2:j < 2:=(List.getElem?_eq_some_iff.mp hx).1
     obtain ⟨xv,rfl⟩:∃ xv:Int,x=.int xv:=by
      obtain rfl | rfl:j=0\/j=1:=by omega
      ·exact ⟨_,(Option.some.inj hx).symm⟩
      ·exact ⟨_,(Option.some.inj hx).symm⟩
     have e59:=e7.trans (e8.trans e9)
     have hrow:H9 c'=some (.lst [.int t.1.p,.int t.1.q,.int t.1.w,.int t.1.u,.int t.1.a,.int t.1.y,.int t.1.r,.str t.2]):=e59.at (hL.q.R.2.2 i c' t hc' ht)
     walk_at "x"
     refine zM ?_
     refine ⟨b,d,ro,as,N,y,_,_,W,ts,rfl,hBB.same e59,N0,fun H10 e10=>?_⟩
     walk_at "x"
     exact ⟨_,rfl,e9.trans e10⟩
    ·rintro σ' H9 ⟨r10,rfl,e9⟩
     exact ⟨_,_,rfl,e7.trans (e8.trans e9)⟩
   ·rintro σ' H7 ⟨q10',q12,rfl,e7⟩
    walk_at "x"
    refine zM ?_
    exact ⟨b,d,ro,as,N,y,W,ts,rfl,hBB.same e7,N0,by omega,k⟩
end
theorem fin {P:Program} {w:World} {K:PySem.W.Frag} {mg:Str->Option Value} {fa:Addr} (T:Txt K mg) (hfa:mg "law" = some (.ref fa)) :
  ∃ fd:FuncData,(∀ (s:Shared) (v:Value),BindsTo s fd ⟨[v],[]⟩ [("_law_script",v)])/\∀ base:Heap,K.In base->base.Ns mainGlobals mg->FnOk P w K mg base (CXF P w) 6 fa fd ["_law_script"] (zft K):=by
 have e:=hfa.symm.trans T.d_law.m
 cases e
 exact ⟨_,T.bl_law,fun base _ _=>zkR T⟩
theorem walk {l:PySem.W.OpenLaw} {q:Program} {loose:List Str} {XP:(Str->Option Value)->Heap->Prop} {YP:World->Heap->Prop} {d:DefRec} {K:Params->PySem.W.Frag} (hn:l.most=some 63) (hdf:d.params.defaults=[])
  (hY:∀ (w:World) (h:Heap),YP w h->(K w.params).In h)
  (F:∀ (w:World) (mg:Str->Option Value) (fa:Addr) (h:Heap),(K w.params).In h->h.Ns mainGlobals mg->mg d.name=some (.ref fa) ->
   ∃ fd:FuncData,(∀ (s:Shared) (u:Value),BindsTo s fd ⟨[u],[]⟩ [("_law_script",u)])/\∀ base:Heap,(K w.params).In base->base.Ns mainGlobals mg->FnOk l.prog w (K w.params) mg base (CXF l.prog w) 6 fa fd ["_law_script"] (zft (K w.params))) :
  PySem.W.WalkO q loose XP YP l.row.toRowW d [] (fun f vs=>PySem.call f vs):=
 Internal.walk_of (n:=63) (k:=6) (x := "_law_script") (CX:=fun w=>CXF l.prog w) (sp:=fun w=>zft (K w.params)) hn (by decide) hdf ⟨rfl,by decide,by decide⟩ hY F (fun _ _ a ns hl _ hS=>⟨a,ns,rfl,hS,hl,fun _=>rfl⟩) fun _ H s e s' z=>zx _ H s e s' z
end Internal.K
theorem PySem.W.Fast.tw14637917184345101962:True:=trivial
theorem PySem.W.Fast.tw17877375183705437650:True:=trivial
theorem PySem.W.Fast.tw14726788813837604287:True:=trivial
theorem PySem.W.Fast.tw5885683605925903060:True:=trivial
theorem PySem.W.Fast.tw11969360634339627814:True:=trivial
theorem PySem.W.Fast.tw6335401957345869446:True:=trivial
theorem PySem.W.Fast.tw11449684564899199674:True:=trivial
theorem PySem.W.Fast.tw15430159857296007509:True:=trivial
theorem PySem.W.Fast.tw5819012072492328241:True:=trivial
theorem PySem.W.Fast.tw2077305323955900260:True:=trivial
theorem PySem.W.Fast.tw204986542146487982:True:=trivial
theorem PySem.W.Fast.tw4399305364008695965:True:=trivial
theorem PySem.W.Fast.tw7846538754266551260:True:=trivial
theorem PySem.W.Fast.tw12859862587033300504:True:=trivial
theorem PySem.W.Fast.tw7658634278378315936:True:=trivial
theorem PySem.W.Fast.tw17032503193244494787:True:=trivial
theorem PySem.W.Fast.tw17963804488496823533:True:=trivial
theorem PySem.W.Fast.tw6195973925830682408:True:=trivial
theorem PySem.W.Fast.tw4344898790093686012:True:=trivial
theorem PySem.W.Fast.tw4116770045111125267:True:=trivial
theorem PySem.W.Fast.tw9882264816627499251:True:=trivial
theorem PySem.W.Fast.tw9037373705845273269:True:=trivial
theorem PySem.W.Fast.tw7190331236232930704:True:=trivial
theorem PySem.W.Fast.tw6915299178137731054:True:=trivial
theorem PySem.W.Fast.tw4461033070277833503:True:=trivial
theorem PySem.W.Fast.tw10736699733856116088:True:=trivial
theorem PySem.W.Fast.tw4027472820487327332:True:=trivial
theorem PySem.W.Fast.tw9110774740731479253:True:=trivial
theorem PySem.W.Fast.tw4931209233984768999:True:=trivial
theorem PySem.W.Fast.tw15673896340594026119:True:=trivial
theorem PySem.W.Fast.tw15525711996477744478:True:=trivial
theorem PySem.W.Fast.tw1701944063263213003:True:=trivial
theorem PySem.W.Fast.tw5266377360412782285:True:=trivial
open PySem PySem.W PyProof.Rows
set_option maxRecDepth 100000 in
set_option maxHeartbeats 0 in
theorem PySem.Challenge.cw_quits_k73_whole_book_holds : PySem.Challenge.rw_quits_k73_whole_book.Holds := by
 w_on; o_law; k_head; (case hw=>w_witness2)
 k_fill
 refine Internal.K.walk (l:=PySem.Challenge.rw_quits_k73_whole_book) rfl rfl (fun w h Y=>PySem.W.kIn_of Y) ?F
 case F=>
  intro w mg fa h KX G hmg
  refine Internal.K.fin ?T hmg
  case T=>
   refine' Internal.K.txt_mk KX G ?m_Closed ?m_Gone ?m_NoDeal ?m_NoMember ?m_NoTerms ?m_QuitsError ?m_Settled ?m_Standing ?hd_Closed ?ty_Closed ?hd_Gone ?ty_Gone ?hd_NoDeal ?ty_NoDeal ?hd_NoMember ?ty_NoMember ?hd_NoTerms ?ty_NoTerms ?hd_QuitsError ?ty_QuitsError ?hd_Settled ?ty_Settled ?hd_Standing ?ty_Standing ?sn_ ?tk_ ?b_QuitsError ?x_Closed ?ga_Closed ?gn_Closed ?be_Closed ?fa_Closed ?mo_Closed ?s_Closed_Closed ?s_Closed_Gone ?n_Closed_Gone ?s_Closed_NoDeal ?n_Closed_NoDeal ?s_Closed_NoMember ?n_Closed_NoMember ?s_Closed_NoTerms ?n_Closed_NoTerms ?s_Closed_QuitsError ?n_Closed_QuitsError ?s_Closed_Settled ?n_Closed_Settled ?s_Closed_Standing ?n_Closed_Standing ?v_Closed ?x_Gone ?ga_Gone ?gn_Gone ?be_Gone ?fa_Gone ?mo_Gone ?s_Gone_Closed ?n_Gone_Closed ?s_Gone_Gone ?s_Gone_NoDeal ?n_Gone_NoDeal ?s_Gone_NoMember ?n_Gone_NoMember ?s_Gone_NoTerms ?n_Gone_NoTerms ?s_Gone_QuitsError ?n_Gone_QuitsError ?s_Gone_Settled ?n_Gone_Settled ?s_Gone_Standing ?n_Gone_Standing ?v_Gone ?x_NoDeal ?ga_NoDeal ?gn_NoDeal ?be_NoDeal ?fa_NoDeal ?mo_NoDeal ?s_NoDeal_Closed ?n_NoDeal_Closed ?s_NoDeal_Gone ?n_NoDeal_Gone ?s_NoDeal_NoDeal ?s_NoDeal_NoMember ?n_NoDeal_NoMember ?s_NoDeal_NoTerms ?n_NoDeal_NoTerms ?s_NoDeal_QuitsError ?n_NoDeal_QuitsError ?s_NoDeal_Settled ?n_NoDeal_Settled ?s_NoDeal_Standing ?n_NoDeal_Standing ?v_NoDeal ?x_NoMember ?ga_NoMember ?gn_NoMember ?be_NoMember ?fa_NoMember ?mo_NoMember ?s_NoMember_Closed ?n_NoMember_Closed ?s_NoMember_Gone ?n_NoMember_Gone ?s_NoMember_NoDeal ?n_NoMember_NoDeal ?s_NoMember_NoMember ?s_NoMember_NoTerms ?n_NoMember_NoTerms ?s_NoMember_QuitsError ?n_NoMember_QuitsError ?s_NoMember_Settled ?n_NoMember_Settled ?s_NoMember_Standing ?n_NoMember_Standing ?v_NoMember ?x_NoTerms ?ga_NoTerms ?gn_NoTerms ?be_NoTerms ?fa_NoTerms ?mo_NoTerms ?s_NoTerms_Closed ?n_NoTerms_Closed ?s_NoTerms_Gone ?n_NoTerms_Gone ?s_NoTerms_NoDeal ?n_NoTerms_NoDeal ?s_NoTerms_NoMember ?n_NoTerms_NoMember ?s_NoTerms_NoTerms ?s_NoTerms_QuitsError ?n_NoTerms_QuitsError ?s_NoTerms_Settled ?n_NoTerms_Settled ?s_NoTerms_Standing ?n_NoTerms_Standing ?v_NoTerms ?x_Settled ?ga_Settled ?gn_Settled ?be_Settled ?fa_Settled ?mo_Settled ?s_Settled_Closed ?n_Settled_Closed ?s_Settled_Gone ?n_Settled_Gone ?s_Settled_NoDeal ?n_Settled_NoDeal ?s_Settled_NoMember ?n_Settled_NoMember ?s_Settled_NoTerms ?n_Settled_NoTerms ?s_Settled_QuitsError ?n_Settled_QuitsError ?s_Settled_Settled ?s_Settled_Standing ?n_Settled_Standing ?v_Settled ?x_Standing ?ga_Standing ?gn_Standing ?be_Standing ?fa_Standing ?mo_Standing ?s_Standing_Closed ?n_Standing_Closed ?s_Standing_Gone ?n_Standing_Gone ?s_Standing_NoDeal ?n_Standing_NoDeal ?s_Standing_NoMember ?n_Standing_NoMember ?s_Standing_NoTerms ?n_Standing_NoTerms ?s_Standing_QuitsError ?n_Standing_QuitsError ?s_Standing_Settled ?n_Standing_Settled ?s_Standing_Standing ?v_Standing ?m_Book ?pg_Book ?hd_Book ?po_Book ?sa_Book ?mk_Book ?kc_Book ?na_Book_day ?na_Book_deals ?na_Book_get ?na_Book_many ?na_Book_wares ?g_AMOUNT ?g_DAY ?g_MOST_AMOUNT ?g_MOST_DAY ?g_MOST_UNITS ?g_PAYEE ?g_PAYER ?g_RANK ?g_STATE ?g_UNITS ?g_WARE ?a_Book___init__ ?i_Book___init__ ?l_Book___init__ ?c_Book___init__ ?k_Book___init__ ?a_Book_strike ?i_Book_strike ?l_Book_strike ?c_Book_strike ?k_Book_strike ?a_Book_check_members ?i_Book_check_members ?l_Book_check_members ?c_Book_check_members ?k_Book_check_members ?a_Book_check_terms ?i_Book_check_terms ?l_Book_check_terms ?c_Book_check_terms ?k_Book_check_terms ?a_Book_change ?i_Book_change ?l_Book_change ?c_Book_change ?k_Book_change ?a_Book_break_off ?i_Book_break_off ?l_Book_break_off ?c_Book_break_off ?k_Book_break_off ?a_Book_standing_deal ?i_Book_standing_deal ?l_Book_standing_deal ?c_Book_standing_deal ?k_Book_standing_deal ?a_Book_put_state ?i_Book_put_state ?l_Book_put_state ?c_Book_put_state ?k_Book_put_state ?a_Book_break_all ?i_Book_break_all ?l_Book_break_all ?c_Book_break_all ?k_Book_break_all ?a_Book_contrary ?i_Book_contrary ?l_Book_contrary ?c_Book_contrary ?k_Book_contrary ?a_Book_contrary_terms ?i_Book_contrary_terms ?l_Book_contrary_terms ?c_Book_contrary_terms ?k_Book_contrary_terms ?a_Book_close ?i_Book_close ?l_Book_close ?c_Book_close ?k_Book_close ?a_Book_today ?i_Book_today ?l_Book_today ?c_Book_today ?k_Book_today ?a_Book_struck ?i_Book_struck ?l_Book_struck ?c_Book_struck ?k_Book_struck ?a_Book_deal ?i_Book_deal ?l_Book_deal ?c_Book_deal ?k_Book_deal ?a_Book_numbers_on ?i_Book_numbers_on ?l_Book_numbers_on ?c_Book_numbers_on ?k_Book_numbers_on ?a_Book_sheet_on ?i_Book_sheet_on ?l_Book_sheet_on ?c_Book_sheet_on ?k_Book_sheet_on ?a_Book_entries ?i_Book_entries ?l_Book_entries ?c_Book_entries ?k_Book_entries ?a_Book_position ?i_Book_position ?l_Book_position ?c_Book_position ?k_Book_position ?a__law_cell ?l__law_cell ?c__law_cell ?k__law_cell ?a__law_draw ?l__law_draw ?c__law_draw ?k__law_draw ?a__law_great ?l__law_great ?c__law_great ?k__law_great ?a__law_field ?l__law_field ?c__law_field ?k__law_field ?a__law_day ?l__law_day ?c__law_day ?k__law_day ?a__law_number ?l__law_number ?c__law_number ?k__law_number ?a__law_deed ?l__law_deed ?c__law_deed ?k__law_deed ?a__law_name ?l__law_name ?c__law_name ?k__law_name ?a__law_done ?l__law_done ?c__law_done ?k__law_done ?a__law_found ?l__law_found ?c__law_found ?k__law_found ?a__law_struck ?l__law_struck ?c__law_struck ?k__law_struck ?a__law_turned ?l__law_turned ?c__law_turned ?k__law_turned ?a__law_set_right ?l__law_set_right ?c__law_set_right ?k__law_set_right ?a__law_marked ?l__law_marked ?c__law_marked ?k__law_marked ?a__law_due ?l__law_due ?c__law_due ?k__law_due ?a__law_entries_due ?l__law_entries_due ?c__law_entries_due ?k__law_entries_due ?a__law_position_due ?l__law_position_due ?c__law_position_due ?k__law_position_due ?a__law_looked ?l__law_looked ?c__law_looked ?k__law_looked ?a__law_evened ?l__law_evened ?c__law_evened ?k__law_evened ?a_law ?l_law ?c_law ?k_law ?w_ValueError ?w_bool ?w_enumerate ?w_isinstance ?w_len ?w_list ?w_max ?w_min ?w_range ?w_sorted ?w_tuple
   (case m_Closed=>k_is)
   (case m_Gone=>k_is)
   (case m_NoDeal=>k_is)
   (case m_NoMember=>k_is)
   (case m_NoTerms=>k_is)
   (case m_QuitsError=>k_is)
   (case m_Settled=>k_is)
   (case m_Standing=>k_is)
   (case hd_Closed=>k_is)
   (case ty_Closed=>k_is)
   (case hd_Gone=>k_is)
   (case ty_Gone=>k_is)
   (case hd_NoDeal=>k_is)
   (case ty_NoDeal=>k_is)
   (case hd_NoMember=>k_is)
   (case ty_NoMember=>k_is)
   (case hd_NoTerms=>k_is)
   (case ty_NoTerms=>k_is)
   (case hd_QuitsError=>k_is)
   (case ty_QuitsError=>k_is)
   (case hd_Settled=>k_is)
   (case ty_Settled=>k_is)
   (case hd_Standing=>k_is)
   (case ty_Standing=>k_is)
   (case sn_=>k_is)
   (case tk_=>k_is)
   (case b_QuitsError=>k_is)
   (case x_Closed=>k_exc)
   (case ga_Closed=>k_is)
   (case gn_Closed=>k_is)
   (case be_Closed=>k_is)
   (case fa_Closed=>k_is)
   (case mo_Closed=>k_is)
   (case s_Closed_Closed=>k_is)
   (case s_Closed_Gone=>k_is)
   (case n_Closed_Gone=>decide)
   (case s_Closed_NoDeal=>k_is)
   (case n_Closed_NoDeal=>decide)
   (case s_Closed_NoMember=>k_is)
   (case n_Closed_NoMember=>decide)
   (case s_Closed_NoTerms=>k_is)
   (case n_Closed_NoTerms=>decide)
   (case s_Closed_QuitsError=>k_is)
   (case n_Closed_QuitsError=>decide)
   (case s_Closed_Settled=>k_is)
   (case n_Closed_Settled=>decide)
   (case s_Closed_Standing=>k_is)
   (case n_Closed_Standing=>decide)
   (case v_Closed=>k_is)
   (case x_Gone=>k_exc)
   (case ga_Gone=>k_is)
   (case gn_Gone=>k_is)
   (case be_Gone=>k_is)
   (case fa_Gone=>k_is)
   (case mo_Gone=>k_is)
   (case s_Gone_Closed=>k_is)
   (case n_Gone_Closed=>decide)
   (case s_Gone_Gone=>k_is)
   (case s_Gone_NoDeal=>k_is)
   (case n_Gone_NoDeal=>decide)
   (case s_Gone_NoMember=>k_is)
   (case n_Gone_NoMember=>decide)
   (case s_Gone_NoTerms=>k_is)
   (case n_Gone_NoTerms=>decide)
   (case s_Gone_QuitsError=>k_is)
   (case n_Gone_QuitsError=>decide)
   (case s_Gone_Settled=>k_is)
   (case n_Gone_Settled=>decide)
   (case s_Gone_Standing=>k_is)
   (case n_Gone_Standing=>decide)
   (case v_Gone=>k_is)
   (case x_NoDeal=>k_exc)
   (case ga_NoDeal=>k_is)
   (case gn_NoDeal=>k_is)
   (case be_NoDeal=>k_is)
   (case fa_NoDeal=>k_is)
   (case mo_NoDeal=>k_is)
   (case s_NoDeal_Closed=>k_is)
   (case n_NoDeal_Closed=>decide)
   (case s_NoDeal_Gone=>k_is)
   (case n_NoDeal_Gone=>decide)
   (case s_NoDeal_NoDeal=>k_is)
   (case s_NoDeal_NoMember=>k_is)
   (case n_NoDeal_NoMember=>decide)
   (case s_NoDeal_NoTerms=>k_is)
   (case n_NoDeal_NoTerms=>decide)
   (case s_NoDeal_QuitsError=>k_is)
   (case n_NoDeal_QuitsError=>decide)
   (case s_NoDeal_Settled=>k_is)
   (case n_NoDeal_Settled=>decide)
   (case s_NoDeal_Standing=>k_is)
   (case n_NoDeal_Standing=>decide)
   (case v_NoDeal=>k_is)
   (case x_NoMember=>k_exc)
   (case ga_NoMember=>k_is)
   (case gn_NoMember=>k_is)
   (case be_NoMember=>k_is)
   (case fa_NoMember=>k_is)
   (case mo_NoMember=>k_is)
   (case s_NoMember_Closed=>k_is)
   (case n_NoMember_Closed=>decide)
   (case s_NoMember_Gone=>k_is)
   (case n_NoMember_Gone=>decide)
   (case s_NoMember_NoDeal=>k_is)
   (case n_NoMember_NoDeal=>decide)
   (case s_NoMember_NoMember=>k_is)
   (case s_NoMember_NoTerms=>k_is)
   (case n_NoMember_NoTerms=>decide)
   (case s_NoMember_QuitsError=>k_is)
   (case n_NoMember_QuitsError=>decide)
   (case s_NoMember_Settled=>k_is)
   (case n_NoMember_Settled=>decide)
   (case s_NoMember_Standing=>k_is)
   (case n_NoMember_Standing=>decide)
   (case v_NoMember=>k_is)
   (case x_NoTerms=>k_exc)
   (case ga_NoTerms=>k_is)
   (case gn_NoTerms=>k_is)
   (case be_NoTerms=>k_is)
   (case fa_NoTerms=>k_is)
   (case mo_NoTerms=>k_is)
   (case s_NoTerms_Closed=>k_is)
   (case n_NoTerms_Closed=>decide)
   (case s_NoTerms_Gone=>k_is)
   (case n_NoTerms_Gone=>decide)
   (case s_NoTerms_NoDeal=>k_is)
   (case n_NoTerms_NoDeal=>decide)
   (case s_NoTerms_NoMember=>k_is)
   (case n_NoTerms_NoMember=>decide)
   (case s_NoTerms_NoTerms=>k_is)
   (case s_NoTerms_QuitsError=>k_is)
   (case n_NoTerms_QuitsError=>decide)
   (case s_NoTerms_Settled=>k_is)
   (case n_NoTerms_Settled=>decide)
   (case s_NoTerms_Standing=>k_is)
   (case n_NoTerms_Standing=>decide)
   (case v_NoTerms=>k_is)
   (case x_Settled=>k_exc)
   (case ga_Settled=>k_is)
   (case gn_Settled=>k_is)
   (case be_Settled=>k_is)
   (case fa_Settled=>k_is)
   (case mo_Settled=>k_is)
   (case s_Settled_Closed=>k_is)
   (case n_Settled_Closed=>decide)
   (case s_Settled_Gone=>k_is)
   (case n_Settled_Gone=>decide)
   (case s_Settled_NoDeal=>k_is)
   (case n_Settled_NoDeal=>decide)
   (case s_Settled_NoMember=>k_is)
   (case n_Settled_NoMember=>decide)
   (case s_Settled_NoTerms=>k_is)
   (case n_Settled_NoTerms=>decide)
   (case s_Settled_QuitsError=>k_is)
   (case n_Settled_QuitsError=>decide)
   (case s_Settled_Settled=>k_is)
   (case s_Settled_Standing=>k_is)
   (case n_Settled_Standing=>decide)
   (case v_Settled=>k_is)
   (case x_Standing=>k_exc)
   (case ga_Standing=>k_is)
   (case gn_Standing=>k_is)
   (case be_Standing=>k_is)
   (case fa_Standing=>k_is)
   (case mo_Standing=>k_is)
   (case s_Standing_Closed=>k_is)
   (case n_Standing_Closed=>decide)
   (case s_Standing_Gone=>k_is)
   (case n_Standing_Gone=>decide)
   (case s_Standing_NoDeal=>k_is)
   (case n_Standing_NoDeal=>decide)
   (case s_Standing_NoMember=>k_is)
   (case n_Standing_NoMember=>decide)
   (case s_Standing_NoTerms=>k_is)
   (case n_Standing_NoTerms=>decide)
   (case s_Standing_QuitsError=>k_is)
   (case n_Standing_QuitsError=>decide)
   (case s_Standing_Settled=>k_is)
   (case n_Standing_Settled=>decide)
   (case s_Standing_Standing=>k_is)
   (case v_Standing=>k_is)
   (case m_Book=>k_is)
   (case pg_Book=>k_is)
   (case hd_Book=>k_is)
   (case po_Book=>k_is)
   (case sa_Book=>k_is)
   (case mk_Book=>k_is)
   (case kc_Book=>k_is)
   (case na_Book_day=>k_is)
   (case na_Book_deals=>k_is)
   (case na_Book_get=>k_is)
   (case na_Book_many=>k_is)
   (case na_Book_wares=>k_is)
   (case g_AMOUNT=>k_is)
   (case g_DAY=>k_is)
   (case g_MOST_AMOUNT=>k_is)
   (case g_MOST_DAY=>k_is)
   (case g_MOST_UNITS=>k_is)
   (case g_PAYEE=>k_is)
   (case g_PAYER=>k_is)
   (case g_RANK=>k_is)
   (case g_STATE=>k_is)
   (case g_UNITS=>k_is)
   (case g_WARE=>k_is)
   (case a_Book___init__=>k_is)
   (case i_Book___init__=>k_is)
   (case l_Book___init__=>k_is)
   (case c_Book___init__=>k_is)
   (case k_Book___init__=>k_is)
   (case a_Book_strike=>k_is)
   (case i_Book_strike=>k_is)
   (case l_Book_strike=>k_is)
   (case c_Book_strike=>k_is)
   (case k_Book_strike=>k_is)
   (case a_Book_check_members=>k_is)
   (case i_Book_check_members=>k_is)
   (case l_Book_check_members=>k_is)
   (case c_Book_check_members=>k_is)
   (case k_Book_check_members=>k_is)
   (case a_Book_check_terms=>k_is)
   (case i_Book_check_terms=>k_is)
   (case l_Book_check_terms=>k_is)
   (case c_Book_check_terms=>k_is)
   (case k_Book_check_terms=>k_is)
   (case a_Book_change=>k_is)
   (case i_Book_change=>k_is)
   (case l_Book_change=>k_is)
   (case c_Book_change=>k_is)
   (case k_Book_change=>k_is)
   (case a_Book_break_off=>k_is)
   (case i_Book_break_off=>k_is)
   (case l_Book_break_off=>k_is)
   (case c_Book_break_off=>k_is)
   (case k_Book_break_off=>k_is)
   (case a_Book_standing_deal=>k_is)
   (case i_Book_standing_deal=>k_is)
   (case l_Book_standing_deal=>k_is)
   (case c_Book_standing_deal=>k_is)
   (case k_Book_standing_deal=>k_is)
   (case a_Book_put_state=>k_is)
   (case i_Book_put_state=>k_is)
   (case l_Book_put_state=>k_is)
   (case c_Book_put_state=>k_is)
   (case k_Book_put_state=>k_is)
   (case a_Book_break_all=>k_is)
   (case i_Book_break_all=>k_is)
   (case l_Book_break_all=>k_is)
   (case c_Book_break_all=>k_is)
   (case k_Book_break_all=>k_is)
   (case a_Book_contrary=>k_is)
   (case i_Book_contrary=>k_is)
   (case l_Book_contrary=>k_is)
   (case c_Book_contrary=>k_is)
   (case k_Book_contrary=>k_is)
   (case a_Book_contrary_terms=>k_is)
   (case i_Book_contrary_terms=>k_is)
   (case l_Book_contrary_terms=>k_is)
   (case c_Book_contrary_terms=>k_is)
   (case k_Book_contrary_terms=>k_is)
   (case a_Book_close=>k_is)
   (case i_Book_close=>k_is)
   (case l_Book_close=>k_is)
   (case c_Book_close=>k_is)
   (case k_Book_close=>k_is)
   (case a_Book_today=>k_is)
   (case i_Book_today=>k_is)
   (case l_Book_today=>k_is)
   (case c_Book_today=>k_is)
   (case k_Book_today=>k_is)
   (case a_Book_struck=>k_is)
   (case i_Book_struck=>k_is)
   (case l_Book_struck=>k_is)
   (case c_Book_struck=>k_is)
   (case k_Book_struck=>k_is)
   (case a_Book_deal=>k_is)
   (case i_Book_deal=>k_is)
   (case l_Book_deal=>k_is)
   (case c_Book_deal=>k_is)
   (case k_Book_deal=>k_is)
   (case a_Book_numbers_on=>k_is)
   (case i_Book_numbers_on=>k_is)
   (case l_Book_numbers_on=>k_is)
   (case c_Book_numbers_on=>k_is)
   (case k_Book_numbers_on=>k_is)
   (case a_Book_sheet_on=>k_is)
   (case i_Book_sheet_on=>k_is)
   (case l_Book_sheet_on=>k_is)
   (case c_Book_sheet_on=>k_is)
   (case k_Book_sheet_on=>k_is)
   (case a_Book_entries=>k_is)
   (case i_Book_entries=>k_is)
   (case l_Book_entries=>k_is)
   (case c_Book_entries=>k_is)
   (case k_Book_entries=>k_is)
   (case a_Book_position=>k_is)
   (case i_Book_position=>k_is)
   (case l_Book_position=>k_is)
   (case c_Book_position=>k_is)
   (case k_Book_position=>k_is)
   (case a__law_cell=>k_is)
   (case l__law_cell=>k_is)
   (case c__law_cell=>k_is)
   (case k__law_cell=>k_is)
   (case a__law_draw=>k_is)
   (case l__law_draw=>k_is)
   (case c__law_draw=>k_is)
   (case k__law_draw=>k_is)
   (case a__law_great=>k_is)
   (case l__law_great=>k_is)
   (case c__law_great=>k_is)
   (case k__law_great=>k_is)
   (case a__law_field=>k_is)
   (case l__law_field=>k_is)
   (case c__law_field=>k_is)
   (case k__law_field=>k_is)
   (case a__law_day=>k_is)
   (case l__law_day=>k_is)
   (case c__law_day=>k_is)
   (case k__law_day=>k_is)
   (case a__law_number=>k_is)
   (case l__law_number=>k_is)
   (case c__law_number=>k_is)
   (case k__law_number=>k_is)
   (case a__law_deed=>k_is)
   (case l__law_deed=>k_is)
   (case c__law_deed=>k_is)
   (case k__law_deed=>k_is)
   (case a__law_name=>k_is)
   (case l__law_name=>k_is)
   (case c__law_name=>k_is)
   (case k__law_name=>k_is)
   (case a__law_done=>k_is)
   (case l__law_done=>k_is)
   (case c__law_done=>k_is)
   (case k__law_done=>k_is)
   (case a__law_found=>k_is)
   (case l__law_found=>k_is)
   (case c__law_found=>k_is)
   (case k__law_found=>k_is)
   (case a__law_struck=>k_is)
   (case l__law_struck=>k_is)
   (case c__law_struck=>k_is)
   (case k__law_struck=>k_is)
   (case a__law_turned=>k_is)
   (case l__law_turned=>k_is)
   (case c__law_turned=>k_is)
   (case k__law_turned=>k_is)
   (case a__law_set_right=>k_is)
   (case l__law_set_right=>k_is)
   (case c__law_set_right=>k_is)
   (case k__law_set_right=>k_is)
   (case a__law_marked=>k_is)
   (case l__law_marked=>k_is)
   (case c__law_marked=>k_is)
   (case k__law_marked=>k_is)
   (case a__law_due=>k_is)
   (case l__law_due=>k_is)
   (case c__law_due=>k_is)
   (case k__law_due=>k_is)
   (case a__law_entries_due=>k_is)
   (case l__law_entries_due=>k_is)
   (case c__law_entries_due=>k_is)
   (case k__law_entries_due=>k_is)
   (case a__law_position_due=>k_is)
   (case l__law_position_due=>k_is)
   (case c__law_position_due=>k_is)
   (case k__law_position_due=>k_is)
   (case a__law_looked=>k_is)
   (case l__law_looked=>k_is)
   (case c__law_looked=>k_is)
   (case k__law_looked=>k_is)
   (case a__law_evened=>k_is)
   (case l__law_evened=>k_is)
   (case c__law_evened=>k_is)
   (case k__law_evened=>k_is)
   (case a_law=>k_is)
   (case l_law=>k_is)
   (case c_law=>k_is)
   (case k_law=>k_is)
   (case w_ValueError=>k_is)
   (case w_bool=>k_is)
   (case w_enumerate=>k_is)
   (case w_isinstance=>k_is)
   (case w_len=>k_is)
   (case w_list=>k_is)
   (case w_max=>k_is)
   (case w_min=>k_is)
   (case w_range=>k_is)
   (case w_sorted=>k_is)
   (case w_tuple=>k_is)
