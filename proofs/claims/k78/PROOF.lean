import PyProof.Rows.All
import Wide.All
import OpenK.AllK
import Wide.FinOn
import Lean
import PyProof.EqAt
import PyProof.EqKinds
import PyProof.TupleCall
import PyProof.CompFree
import PyProof.Cells
import PyProof.EnumFor
import PyProof.EnumStmt
import PyProof.EnumMake
import PyProof.ZipIter
import PyProof.SumAny
import PyProof.MinMaxWalk
import PyProof.ConsumeWalk
import PyProof.Rows.EnumRows
import PyProof.Rows.FactsT2
import PyProof.Rows.SeqGen
import KE.KTryMore
import PyProof.ExcBaseAll.ValueError
import PyProof.ExcAttrAll.ValueError
import PyProof.ListRange
import PyProof.Rows.SortShell
import PyProof.Rows.SortWalk
import KE.KSortTup
import KE.KLam
import PyProof.SeqI3
import PyProof.Rows.CallKwBuiltin
import PyProof.Rows.SortRev
import PyProof.StrBlockI
import PyProof.MeetsStr
import PyProof.StrLawsJoin
import PyProof.MaxThree
import PySem.Challenge.RW_quits_k78_needs_and_pledges
set_option compiler.extract_closed false
set_option bootstrap.genMatcherCode false
set_option Elab.async false
set_option linter.all false
set_option maxRecDepth 100000
noncomputable section
abbrev Fg:=PySem.W.Frag
abbrev ya:=@List.length_map
abbrev yb:=@Nat.le_trans
abbrev yc:=@Nat.succ_le_succ
abbrev ye:=@PySem.W.mg_of
abbrev yf:=@List.mem_cons
abbrev yg:=@Nat.le_refl
abbrev yh:=@List.getElem?_map
abbrev yi:=@List.getD_eq_getElem?_getD
abbrev yj:=@List.size_toArray
abbrev yk:=@Bool.false_ne_true
abbrev yl:=@List.length_append
abbrev ym:=@List.getElem?_eq_some_iff
abbrev yn:=@Nat.ne_of_lt
abbrev yo:=@Option.some.inj
abbrev yp:=@Nat.lt_of_lt_of_le
abbrev yq:=@List.mem_of_getElem?
abbrev yr:=@List.getElem?_eq_getElem
abbrev yt:=@List.lookup_cons
abbrev yu:=@List.mem_singleton
abbrev yv:=@List.mem_append
abbrev yw:=@List.mem_append_right
abbrev yx:=@List.map_append
abbrev yy:=@Int.toNat_natCast
abbrev yz:=@List.not_mem_nil
abbrev yA:=@Bool.and_eq_true
abbrev yB:=@PySem.W.mg_none_of
abbrev yC:=@PySem.F.plainAttrs_list
abbrev yD:=@Nat.lt_of_le_of_lt
abbrev yE:=@List.mem_cons_of_mem
abbrev yF:=@PySem.F.slot_list_append
abbrev yG:=@PySem.F.type_list_append
abbrev yH:=@List.map_cons
abbrev yI:=@PySem.W.kia_one
abbrev yJ:=@List.nodup_cons
abbrev yK:=@Int.mul_le_mul_of_nonneg_right
abbrev yL:=@Int.emod_lt_of_pos
abbrev yM:=@List.length_cons
abbrev yN:=@Nat.lt_irrefl
abbrev yO:=@List.mem_append_left
abbrev yP:=@List.nodup_nil
abbrev yQ:=@List.append_nil
abbrev yR:=@Int.emod_nonneg
abbrev yS:=@List.replicate_succ
abbrev yT:=@Nat.zero_le
abbrev yU:=@List.length_take
abbrev yV:=@List.mem_cons_self
abbrev yW:=@Int.le_refl
abbrev yX:=@PySem.SeqAt.eqv_refl
abbrev yY:=@List.nodup_append
abbrev yZ:=@List.getElem_of_mem
abbrev y3:=@Nat.lt_succ_self
abbrev y4:=@PyProof.Rows.callWith_type1
abbrev y6:=@List.length_range
abbrev y8:=@List.mem_range
abbrev y9:=@Nat.le_of_lt
abbrev yaa:=@Array.length_toList
abbrev yab:=@PySem.mem_of_lookup
abbrev yac:=@PyProof.Rows.slot_tuple_getitem
abbrev yad:=@List.getElem?_replicate
abbrev yae:=@PySem.W.callWith_K
abbrev yaf:=@List.getElem?_set_self
abbrev yag:=@List.flatten_cons
abbrev yah:=@Rat.divInt_eq_div
abbrev yai:=@Classical.not_not
abbrev yaj:=@Ne.symm
abbrev yak:=@Int.le_of_lt
abbrev yal:=@Int.mul_ediv_add_emod
abbrev yam:=@Array.getD_eq_getD_getElem?
abbrev yan:=@List.getElem?_set_ne
abbrev yao:=@List.getElem?_append
abbrev yap:=@List.length_set
abbrev yaq:=@List.getElem?_eq_none_iff
abbrev yar:=@Bool.false_eq_true
abbrev yas:=@List.mem_map
abbrev yat:=@Rat.div_mul_cancel
abbrev yau:=@PySem.W.cellsFrom_some
abbrev yav:=@List.all_cons
abbrev yaw:=@List.take_length
abbrev yax:=@List.length_singleton
abbrev yay:=@Bool.eq_iff_iff
abbrev yaz:=@PySem.W.looks_findIn
abbrev yaA:=@List.of_mem_zip
abbrev yaB:=@List.foldl_cons
abbrev yaC:=@Nat.not_lt
abbrev yaD:=@Nat.lt_trans
abbrev yaE:=@Rat.mul_le_mul_of_nonneg_right
abbrev yaF:=@Int.mul_le_mul_of_nonneg_left
abbrev yaG:=@List.filterMap_cons
abbrev yaH:=@PySem.W.plainGet_of
abbrev yaI:=@List.mem_filterMap
abbrev yaJ:=@Rat.mul_lt_mul_of_pos_right
abbrev yaK:=@List.append_assoc
abbrev yaL:=@Nat.le_of_succ_le
abbrev yaM:=@Nat.lt_succ_of_lt
abbrev yaN:=@List.ext_getElem?
abbrev yaO:=@Int.not_lt
abbrev yaP:=@Nat.le_of_eq
abbrev yaQ:=@List.all_eq_true
abbrev yaR:=@List.forIn_cons
namespace Internal
theorem aut0(h:True:=by first | exact .inl rfl | exact .inr rfl | assumption):True:=h
theorem aut1(h:True:=by decide):True:=h
theorem aut2(h:True:=by rfl):True:=h
theorem aut3(h:True:=by intro _;rfl):True:=h
theorem aut4(h:True:=by intros;rfl):True:=h
theorem aut5(h:True:=by exact fun _ _ _ _ _=>rfl):True:=h
open PySem PySem.Spec PyProof.Rows
abbrev Key:=Sum Int Str
def zk1:Key->Value->Bool
 | .inl k,v=>Value.isInt k v
 | .inr x,v=>Value.isStrOf x v
def zoz(w:World):Key->Int
 | .inl k=>hashInt k
 | .inr x=>hashStr w x
theorem zaT:∀{k:Key} {v:Value},zk1 k v=true->(∃i t,k=Sum.inl i/\v=Value.int i t)\/(∃x t,k=Sum.inr x/\v=Value.str x t)
 | .inl i,v,h=>by
  obtain⟨t,e⟩:=Value.isInt_shape (k:=i) (v:=v) h
  exact .inl ⟨i,t,rfl,e⟩
 | .inr x,v,h=>by
  obtain⟨t,e⟩:=Value.isStrOf_shape (x:=x) (v:=v) h
  exact .inr ⟨x,t,rfl,e⟩
theorem zmc(a b:Int):decide ((Sum.inl a:Key)=Sum.inl b)=(a == b):=by
 by_cases e:a=b
 ·subst e;simp
 ·have h:¬(Sum.inl a:Key)=Sum.inl b:=fun q=>e (Sum.inl.inj q)
  rw[decide_eq_false h]
  exact(beq_eq_false_iff_ne.mpr e).symm
theorem zny(a b:Str):decide ((Sum.inr a:Key)=Sum.inr b)=decide (a=b):=by
 by_cases e:a=b
 ·subst e;simp
 ·have h:¬(Sum.inr a:Key)=Sum.inr b:=fun q=>e (Sum.inr.inj q)
  rw[decide_eq_false h,decide_eq_false e]
theorem zmR(a:Int)(b:Str):decide ((Sum.inl a:Key)=Sum.inr b)=false:=decide_eq_false (fun q=>nomatch q)
theorem znp(a:Str)(b:Int):decide ((Sum.inr a:Key)=Sum.inl b)=false:=decide_eq_false (fun q=>nomatch q)
def ze4(prog:Program)(w:World):PySem.KeyKind prog w Key where
 is:=zk1
 hash:=zoz w
 inj:=fun v a b ha hb=>by
  rcases zaT ha with⟨i,t,rfl,rfl⟩ | ⟨x,t,rfl,rfl⟩
  ·rcases zaT hb with⟨j,u,rfl,e⟩ | ⟨y,u,rfl,e⟩
   ·injection e with e1 _;rw[e1]
   ·exact nomatch e
  ·rcases zaT hb with⟨j,u,rfl,e⟩ | ⟨y,u,rfl,e⟩
   ·exact nomatch e
   ·injection e with e1 _;rw[e1]
 byValue:=fun k v h=>by
  rcases zaT h with⟨i,t,rfl,rfl⟩ | ⟨x,t,rfl,rfl⟩<;>rfl
 pyHash:=fun hv h=>by
  rcases zaT hv with⟨i,t,rfl,rfl⟩ | ⟨x,t,rfl,rfl⟩
  ·exact wpAny_pyHash_int h
  ·exact wpAny_pyHash_str h
 eqBool:=fun hu hv h=>by
  rcases zaT hu with⟨i,t,rfl,rfl⟩ | ⟨x,t,rfl,rfl⟩
  ·rcases zaT hv with⟨j,u,rfl,rfl⟩ | ⟨y,u,rfl,rfl⟩
   ·rw[zmc]at h;exact wpAny_eqBool_int h
   ·rw[zmR]at h;exact SeqAt.EqAt.int_str i t y u _ _ _ _ h
  ·rcases zaT hv with⟨j,u,rfl,rfl⟩ | ⟨y,u,rfl,rfl⟩
   ·rw[znp]at h;exact SeqAt.EqAt.str_int x t j u _ _ _ _ h
   ·rw[zny]at h;exact wpAny_eqBool_str h
 «strs»:=fun k x t v h=>by
  rcases zaT h with⟨i,u,rfl,e⟩ | ⟨y,u,rfl,e⟩
  ·exact nomatch e
  ·injection e with e1 _
   subst e1
   cases v<;>rfl
inductive V where
 | non | bl (b:Bool) | int (i:Int) | str (x:Str) | byt (b:Array UInt8) | flt (b:UInt64) | ref (a:Addr) | ty (n:String)
 deriving DecidableEq
def RelV:V->Value->Prop
 | .non,u=>u=Value.none
 | .bl b,u=>u=Value.bool b
 | .int i,u=>∃t,u=Value.int i t
 | .str x,u=>∃t,u=Value.str x t
 | .byt b,u=>∃t,u=Value.bytes b t
 | .flt b,u=>∃t,u=Value.float b t
 | .ref a,u=>u=Value.ref a
 | .ty n,u=>u=Value.type n
abbrev Vals:List V->List Value->Prop:=Paired RelV
theorem Vals.length{xs:List V}{us:List Value}(r:Vals xs us):xs.length=us.length:=Paired.length r
theorem Vals.get:∀{xs:List V} {us:List Value} {i:Nat} {x:V},Vals xs us->xs[i]?=some x->∃u,us[i]?=some u/\RelV x u
 | _,_,_,_,.nil,e=>by simp at e
 | _,_,0,_,.cons r _,e=>by simp at e;subst e;exact⟨_,rfl,r⟩
 | _,_,i+1,x,.cons _ t,e=>by
  obtain⟨u,h1,h2⟩:=Vals.get (i:=i) (x:=x) t (by simpa using e)
  exact⟨u,by simpa using h1,h2⟩
theorem Vals.set{x:V}{u:Value}(r:RelV x u):∀{xs:List V} {us:List Value} (i:Nat),Vals xs us->Vals (xs.set i x) (us.set i u)
 | _,_,_,.nil=>.nil
 | _,_,0,.cons _ t=>.cons r t
 | _,_,i+1,.cons q t=>.cons q (Vals.set r i t)
theorem Vals.append:∀{xs ys:List V} {us ws:List Value},Vals xs us->Vals ys ws->Vals (xs++ys) (us++ws)
 | _,_,_,_,.nil,s=>s
 | _,_,_,_,.cons r t,s=>.cons r (Vals.append t s)
theorem Vals.take:∀{xs:List V} {us:List Value} (n:Nat),Vals xs us->Vals (xs.take n) (us.take n)
 | _,_,0,_=>.nil
 | _,_,_+1,.nil=>.nil
 | _,_,n+1,.cons r t=>.cons r (Vals.take n t)
theorem Vals.drop:∀{xs:List V} {us:List Value} (n:Nat),Vals xs us->Vals (xs.drop n) (us.drop n)
 | _,_,0,r=>r
 | _,_,_+1,.nil=>.nil
 | _,_,n+1,.cons _ t=>Vals.drop n t
def RelO:Option V->Option Value->Prop
 | some v,some u=>RelV v u
 | none,none=>True
 | _,_=>False
def KV{κ:Type}:List (κ × V)->List (κ × Value)->Prop:=Paired fun(p:κ × V) (q:κ × Value)=>p.1=q.1/\RelV p.2 q.2
def kV:Key->V
 | .inl i=>.int i
 | .inr x=>.str x
inductive HO where
 /-- a list -/
 | lst (xs:List V)
 /-- a tuple (never changes) -/
 | tup (xs:List V)
 /-- a dict whose keys are ints and texts;one whose keys are tuples of ints and texts (the empty one is both) -/
 | dK (kvs:List (Key × V)) | dT (kvs:List (List Key × V))
 /-- a set of ints: its members,its size -/
 | set (S:Int->Bool) (n:Nat)
 /-- an instance of the class at C,its dict at dx,its attributes -/
 | ins (C dx:Addr) (fs:List (Str × V))
 /-- the dict of the instance at x -/
 | own (x:Addr)
 /-- the dict of an exception -/
 | xd (fs:List (Str × V))
 /-- a bound method,f of x -/
 | met (f x:Addr)
 /-- a range object lo,lo+1,.. below hi -/
 | rng (lo hi:Int)
 /-- a thing that is known to the object (the script;a dict while a loop walks it): read,never written while it is so -/
 | frz (o:Obj) (u:HO)
 /-- a code object's table -/
 | tbl (ps:Array Value)
 /-- any other thing,by what is true of its one object (a def of one's own: SetO a S n:=HO.ext fun h=>..) -/
 | ext (φ:Heap->Prop)
abbrev Hp:=Addr->Option HO
def upd(H:Hp)(a:Addr)(o:HO):Hp:=fun b=>if b=a then some o else H b
theorem zL{H:Hp}{a:Addr}{o:HO}:upd H a o a=some o:=by unfold upd;rw[if_pos rfl]
theorem zK{H:Hp}{a b:Addr}{o:HO}(h:b≠a):upd H a o b=H b:=by unfold upd;rw[if_neg h]
theorem za0{H:Hp}{a b:Addr}{o u:HO}(h:H a=some o)(h':H b=some u)(d:o≠u):a≠b:=by
 intro e;subst e;rw[h]at h';exact d (yo h')
theorem zG{H:Hp}{a b:Addr}{o:HO}(h:H a=some o)(h':H b=none):a≠b:=by
 intro e;subst e;rw[h]at h';cases h'
section
variable (P:Program)(w:World)
def ObjOk(H:Hp)(h:Heap)(a:Addr):HO->Prop
 | .lst xs=>xs.length<=sizeLine/\∃(its:List Value) (n:Nat),Vals xs its/\h.get? a=some { cls:=.type "list",data:=.seq its.toArray n }
 | .tup xs=>xs.length<=sizeLine/\∃its:List Value,Vals xs its/\IsTup h a its.toArray
 | .dK kvs=>kvs.length<=sizeLine/\(a == sysModules)=false/\∃vs,KV kvs vs/\h.DictOf (ze4 P w) a vs
 | .dT kvs=>kvs.length<=sizeLine/\(a == sysModules)=false/\∃xs:List (List Key × Addr × Value),
   Paired (fun(p:List Key × V) (q:List Key × Addr × Value)=>p.1=q.1/\H q.2.1=some (.tup (p.1.map kV))/\RelV p.2 q.2.2) kvs xs /\
   ∃o es ep,h.get? a=some o/\o.ExactDict/\o.data=.dict es ep/\es.toList=xs.map (entryOfKey (tupleKind (ze4 P w)))/\(xs.map (·.1)).Nodup
 | .set S n=>h.SetOf (intKind P w) a S n
 | .ins C dx fs=>H dx=some (.own a)/\fs.length<=1000/\dx≠a/\h.get? a=some (PySem.W.instObj C dx) /\
   ∃mA,h.Ns1 dx mA/\(∀f,RelO (fs.lookup f) (mA f))/\PySem.Within mA (fs.map (·.1))
 | .own _=>∃o,h.get? a=some o
 | .xd fs=>∃mA,h.Ns1 a mA/\∀f,RelO (fs.lookup f) (mA f)
 | .rng lo hi=>∃t u v,h.get? a=some { cls:=.type "range",data:=.fields #[.int lo t,.int hi u,.int 1 v] }
 | .frz o u=>h.get? a=some o/\ObjOk H h a u
 | .tbl ps=>h.get? a=some { cls:=.none,data:=.fields ps }
 | .met f x=>h.get? a=some (PySem.W.methodObj (.ref f) (.ref x))
 | .ext φ=>φ h/\(∃o,h.get? a=some o)/\∀h1 h2:Heap,φ h1->(∀o,h1.get? a=some o->h2.get? a=some o)->φ h2
def HOk(H:Hp)(h:Heap):Prop:=∀a o,H a=some o->ObjOk P w H h a o
end
section
variable {P:Program}{w:World}{H H':Hp}{h h':Heap}{a:Addr}{o:HO}
theorem ObjOk.lt(x:ObjOk P w H h a o):a<h.objs.size:=by
 cases o with
 | lst xs=>obtain⟨_,_,_,_,e⟩:=x;exact Heap.lt_size e
 | tup xs=>obtain⟨_,_,_,p⟩:=x;exact p.lt
 | dK kvs=>obtain⟨_,_,_,_,o,_,_,e,_⟩:=x;exact Heap.lt_size e
 | dT kvs=>obtain⟨_,_,_,_,o,_,_,e,_⟩:=x;exact Heap.lt_size e
 | set S n=>obtain⟨o,_,_,_,e,_⟩:=x;exact Heap.lt_size e
 | ins C dx fs=>obtain⟨_,_,_,e,_⟩:=x;exact Heap.lt_size e
 | own y=>obtain⟨_,e⟩:=x;exact Heap.lt_size e
 | xd fs=>obtain⟨_,⟨_,_,_,e,_⟩,_⟩:=x;exact Heap.lt_size e
 | rng lo hi=>obtain⟨_,_,_,e⟩:=x;exact Heap.lt_size e
 | frz ob u=>obtain⟨e,_⟩:=x;exact Heap.lt_size e
 | tbl ps=>exact Heap.lt_size (show h.get? a=some _ from x)
 | met f y=>exact Heap.lt_size (show h.get? a=some _ from x)
 | ext φ=>obtain⟨_,⟨_,e⟩,_⟩:=x;exact Heap.lt_size e
theorem Paired.mapP{α β:Type}{F G:α->β->Prop}:∀{l₁:List α} {l₂:List β},Paired F l₁ l₂->(∀a b,F a b->G a b)->Paired G l₁ l₂
 | _,_,.nil,_=>.nil
 | _,_,.cons r t,f=>.cons (f _ _ r) (Paired.mapP t f)
theorem ObjOk.stay(x:ObjOk P w H h a o)(k:∀b u,(b=a\/H b=some (.own a))->h.get? b=some u->h'.get? b=some u)
  (ho:∀b,H b=some (.own a)->H' b=some (.own a)) (ht:∀b xs,H b=some (.tup xs)->H' b=some (.tup xs)):ObjOk P w H' h' a o:=by
 induction o with
 | lst xs=>obtain⟨z,its,n,r,e⟩:=x;exact⟨z,its,n,r,k _ _ (.inl rfl) e⟩
 | tup xs=>obtain⟨z,its,r,ob,e,c⟩:=x;exact⟨z,its,r,ob,k _ _ (.inl rfl) e,c⟩
 | dK kvs=>obtain⟨z,y,vs,r,ob,es,ep,e,c⟩:=x;exact⟨z,y,vs,r,ob,es,ep,k _ _ (.inl rfl) e,c⟩
 | dT kvs=>
  obtain⟨z,y,xs,r,ob,es,ep,e,c⟩:=x
  exact⟨z,y,xs,Paired.mapP r fun p q z=>⟨z.1,ht _ _ z.2.1,z.2.2⟩,ob,es,ep,k _ _ (.inl rfl) e,c⟩
 | set S n=>obtain⟨ob,es,ep,t,e,c⟩:=x;exact⟨ob,es,ep,t,k _ _ (.inl rfl) e,c⟩
 | ins C dx fs=>
  obtain⟨d,z,ne,e,mA,⟨od,es,ep,e2,c⟩,r⟩:=x
  exact⟨ho _ d,z,ne,k _ _ (.inl rfl) e,mA,⟨od,es,ep,k _ _ (.inr d) e2,c⟩,r⟩
 | own y=>obtain⟨ob,e⟩:=x;exact⟨ob,k _ _ (.inl rfl) e⟩
 | xd fs=>obtain⟨mA,⟨od,es,ep,e,c⟩,r⟩:=x;exact⟨mA,⟨od,es,ep,k _ _ (.inl rfl) e,c⟩,r⟩
 | rng lo hi=>obtain⟨t,u,v,e⟩:=x;exact⟨t,u,v,k _ _ (.inl rfl) e⟩
 | frz ob u ih=>obtain⟨e,q⟩:=x;exact⟨k _ _ (.inl rfl) e,ih q⟩
 | tbl ps=>
  have e:h.get? a=some { cls:=.none,data:=.fields ps }:=x
  show h'.get? a=some { cls:=.none,data:=.fields ps }
  exact k a _ (.inl rfl) e
 | met f y=>
  have e:h.get? a=some (PySem.W.methodObj (.ref f) (.ref y)):=x
  show h'.get? a=some (PySem.W.methodObj (.ref f) (.ref y))
  exact k a _ (.inl rfl) e
 | ext φ=>obtain⟨p,⟨o,e⟩,st⟩:=x;exact⟨st _ _ p fun o q=>k _ _ (.inl rfl) q,⟨o,k _ _ (.inl rfl) e⟩,st⟩
theorem HOk.lt(x:HOk P w H h)(e:H a=some o):a<h.objs.size:=(x a o e).lt
theorem HOk.fresh(x:HOk P w H h)(e:h.objs.size<=a):H a=none:=by
 cases q:H a with
 | none=>rfl
 | some u=>exact absurd (yp (x.lt q) e) (yN _)
theorem HOk.kept(x:HOk P w H h)(k:∀b u,h.get? b=some u->h'.get? b=some u):HOk P w H h':=fun a o e=>
 (x a o e).stay (fun b u _ q=>k b u q) (fun _ q=>q) fun _ _ q=>q
theorem HOk.laid(x:HOk P w H h)(k:∀b u,h.get? b=some u->h'.get? b=some u)(hp:h.objs.size<=a)(new:ObjOk P w (upd H a o) h' a o):HOk P w (upd H a o) h':=fun b u e=>by
 have hn:=x.fresh hp
 by_cases hb:b=a
 ·subst hb;rw[zL]at e;cases e;exact new
 ·rw[zK hb]at e
  exact(x b u e).stay (fun c v _ q=>k c v q) (fun c q=>by rw[zK (zG q hn)];exact q) fun c xs q=>by rw[zK (zG q hn)];exact q
end
def Rd(H:Hp)(a:Addr)(u:HO):Prop:=H a=some u\/∃o,H a=some (.frz o u)
theorem Rd.ok{P:Program}{w:World}{H:Hp}{h:Heap}{a:Addr}{u:HO}(r:Rd H a u)(x:HOk P w H h):ObjOk P w H h a u:=by
 rcases r with r | ⟨o,r⟩
 ·exact x a u r
 ·obtain⟨_,q⟩:=x a _ r
  exact q
def Mut:Option HO->Prop
 | some (.lst _)=>True
 | some (.dK _)=>True
 | some (.dT _)=>True
 | some (.set _ _)=>True
 | some (.ins _ _ _)=>True
 | some (.ext _)=>True
 | _=>False
section
variable {P:Program}{w:World}{H:Hp}{h h':Heap}{x e:Addr}{o':HO}
theorem HOk.write(ok:HOk P w H h)(mu:Mut (H x))(he:e=x\/H e=some (.own x))(k:∀b u,b≠e->h.get? b=some u->h'.get? b=some u)(heo:∃u,h'.get? e=some u)
  (new:ObjOk P w (upd H x o') h' x o'):HOk P w (upd H x o') h':=fun b u q=>by
 have nown:∀c y,H c=some (.own y)->c≠x:=fun c y r z=>by subst z;rw[r]at mu;exact mu
 have ntup:∀c xs,H c=some (.tup xs)->c≠x:=fun c xs r z=>by subst z;rw[r]at mu;exact mu
 by_cases hb:b=x
 ·subst hb;rw[zL]at q;cases q;exact new
 ·rw[zK hb]at q
  by_cases hbe:b=e
  ·have q':H b=some (.own x):=by
    rcases he with z | z
    ·exact absurd (hbe.trans z) hb
    ·rw[hbe];exact z
   rw[q]at q';cases q'
   obtain⟨v,hv⟩:=heo
   exact⟨v,by rw[hbe];exact hv⟩
  ·refine(ok b u q).stay (fun c v hc r=>k c v ?_ r) (fun c r=>by rw[zK (nown c b r)];exact r) fun c xs r=>by rw[zK (ntup c xs r)];exact r
   rcases hc with rfl | hc
   ·exact hbe
   ·rintro rfl
    rcases he with z | z
    ·exact nown c b hc z
    ·rw[hc]at z;cases z;exact hb rfl
end
set_option genInjectivity false in
set_option genSizeOf false in
structure Un(fs ex:List Addr)(H H':Hp)(h h':Heap):Prop where
 keep:∀b o,h.get? b=some o->H b=none->b∉fs->b∉ex->h'.get? b=some o
 slot:∀b o,h.get? b=some o->H b=none->b∈fs->b∉ex->∃sl,h'.get? b=some { o with slots:=sl }
 free:∀b o,h.get? b=some o->H b=none->b∉ex->H' b=none
 there:∀b o,h.get? b=some o->b∉ex->∃o',h'.get? b=some o'
 tups:∀b xs,H b=some (.tup xs)->H' b=some (.tup xs)
 frzs:∀b o u,H b=some (.frz o u)->H' b=some (.frz o u)
 tbls:∀b ps,H b=some (.tbl ps)->∃more,H' b=some (.tbl (ps++more))
section
variable {fs fs' ex ex':List Addr}{H H1 H2:Hp}{h h1 h2 h':Heap}{a x e:Addr}{o:HO}
theorem Un.any(u:Un fs ex H H1 h h1){b:Addr}{ob:Obj}(q:h.get? b=some ob)(n:H b=none)(hx:b∉ex):∃sl,h1.get? b=some { ob with slots:=sl }:=by
 by_cases hb:b∈fs
 ·exact u.slot b ob q n hb hx
 ·exact⟨ob.slots,u.keep b ob q n hb hx⟩
theorem Un.kept(k:∀b u,h.get? b=some u->h'.get? b=some u):Un fs ex H H h h':=
 ⟨fun b ob q _ _ _=>k b ob q,fun b ob q _ _ _=>⟨ob.slots,k b ob q⟩,fun _ _ _ n _=>n,fun b ob q _=>⟨ob,k b ob q⟩,fun _ _ q=>q,fun _ _ _ q=>q,fun _ ps q=>⟨#[],by rw[q];simp⟩⟩
theorem Un.refl:Un fs ex H H h h:=Un.kept fun _ _ q=>q
theorem Un.laid(k:∀b u,h.get? b=some u->h'.get? b=some u)(hp:h.objs.size<=a)(hn:H a=none):Un fs ex H (upd H a o) h h' where
 keep:=fun b u q _ _ _=>k b u q
 slot:=fun b u q _ _ _=>⟨u.slots,k b u q⟩
 free:=fun b u q n _=>by rw[zK (yn (yp (Heap.lt_size q) hp))];exact n
 there:=fun b u q _=>⟨u,k b u q⟩
 tups:=fun b xs q=>by rw[zK (zG q hn)];exact q
 frzs:=fun b u xs q=>by rw[zK (zG q hn)];exact q
 tbls:=fun b ps q=>⟨#[],by rw[zK (zG q hn),q];simp⟩
theorem Un.write(mu:Mut (H x))(he:e=x\/H e=some (.own x))(k:∀b u,b≠e->h.get? b=some u->h'.get? b=some u)(heo:∃u,h'.get? e=some u):Un fs ex H (upd H x o) h h':=by
 have hx:∀b,H b=none->b≠x:=fun b n z=>by subst z;rw[n]at mu;exact mu
 have hb:∀b,H b=none->b≠e:=fun b n z=>by
  subst z
  rcases he with r | r
  ·exact hx b n r
  ·rw[n]at r;cases r
 have hm:∀b u,H b=some u->¬Mut (some u)->b≠x:=fun b u q nm z=>by subst z;rw[q]at mu;exact nm mu
 refine⟨fun b u q n _ _=>k b u (hb b n) q,fun b u q n _ _=>⟨u.slots,k b u (hb b n) q⟩,fun b u q n _=>by rw[zK (hx b n)];exact n,fun b u q _=>?_,
  fun b xs q=>by rw[zK (hm b _ q fun z=>z)];exact q,fun b u xs q=>by rw[zK (hm b _ q fun z=>z)];exact q,fun b ps q=>⟨#[],by rw[zK (hm b _ q fun z=>z),q];simp⟩⟩
 by_cases hbe:b=e
 ·subst hbe;exact heo
 ·exact⟨u,k b u hbe q⟩
end
def trk(h:Heap)(H:Hp):List Addr:=(List.range h.objs.size).filter fun a=>(H a).isSome
def zcV(h:Heap)(H:Hp):Heap:=PySem.W.hideAll h (trk h H)
theorem zjd(h:Heap)(H:Hp):(zcV h H).objs.size=h.objs.size:=PySem.W.hideAll_size _ _
theorem zkh{h:Heap}{H:Hp}{b:Addr}{o:Obj}(e:h.get? b=some o)(n:H b=none):(zcV h H).get? b=some o:=
 PySem.W.hideAll_get _ e fun hm=>by
  have q:(H b).isSome=true:=(List.mem_filter.mp hm).2
  rw[n]at q;simp at q
theorem zl8{h:Heap}{H:Hp}{b:Addr}{o:Obj}(e:(zcV h H).get? b=some o):h.get? b=some o/\H b=none:=by
 have e':h.get? b=some o:=PySem.W.of_hideAll (trk h H) e
 refine⟨e',?_⟩
 cases q:H b with
 | none=>rfl
 | some x=>
  have hm:b∈trk h H:=List.mem_filter.mpr ⟨y8.mpr (Heap.lt_size e'),by simp[q]⟩
  have z:(zcV h H).get? b=none:=PySem.W.hideAll_none (trk h H) hm
  rw[z]at e;cases e
def zlw(g h:Heap)(L:Addr):List (Addr × Obj):=(List.range h.objs.size).filterMap fun a=>if a=L\/(g.get? a).isSome=true then none else(h.get? a).map fun o=>(a,o)
def rest(g h:Heap)(L d:Addr):List (Addr × Obj):=(zlw g h L).filter fun p=>decide (p.1≠d)
set_option genInjectivity false in
set_option genSizeOf false in
structure Mod(K:Fg)(mg:Str->Option Value)(base:Heap):Prop where
 kin:K.In base
 glob:base.Ns mainGlobals mg
 blt:∃mb,base.Ns builtinsNs mb/\∀x:Str,x ≠ "__name__" -> mb x=bootBuiltins x
 nolimit:base.NoLimit
set_option genSizeOf false in
structure Cx where
 prog:Program
 w:World
 K:Fg
 mg:Str->Option Value
 base:Heap
 A:Around
 N:List Str
 s₀:Shared
 H₀:Hp
 env:Env
 outer:List Env
 stack:List Env
 ex:List Addr
 fn:Str->Bool
 calm:Bool
 pn:List (Addr × Obj)
 xe:Value->Shared->Prop
def frs(l:List Env):List Addr:=l.filterMap (·.frame)
abbrev Cx.fs(X:Cx):List Addr:=frs X.outer
def Vis(sc:Scope)(x:Str):Prop:=sc.names.lookup x=some .local\/sc.names.lookup x=some .cell\/sc.names.lookup x=some .free
def Loc(sc:Scope)(x:Str):Prop:=sc.names.lookup x=some .local\/sc.names.lookup x=some .cell
def zok(env:Env)(h:Heap)(m:Str->Option Value)(x:Str)(u:Value):Prop:=
 (env.kindOf x=some .local/\m x=some u)\/((env.kindOf x=some .cell\/env.kindOf x=some .free)/\∃c,env.cells.lookup x=some c/\h.IsCell c (some u))
set_option genSizeOf false in
structure Cx.Ok(X:Cx):Prop where
 mod:Mod X.K X.mg X.base
 kind:X.env.scope.kind=.function
 glob:X.env.globals=mainGlobals
 blt:X.env.builtins=builtinsNs
 above:X.s₀.heap.objs.size<=X.env.locals
 inj:∀x y c,X.env.cells.lookup x=some c->X.env.cells.lookup y=some c->x=y
 has:∀x,(X.env.kindOf x=some .cell\/X.env.kindOf x=some .free)->∃c,X.env.cells.lookup x=some c
 cab:∀x c,X.fn x=true->X.env.cells.lookup x=some c->X.s₀.heap.objs.size<=c
 hd:X.calm=true->X.A.handled=none
 frames:X.A.frames=some X.stack
 stk:X.stack=X.outer\/(X.stack=X.env :: X.outer/\X.env.frame=some X.env.locals)
 exf:∀b∈X.ex,b≠X.env.locals/\∀x c,X.env.cells.lookup x=some c->c≠b
 bs:∀b o,X.base.get? b=some o->X.s₀.heap.get? b=some o/\X.H₀ b=none
 bsz:X.base.objs.size<=X.s₀.heap.objs.size
 noex:∀b o,X.base.get? b=some o->b∉X.ex
 exfs:∀b∈X.ex,b∉X.fs
 funs:X.s₀.heap.FunFrames X.base X.outer
 frf:∀b∈X.fs,X.H₀ b=none
set_option genInjectivity false in
set_option genSizeOf false in
structure Inv(X:Cx)(pins:List (Addr × Obj))(σ:List (Option V))(H:Hp)(s:Shared):Prop where
 ok:X.Ok
 os:s.os=X.s₀.os
 bare:AllBare s.gens
 base:Un X.fs X.ex X.H₀ H X.s₀.heap s.heap
 loc:∃m,s.heap.Ns X.env.locals m/\∀(i:Nat) (x:Str) (v:V),X.N[i]?=some x->σ[i]?=some (some v)->Vis X.env.scope x->∃u,RelV v u/\zok X.env s.heap m x u
 cell:∀x c,X.env.cells.lookup x=some c->∃v,s.heap.IsCell c v
 free:H X.env.locals=none
 freeC:∀x c,X.env.cells.lookup x=some c->H c=none
 pin:∀p∈X.pn++pins,s.heap.get? p.1=some p.2/\H p.1=none/\p.1≠X.env.locals/\p.1∉X.fs/\∀v,p.2.data≠.cell v
 hok:HOk X.prog X.w H s.heap
 len:σ.length=X.N.length
section
variable {X:Cx}{pins:List (Addr × Obj)}{σ:List (Option V)}{H H':Hp}{s:Shared}{h':Heap}
theorem Cx.Ok.nofr(ok:X.Ok){b:Addr}{o:Obj}(e:X.base.get? b=some o):b∉X.fs:=fun hb=>by
 have:=(ok.funs.mem hb).1
 rw[e]at this;cases this
theorem Inv.bs(I:Inv X pins σ H s):∀b o,X.base.get? b=some o->s.heap.get? b=some o/\H b=none:=fun b o e=>
 ⟨I.base.keep b o (I.ok.bs b o e).1 (I.ok.bs b o e).2 (I.ok.nofr e) (I.ok.noex b o e),I.base.free b o (I.ok.bs b o e).1 (I.ok.bs b o e).2 (I.ok.noex b o e)⟩
theorem Inv.bk(I:Inv X pins σ H s):∀b o,X.base.get? b=some o->s.heap.get? b=some o:=fun b o e=>(I.bs b o e).1
theorem Inv.mod(I:Inv X pins σ H s):Mod X.K X.mg X.base:=I.ok.mod
theorem Inv.kIn(I:Inv X pins σ H s):X.K.In s.heap:=I.ok.mod.kin.keeps I.bk
theorem Inv.lt(I:Inv X pins σ H s):X.env.locals<s.heap.objs.size:=let ⟨_,hn,_⟩:=I.loc;hn.lt
theorem Inv.sz(I:Inv X pins σ H s):X.s₀.heap.objs.size<=s.heap.objs.size:=yb I.ok.above (y9 I.lt)
theorem Inv.nofs(I:Inv X pins σ H s){a:Addr}(h:s.heap.objs.size<=a):a∉X.fs:=fun hb=>by
 obtain⟨_,o,ho,_⟩:=I.ok.funs.mem hb
 exact absurd (yp (Heap.lt_size ho) (yb I.sz h)) (yN _)
theorem Inv.cne(I:Inv X pins σ H s):∀x c,X.env.cells.lookup x=some c->c≠X.env.locals:=fun x c e z=>by
 obtain⟨v,o,ho,hd⟩:=I.cell x c e
 obtain⟨m,⟨o',es,ep,ho',hd',_⟩,_⟩:=I.loc
 rw[z,ho']at ho;cases ho;rw[hd']at hd;cases hd
theorem Inv.funs(I:Inv X pins σ H s):s.heap.FunFrames X.base X.outer:=by
 have all:∀(l:List Env),(∀b∈frs l,b∈X.fs)->X.s₀.heap.FunFrames X.base l->s.heap.FunFrames X.base l:=by
  intro l
  induction l with
  | nil=>intro _ _;trivial
  | cons env r ih=>
   intro hs hl
   obtain⟨hk,⟨L,o,hf,hn,ho,hd⟩,hr⟩:=hl
   have hL:L∈X.fs:=hs L (by unfold frs;rw[yaG,hf];exact yV)
   obtain⟨sl,e⟩:=I.base.slot L o ho (I.ok.frf L hL) hL fun z=>I.ok.exfs L z hL
   exact⟨hk,⟨L,_,hf,hn,e,hd⟩,ih (fun b hb=>hs b (by unfold frs;rw[yaG,hf];exact yE _ hb)) hr⟩
 exact all X.outer (fun _ hb=>hb) I.ok.funs
theorem Inv.stack(I:Inv X pins σ H s):s.heap.FunFrames X.base X.stack:=by
 rcases I.ok.stk with e | ⟨e,hf⟩
 ·rw[e];exact I.funs
 ·rw[e]
  obtain⟨m,hn,_⟩:=I.loc
  refine .cons (by rw[I.ok.kind];decide) hf hn ?_ I.funs
  exact Heap.get?_none_of_le (yb I.ok.bsz I.ok.above)
theorem Inv.stkSub(I:Inv X pins σ H s):∀b∈frs X.stack,b∈X.env.locals :: X.fs:=fun b hb=>by
 rcases I.ok.stk with e | ⟨e,hf⟩
 ·rw[e]at hb;exact yE _ hb
 ·rw[e]at hb
  unfold frs at hb
  rw[yaG,hf]at hb
  exact hb
theorem Inv.stkFree(I:Inv X pins σ H s):∀b∈frs X.stack,H b=none:=fun b hb=>by
 rcases yf.mp (I.stkSub b hb)with e | hb
 ·rw[e];exact I.free
 ·obtain⟨_,o,ho,_⟩:=I.ok.funs.mem hb
  exact I.base.free b o ho (I.ok.frf b hb) fun z=>I.ok.exfs b z hb
theorem Inv.step{g':Array GenState}{t':Nat}{d':Drawn}{ch:List Addr}(I:Inv X pins σ H s)
  (hch:∀b∈ch,(b∈X.ex\/X.s₀.heap.objs.size<=b)/\b≠X.env.locals/\(∀x c,X.env.cells.lookup x=some c->c≠b)/\∀p∈X.pn++pins,p.1≠b)
  (keep:∀b o,b≠X.env.locals->b∉X.fs->b∉ch->s.heap.get? b=some o->H b=none->h'.get? b=some o)
  (slot:∀b o,b≠X.env.locals->b∈X.fs->b∉ch->s.heap.get? b=some o->H b=none->∃sl,h'.get? b=some { o with slots:=sl }) (free:∀b o,b∉ch->s.heap.get? b=some o->H b=none->H' b=none)
  (there:∀b o,b∉ch->s.heap.get? b=some o->∃o',h'.get? b=some o')
  (tups:∀b xs,H b=some (.tup xs)->H' b=some (.tup xs)) (frzs:∀b o u,H b=some (.frz o u)->H' b=some (.frz o u)) (tbls:∀b ps,H b=some (.tbl ps)->∃more,H' b=some (.tbl (ps++more)))
  (ns:∀m,s.heap.Ns X.env.locals m->h'.Ns X.env.locals m) (hok:HOk X.prog X.w H' h') (hg:AllBare g') :
  Inv X pins σ H' { s with heap:=h',gens:=g',drawn:=d',toks:=t' }:=by
 have neL:∀b o,X.s₀.heap.get? b=some o->b≠X.env.locals:=fun b o e=>yn (yp (Heap.lt_size e) I.ok.above)
 have neC:∀b o,X.s₀.heap.get? b=some o->b∉X.ex->b∉ch:=fun b o e hx hb=>by
  rcases(hch b hb).1 with z | z
  ·exact hx z
  ·exact absurd (yp (Heap.lt_size e) z) (yN _)
 have cellK:∀x c,X.env.cells.lookup x=some c->∀v,s.heap.IsCell c v->h'.IsCell c v:=fun x c e v ⟨o,ho,hd⟩=>by
  have nch:c∉ch:=fun z=>(hch c z).2.2.1 x c e rfl
  by_cases hc:c∈X.fs
  ·obtain⟨sl,q⟩:=slot c o (I.cne x c e) hc nch ho (I.freeC x c e)
   exact⟨_,q,hd⟩
  ·exact⟨o,keep c o (I.cne x c e) hc nch ho (I.freeC x c e),hd⟩
 refine⟨I.ok,I.os,hg,⟨fun b o e n hb hx=>?_,fun b o e n hb hx=>?_,fun b o e n hx=>?_,fun b o e hx=>?_,fun b xs e=>tups b xs (I.base.tups b xs e),fun b o xs e=>frzs b o xs (I.base.frzs b o xs e),fun b ps e=>?_⟩,?_,fun x c e=>?_,?_,fun x c e=>?_,fun p hp=>?_,hok,I.len⟩
 ·exact keep b o (neL b o e) hb (neC b o e hx) (I.base.keep b o e n hb hx) (I.base.free b o e n hx)
 ·obtain⟨sl,e1⟩:=I.base.slot b o e n hb hx
  obtain⟨sl',e2⟩:=slot b _ (neL b o e) hb (neC b o e hx) e1 (I.base.free b o e n hx)
  exact⟨sl',e2⟩
 ·obtain⟨o',e1⟩:=I.base.there b o e hx
  exact free b o' (neC b o e hx) e1 (I.base.free b o e n hx)
 ·obtain⟨o',e1⟩:=I.base.there b o e hx
  exact there b o' (neC b o e hx) e1
 ·obtain⟨m1,e1⟩:=I.base.tbls b ps e
  obtain⟨m2,e2⟩:=tbls b _ e1
  exact⟨m1++m2,by rw[e2,Array.append_assoc]⟩
 ·obtain⟨m,hn,hl⟩:=I.loc
  refine⟨m,ns m hn,fun i x v e1 e2 e3=>?_⟩
  obtain⟨u,r,l⟩:=hl i x v e1 e2 e3
  refine⟨u,r,?_⟩
  rcases l with l | ⟨k,c,e,z⟩
  ·exact .inl l
  ·exact .inr ⟨k,c,e,cellK x c e _ z⟩
 ·obtain⟨v,z⟩:=I.cell x c e
  exact⟨v,cellK x c e v z⟩
 ·obtain⟨m,⟨o,_,_,ho,_⟩,_⟩:=I.loc
  exact free _ o (fun z=>(hch _ z).2.1 rfl) ho I.free
 ·obtain⟨v,o,ho,hd⟩:=I.cell x c e
  exact free c o (fun z=>(hch c z).2.2.1 x c e rfl) ho (I.freeC x c e)
 ·obtain⟨e,n,ne,nf,d⟩:=I.pin p hp
  have nch:p.1∉ch:=fun z=>(hch p.1 z).2.2.2 p hp rfl
  exact⟨keep p.1 p.2 ne nf nch e n,free p.1 p.2 nch e n,ne,nf,d⟩
theorem Inv.un{t':Nat}(I:Inv X pins σ H s)(u:Un X.fs [] H H' s.heap h')(hok:HOk X.prog X.w H' h'):Inv X pins σ H' { s with heap:=h',toks:=t' }:=by
 obtain⟨m,⟨o,es,ep,ho,r⟩,_⟩:=id I.loc
 obtain⟨sl,hL⟩:=u.any ho I.free (by simp)
 exact I.step (g':=s.gens) (d':=s.drawn) (ch:=[]) (fun _ z=>nomatch z) (fun b o _ hb _ e n=>u.keep b o e n hb (by simp)) (fun b o _ hb _ e n=>u.slot b o e n hb (by simp)) (fun b o _ e n=>u.free b o e n (by simp)) (fun b o _ e=>u.there b o e (by simp)) u.tups u.frzs u.tbls (fun m' hm=>by
  obtain⟨o',es',ep',ho',r'⟩:=hm
  rw[ho]at ho';cases ho'
  exact⟨_,es',ep',hL,r'⟩) hok I.bare
theorem Inv.call{g':Array GenState}{t':Nat}{d':Drawn}{ch:List Addr}(I:Inv X pins σ H s)(u:Un (frs X.stack) ch H H' s.heap h')(hok:HOk X.prog X.w H' h')(hg:AllBare g')
  (hch:∀b∈ch,(b∈X.ex\/X.s₀.heap.objs.size<=b)/\b≠X.env.locals/\(∀x c,X.env.cells.lookup x=some c->c≠b)/\∀p∈X.pn++pins,p.1≠b) :
  Inv X pins σ H' { s with heap:=h',gens:=g',drawn:=d',toks:=t' }:=by
 obtain⟨m,⟨o,es,ep,ho,r⟩,_⟩:=id I.loc
 obtain⟨sl,hL⟩:=u.any ho I.free fun z=>(hch _ z).2.1 rfl
 exact I.step (ch:=ch) hch (fun b o hL hb hc e n=>u.keep b o e n (fun z=>(yf.mp (I.stkSub b z)).elim hL hb) hc) (fun b o _ _ hc e n=>u.any e n hc) (fun b o hc e n=>u.free b o e n hc) (fun b o hc e=>u.there b o e hc) u.tups u.frzs u.tbls (fun m' hm=>by
  obtain⟨o',es',ep',ho',r'⟩:=hm
  rw[ho]at ho';cases ho'
  exact⟨_,es',ep',hL,r'⟩) hok hg
theorem Inv.turned{t':Nat}{it:Addr}(I:Inv X pins σ H s)(k:∀b o,b≠it->s.heap.get? b=some o->h'.get? b=some o)(hn:H it=none)(hL:it≠X.env.locals)
  (h1:it∈X.ex\/X.s₀.heap.objs.size<=it) (h2:∀x c,X.env.cells.lookup x=some c->c≠it) (h3:∀p∈X.pn++pins,p.1≠it):Inv X pins σ H { s with heap:=h',toks:=t' }:=by
 have nit:∀b u,H b=some u->b≠it:=fun b u e z=>by rw[z,hn]at e;cases e
 refine I.step (g':=s.gens) (d':=s.drawn) (ch:=[it]) (fun b hb=>?_) (fun b o _ _ hc e _=>k b o (fun z=>hc (by simp[z])) e) (fun b o _ _ hc e _=>⟨o.slots,k b o (fun z=>hc (by simp[z])) e⟩) (fun _ _ _ _ n=>n)
  (fun b o hc e=>⟨o,k b o (fun z=>hc (by simp[z])) e⟩) (fun _ _ e=>e) (fun _ _ _ e=>e) (fun b ps e=>⟨#[],by rw[e];simp⟩) (fun m hm=>?_) (fun b u e=>?_) I.bare
 ·have e:b=it:=by simpa using hb
  subst e
  exact⟨h1,hL,h2,h3⟩
 ·obtain⟨o,es,ep,ho,r⟩:=hm
  exact⟨o,es,ep,k _ o (yaj hL) ho,r⟩
 ·refine(I.hok b u e).stay (fun c v hc q=>k c v ?_ q) (fun _ q=>q) fun _ _ q=>q
  rcases hc with z | z
  ·rw[z];exact nit b u e
  ·exact nit c _ z
theorem Inv.tok(I:Inv X pins σ H s)(t:Nat):Inv X pins σ H { s with toks:=t }:=I.un (h':=s.heap) (t':=t) Un.refl I.hok
theorem Inv.kept{t':Nat}(I:Inv X pins σ H s)(k:∀b u,s.heap.get? b=some u->h'.get? b=some u):Inv X pins σ H { s with heap:=h',toks:=t' }:=I.un (Un.kept k) (I.hok.kept k)
theorem Inv.laid{a:Addr}{o:HO}{t':Nat}(I:Inv X pins σ H s)(k:∀b u,s.heap.get? b=some u->h'.get? b=some u)(hp:s.heap.objs.size<=a)(new:ObjOk X.prog X.w (upd H a o) h' a o) :
  Inv X pins σ (upd H a o) { s with heap:=h',toks:=t' }:=I.un (Un.laid k hp (I.hok.fresh hp)) (I.hok.laid k hp new)
theorem Inv.write{x e:Addr}{o:HO}{t':Nat}(I:Inv X pins σ H s)(mu:Mut (H x))(he:e=x\/H e=some (.own x))(k:∀b u,b≠e->s.heap.get? b=some u->h'.get? b=some u)(heo:∃u,h'.get? e=some u)
  (new:ObjOk X.prog X.w (upd H x o) h' x o):Inv X pins σ (upd H x o) { s with heap:=h',toks:=t' }:=I.un (Un.write mu he k heo) (I.hok.write mu he k heo new)
theorem Inv.pins_of{pins':List (Addr × Obj)}(I:Inv X pins σ H s)(h:∀p∈pins',s.heap.get? p.1=some p.2/\H p.1=none/\p.1≠X.env.locals/\p.1∉X.fs/\∀v,p.2.data≠.cell v):Inv X pins' σ H s:=
 ⟨I.ok,I.os,I.bare,I.base,I.loc,I.cell,I.free,I.freeC,fun p hp=>(yv.mp hp).elim (fun z=>I.pin p (yO _ z)) (h p),I.hok,I.len⟩
theorem zek{N:List Str}(hN:N.Nodup){i j:Nat}{x:Str}(a:N[i]?=some x)(b:N[j]?=some x):i=j:=by
 obtain⟨h1,e1⟩:=ym.mp a
 obtain⟨h2,e2⟩:=ym.mp b
 exact(List.getElem_inj hN).mp (e1.trans e2.symm)
theorem zfA{M:Model}{A:Around}{E:Value->Shared->Prop}{i:Nat}{x:Str}{v:V}{u:Value}{Q:Unit->Shared->Prop}(I:Inv X pins σ H s)(hN:X.N.Nodup)(hi:X.N[i]?=some x)(hx:Loc X.env.scope x)(r:RelV v u)
  (h:∀s',Inv X pins (σ.set i (some v)) H s'->(∃a,Heap.SameBut a s.heap s'.heap/\(a=X.env.locals\/X.env.cells.lookup x=some a))->Q () s') (hf:autoParam (X.fn x=true\/X.env.scope.names.lookup x=some .local) Internal.aut0._auto_1):wpAny M A (storeName X.env x u) Q E s:=by
 obtain⟨m,hn,hl⟩:=id I.loc
 have hcls:(X.env.scope.kind == .class || (X.env.scope.kind == .module&&X.env.locals != X.env.globals))=false:=by rw[I.ok.kind];rfl
 have hiσ:i < σ.length:=by rw[I.len];exact(ym.mp hi).1
 have cne:=I.cne
 have tracked:∀{a:Addr} {h':Heap},(∃o,s.heap.get? a=some o/\H a=none)->Heap.SameBut a s.heap h'->HOk X.prog X.w H h':=fun {a h'} ha hs b ob e=>by
  obtain⟨_,_,hfree⟩:=ha
  refine(I.hok b ob e).stay (fun c w' hc q=>(hs.2 c ?_).trans q) (fun _ q=>q) fun _ _ q=>q
  rintro rfl
  rcases hc with rfl | hc
  ·rw[hfree]at e;cases e
  ·rw[hfree]at hc;cases hc
 rcases hx with hk | hk
 ·refine wpAny_storeName_local hk hn (fun h' hn' hs=>?_) hcls
  obtain⟨oL,_,_,hoL,_⟩:=id hn
  refine h _ ⟨I.ok,I.os,I.bare,⟨fun b o e n hb hx=>?_,fun b o e n hb hx=>?_,I.base.free,fun b o e hx=>?_,I.base.tups,I.base.frzs,I.base.tbls⟩,⟨_,hn',fun j y v' e1 e2 e3=>?_⟩,fun y c e=>?_,I.free,I.freeC,fun p hp=>?_,tracked ⟨oL,hoL,I.free⟩ hs,by simpa using I.len⟩ ⟨_,hs,.inl rfl⟩
  ·exact(hs.2 b (yn (yp (Heap.lt_size e) I.ok.above))).trans (I.base.keep b o e n hb hx)
  ·obtain⟨sl,e1⟩:=I.base.slot b o e n hb hx
   exact⟨sl,(hs.2 b (yn (yp (Heap.lt_size e) I.ok.above))).trans e1⟩
  ·obtain⟨o',e1⟩:=I.base.there b o e hx
   exact⟨o',(hs.2 b (yn (yp (Heap.lt_size e) I.ok.above))).trans e1⟩
  ·by_cases hj:j=i
   ·subst hj
    rw[hi]at e1;cases e1
    rw[yaf hiσ]at e2
    cases e2
    exact⟨u,r,.inl ⟨hk,by simp⟩⟩
   ·rw[yan (yaj hj)]at e2
    obtain⟨u',r',q⟩:=hl j y v' e1 e2 e3
    refine⟨u',r',?_⟩
    rcases q with⟨k,e⟩ | ⟨k,c,e,z⟩
    ·refine .inl ⟨k,?_⟩
     have:y≠x:=fun e=>hj (zek hN e1 (e▸hi))
     simp[this,e]
    ·exact .inr ⟨k,c,e,z.sameBut hs (cne y c e)⟩
  ·obtain⟨w',z⟩:=I.cell y c e
   exact⟨w',z.sameBut hs (cne y c e)⟩
  ·obtain⟨e,n,ne,nf,d⟩:=I.pin p hp
   exact⟨(hs.2 p.1 ne).trans e,n,ne,nf,d⟩
 ·have hfn:X.fn x=true:=by
   rcases hf with z | z
   ·exact z
   ·rw[z]at hk;cases hk
  obtain⟨c,hc⟩:=I.ok.has x (.inl hk)
  obtain⟨w',z⟩:=I.cell x c hc
  refine wpAny_storeName_cell I.ok.kind hk hc z (fun h' hc' hs=>?_)
  obtain⟨oc,hoc,hocd⟩:=id z
  refine h { s with heap:=h' } ⟨I.ok,I.os,I.bare,⟨fun b o e n hb hx=>?_,fun b o e n hb hx=>?_,I.base.free,fun b o e hx=>?_,I.base.tups,I.base.frzs,I.base.tbls⟩,⟨m,hn.sameBut hs (yaj (cne x c hc)),fun j y v' e1 e2 e3=>?_⟩,fun y c' e=>?_,I.free,I.freeC,fun p hp=>?_,tracked ⟨oc,hoc,I.freeC x c hc⟩ hs,by simpa using I.len⟩ ⟨c,hs,.inr hc⟩
  ·exact(hs.2 b (yn (yp (Heap.lt_size e) (I.ok.cab x c hfn hc)))).trans (I.base.keep b o e n hb hx)
  ·obtain⟨sl,e1⟩:=I.base.slot b o e n hb hx
   exact⟨sl,(hs.2 b (yn (yp (Heap.lt_size e) (I.ok.cab x c hfn hc)))).trans e1⟩
  ·obtain⟨o',e1⟩:=I.base.there b o e hx
   exact⟨o',(hs.2 b (yn (yp (Heap.lt_size e) (I.ok.cab x c hfn hc)))).trans e1⟩
  ·by_cases hj:j=i
   ·subst hj
    rw[hi]at e1;cases e1
    rw[yaf hiσ]at e2
    cases e2
    exact⟨u,r,.inr ⟨.inl hk,c,hc,hc'⟩⟩
   ·rw[yan (yaj hj)]at e2
    obtain⟨u',r',q⟩:=hl j y v' e1 e2 e3
    refine⟨u',r',?_⟩
    rcases q with q | ⟨k,c',e,z'⟩
    ·exact .inl q
    ·refine .inr ⟨k,c',e,z'.sameBut hs ?_⟩
     rintro rfl
     exact hj (zek hN e1 (I.ok.inj _ _ _ e hc▸hi))
  ·by_cases hcc:c'=c
   ·subst hcc;exact⟨_,hc'⟩
   ·obtain⟨w2,z2⟩:=I.cell y c' e
    exact⟨w2,z2.sameBut hs hcc⟩
  ·obtain⟨e,n,ne,nf,d⟩:=I.pin p hp
   refine⟨(hs.2 p.1 ?_).trans e,n,ne,nf,d⟩
   intro q
   rw[q,hoc]at e
   have q':oc=p.2:=yo e
   exact d w' (by rw[<- q'];exact hocd)
theorem zdl{M:Model}{A:Around}{E:Value->Shared->Prop}{i:Nat}{x:Str}{v:V}{u:Value}{Q:Unit->Shared->Prop}(I:Inv X pins σ H s)(hN:X.N.Nodup)(hi:X.N[i]?=some x)(hx:Loc X.env.scope x)(r:RelV v u)
  (h:∀s',Inv X pins (σ.set i (some v)) H s'->Q () s') (hf:autoParam (X.fn x=true\/X.env.scope.names.lookup x=some .local) Internal.aut0._auto_1):wpAny M A (storeName X.env x u) Q E s:=
 zfA I hN hi hx r (fun s' I' _=>h s' I') hf
theorem Inv.call'{s':Shared}{ch:List Addr}(I:Inv X pins σ H s)(ho:s'.os=s.os)(u:Un (frs X.stack) ch H H' s.heap s'.heap)(hok:HOk X.prog X.w H' s'.heap)(hg:AllBare s'.gens)
  (hch:∀b∈ch,(b∈X.ex\/X.s₀.heap.objs.size<=b)/\b≠X.env.locals/\(∀x c,X.env.cells.lookup x=some c->c≠b)/\∀p∈X.pn++pins,p.1≠b):Inv X pins σ H' s':=by
 obtain⟨h',g',d',t',o'⟩:=s'
 have e:o'=s.os:=ho
 subst e
 exact I.call (g':=g') (t':=t') (d':=d') u hok hg hch
end
abbrev XK:=Value->Option Addr->Hp->Prop
abbrev St:=List (Option V)
abbrev VK:=V->Hp->Prop
abbrev TE:=St->Hp->VK->Prop
abbrev TT:=St->Hp->(Bool->Hp->Prop)->Prop
abbrev TA:=St->Hp->(List V->Hp->Prop)->Prop
set_option genInjectivity false in
set_option genSizeOf false in
structure Ends where
 nx:St->Hp->Prop
 rt:VK
 bk:St->Hp->Prop:=fun _ _=>False
 ct:St->Hp->Prop:=fun _ _=>False
abbrev TS:=Ends->St->Hp->Prop
def EP(X:Cx)(pins:List (Addr × Obj))(σ:St)(Q:VK)(u:Value)(s':Shared):Prop:=∃v H',Inv X pins σ H' s'/\RelV v u/\Q v H'
def TP(X:Cx)(pins:List (Addr × Obj))(σ:St)(Q:Bool->Hp->Prop)(b:Bool)(s':Shared):Prop:=∃H',Inv X pins σ H' s'/\Q b H'
def AP(X:Cx)(pins:List (Addr × Obj))(σ:St)(Q:List V->Hp->Prop)(us:List Value)(s':Shared):Prop:=∃vs H',Inv X pins σ H' s'/\Vals vs us/\Q vs H'
def SP(X:Cx)(pins:List (Addr × Obj))(D:Ends)(f:Flow)(s':Shared):Prop:=
 match f with
 | .next=>∃σ' H',Inv X pins σ' H' s'/\D.nx σ' H'
 | .brk=>∃σ' H',Inv X pins σ' H' s'/\D.bk σ' H'
 | .cont=>∃σ' H',Inv X pins σ' H' s'/\D.ct σ' H'
 | .ret u=>∃v σ' H',Inv X pins σ' H' s'/\RelV v u/\D.rt v H'
def PE(X:Cx)(e:Expr)(t:TE):Prop:=
 ∀(pins:List (Addr × Obj)) (s:Shared) (σ:St) (H:Hp) (Q:VK),Inv X pins σ H s->t σ H Q->wpAny (model X.prog X.w) X.A (eval e X.env) (EP X pins σ Q) X.xe s
def PT(X:Cx)(e:Expr)(t:TT):Prop:=
 ∀(pins:List (Addr × Obj)) (s:Shared) (σ:St) (H:Hp) (Q:Bool->Hp->Prop),Inv X pins σ H s->t σ H Q->wpAny (model X.prog X.w) X.A (isTrue e X.env (eval e X.env)) (TP X pins σ Q) X.xe s
def PW(X:Cx)(e:Expr)(t:TT):Prop:=
 ∀(whole:Sem Value) (pins:List (Addr × Obj)) (s:Shared) (σ:St) (H:Hp) (Q:Bool->Hp->Prop),Inv X pins σ H s->t σ H Q->wpAny (model X.prog X.w) X.A (isTrue e X.env whole) (TP X pins σ Q) X.xe s
theorem PW.pt{X:Cx}{e:Expr}{t:TT}(h:PW X e t):PT X e t:=h _
def PA(X:Cx)(es:List Expr)(t:TA):Prop:=
 ∀(pos:Pos) (pins:List (Addr × Obj)) (s:Shared) (σ:St) (H:Hp) (Q:List V->Hp->Prop),Inv X pins σ H s->t σ H Q->wpAny (model X.prog X.w) X.A (spliced (backTo pos (starEach es X.env))) (AP X pins σ Q) X.xe s
def PS(X:Cx)(st:Stmt)(t:TS):Prop:=
 ∀(pins:List (Addr × Obj)) (s:Shared) (σ:St) (H:Hp) (D:Ends),Inv X pins σ H s->t D σ H->wpAny (model X.prog X.w) X.A (exec st X.env) (SP X pins D) X.xe s
def PSs(X:Cx)(st:List Stmt)(t:TS):Prop:=
 ∀(pins:List (Addr × Obj)) (s:Shared) (σ:St) (H:Hp) (D:Ends),Inv X pins σ H s->t D σ H->wpAny (model X.prog X.w) X.A (execs st X.env) (SP X pins D) X.xe s
theorem thn{α:Type}{t:Sem α}{Q Q':α->Shared->Prop}{M:Model}{A:Around}{E:Value->Shared->Prop}{s:Shared}(h:wpAny M A t Q E s)(hQ:∀a s,Q a s->Q' a s):wpAny M A t Q' E s:=wpAny_mono h hQ fun _ _ x=>x
section
variable {X:Cx}
def zhX(i:Nat):TE:=fun σ H Q=>∃v,σ[i]?=some (some v)/\Q v H
abbrev tC(v:V):TE:=fun _ H Q=>Q v H
theorem zmS{i:Nat}{x:Str}{pos:Pos}(hN:X.N[i]?=some x)(hv:Vis X.env.scope x)(hd:autoParam ((x == ("__debug__" : Str))=false) Internal.aut1._auto_1)(hcd:autoParam ((x == ("__classdict__" : Str))=false) Internal.aut1._auto_1):PE X (.Name x pos) (zhX i):=by
 intro pins s σ H Q I h
 obtain⟨v,e,h⟩:=h
 obtain⟨m,hn,hl⟩:=I.loc
 obtain⟨u,r,l⟩:=hl i x v hN e hv
 have fin:EP X pins σ Q u s:=⟨v,H,I,r,h⟩
 rcases l with⟨hk,hm⟩ | ⟨hk,c,hc,hcell⟩
 ·exact wpAny_Name (wpAny_loadName_local I.ok.kind hk hn hm fin) hd
 ·rcases hk with hk | hk
  ·exact wpAny_Name (wpAny_loadName_cell I.ok.kind hk hc hcell fin) hd
  ·exact wpAny_Name (wpAny_loadName_free I.ok.kind hk hc hcell fin hcd) hd
theorem zc{i j pos}:PE X (.Constant (.int i) j pos) (tC (.int i)):=fun _ _ _ H _ I h=>wpAny_Constant_int ⟨.int i,H,I.tok _,⟨_,rfl⟩,h⟩
theorem zbS{b j pos}:PE X (.Constant (.bool b) j pos) (tC (.bl b)):=fun _ _ _ H _ I h=>Constant_bool ⟨.bl b,H,I,rfl,h⟩
theorem znc{j pos}:PE X (.Constant .none j pos) (tC .non):=fun _ _ _ H _ I h=>Constant_none ⟨.non,H,I,rfl,h⟩
theorem zA{x j pos}:PE X (.Constant (.str x) j pos) (tC (.str x)):=fun _ _ _ H _ I h=>Calls.Constant_str ⟨.str x,H,I.tok _,⟨_,rfl⟩,h⟩
def Gl(X:Cx)(x:Str):Prop:=X.env.kindOf x=some .globalImplicit
theorem zcx{E:Value->Shared->Prop}{pins:List (Addr × Obj)}{s:Shared}{σ:St}{H:Hp}{x:Str}{u:Value}{pos:Pos}{Q:Value->Shared->Prop}(I:Inv X pins σ H s)(hg:Gl X x)(hm:X.mg x=some u)(h:Q u s)
  (hd:autoParam ((x == ("__debug__" : Str))=false) Internal.aut1._auto_1):wpAny (model X.prog X.w) X.A (eval (.Name x pos) X.env) Q E s:=
 Calls.Name_function_global I.ok.kind hg (Calls.loadGlobal_global (by rw[I.ok.glob];exact I.mod.glob.keeps I.bk) hm h) hd
theorem zcI{E:Value->Shared->Prop}{pins:List (Addr × Obj)}{s:Shared}{σ:St}{H:Hp}{x:Str}{u:Value}{pos:Pos}{Q:Value->Shared->Prop}(I:Inv X pins σ H s)(hg:Gl X x)(hm:X.mg x=none)(hv:bootBuiltins x=some u)(h:Q u s)
  (hn:autoParam (x ≠ "__name__") Internal.aut1._auto_1) (hd:autoParam ((x == ("__debug__" : Str))=false) Internal.aut1._auto_1):wpAny (model X.prog X.w) X.A (eval (.Name x pos) X.env) Q E s:=by
 obtain⟨mb,h1,h2⟩:=I.mod.blt
 exact Calls.Name_function_global I.ok.kind hg (Calls.loadGlobal_builtin (by rw[I.ok.glob];exact I.mod.glob.keeps I.bk) hm (by rw[I.ok.blt];exact h1.keeps I.bk) ((h2 x hn).trans hv) h) hd
theorem z5{x:Str}{v:V}{u:Value}{pos:Pos}(hg:Gl X x)(hm:X.mg x=some u)(r:RelV v u)(hd:autoParam ((x == ("__debug__" : Str))=false) Internal.aut1._auto_1):PE X (.Name x pos) (tC v):=
 fun _ _ _ H _ I h=>zcx I hg hm ⟨v,H,I,r,h⟩ hd
theorem zdc{x:Str}{v:V}{u:Value}{pos:Pos}(hg:Gl X x)(hm:X.mg x=none)(hv:bootBuiltins x=some u)(r:RelV v u)(hn:autoParam (x ≠ "__name__") Internal.aut1._auto_1)(hd:autoParam ((x == ("__debug__" : Str))=false) Internal.aut1._auto_1):PE X (.Name x pos) (tC v):=
 fun _ _ _ H _ I h=>zcI I hg hm hv ⟨v,H,I,r,h⟩ hn hd
def t2I(ta tb:TE)(k:Int->Int->Hp->Prop):St->Hp->Prop:=fun σ H=>ta σ H fun x H1=>tb σ H1 fun y H2=>∃i j,x=.int i/\y=.int j/\k i j H2
variable {a b:Expr}{ta tb:TE}{pos:Pos}
def ze6(p:Int->Int->Bool)(ta tb:TE):TE:=fun σ H Q=>t2I ta tb (fun i j H2=>Q (.bl (p i j)) H2) σ H
abbrev tLt:TE->TE->TE:=ze6 fun i j=>decide (i<j)
abbrev tLe:TE->TE->TE:=ze6 fun i j=>decide (i<=j)
abbrev tGt:TE->TE->TE:=ze6 fun i j=>decide (j<i)
abbrev tGe:TE->TE->TE:=ze6 fun i j=>decide (j<=i)
abbrev zoM:TE->TE->TE:=ze6 fun i j=>decide (i=j)
abbrev zoL:TE->TE->TE:=ze6 fun i j=>!decide (i=j)
variable {tA tB':TT}{rest:List Expr}
abbrev zom(t u:TT):TT:=fun σ H Q=>t σ H fun c H1=>if c=true then u σ H1 Q else Q false H1
abbrev tOr(t u:TT):TT:=fun σ H Q=>t σ H fun c H1=>if c=true then Q true H1 else u σ H1 Q
abbrev zoC(t:TT):TT:=fun σ H Q=>t σ H fun c H1=>Q (!c) H1
theorem zfk(ha:PT X a tA):PW X (.BoolOp .And [a] pos) tA:=by
 intro wh pins s σ H Q I h
 refine isTrue_and (thn (ha pins s σ H Q I h) fun c s1 e=>?_)
 cases c with
 | true=>exact isTrue_and_nil e
 | false=>exact e
theorem zaj(ha:PT X a tA):PW X (.BoolOp .Or [a] pos) tA:=by
 intro wh pins s σ H Q I h
 refine isTrue_or (thn (ha pins s σ H Q I h) fun c s1 e=>?_)
 cases c with
 | false=>exact isTrue_or_nil e
 | true=>exact e
theorem zf8(ha:PT X a tA)(hb:PW X (.BoolOp .And (b :: rest) pos) tB'):PW X (.BoolOp .And (a :: b :: rest) pos) (zom tA tB'):=by
 intro wh pins s σ H Q I h
 refine isTrue_and (thn (ha pins s σ H _ I h) fun c s1 ⟨H1,I1,q1⟩=>?_)
 cases c with
 | true=>exact hb wh pins s1 σ H1 Q I1 q1
 | false=>exact⟨H1,I1,q1⟩
theorem zap(ha:PT X a tA)(hb:PW X (.BoolOp .Or (b :: rest) pos) tB'):PW X (.BoolOp .Or (a :: b :: rest) pos) (tOr tA tB'):=by
 intro wh pins s σ H Q I h
 refine isTrue_or (thn (ha pins s σ H _ I h) fun c s1 ⟨H1,I1,q1⟩=>?_)
 cases c with
 | true=>exact⟨H1,I1,q1⟩
 | false=>exact hb wh pins s1 σ H1 Q I1 q1
theorem zcW(ha:PT X a tA):PT X (.UnaryOp .Not a pos) (zoC tA):=by
 intro pins s σ H Q I h
 exact isTrue_not (ha pins s σ H (fun c H1=>Q (!c) H1) I h)
def zk6(ta tb:TE):TE:=fun σ H Q=>ta σ H fun x H1=>∃c,x=.bl c/\if c=true then tb σ H1 Q else Q (.bl false) H1
theorem zme{op}{t:TE}(h:PE X a t):PE X (.BoolOp op [a] pos) t:=fun pins s σ H Q I hw=>BoolOp_one (h pins s σ H Q I hw)
theorem znf(ha:PE X a ta)(hb:PE X (.BoolOp .And (b :: rest) pos) tb):PE X (.BoolOp .And (a :: b :: rest) pos) (zk6 ta tb):=by
 intro pins s σ H Q I h
 refine BoolOp_and (thn (ha pins s σ H _ I h) fun v s1 zz=>?_)
 obtain⟨x,H1,I1,r1,q1⟩:=zz
 obtain⟨c,rfl,q1⟩:=q1
 cases r1
 refine wpAny_truthy_bool ?_
 cases c with
 | true=>exact hb pins s1 σ H1 Q I1 q1
 | false=>exact⟨.bl false,H1,I1,rfl,q1⟩
abbrev tIf(t:TT)(ta tb:TE):TE:=fun σ H Q=>t σ H fun c H1=>if c=true then ta σ H1 Q else tb σ H1 Q
theorem zkH{c:Expr}(hc:PT X c tA)(ha:PE X a ta)(hb:PE X b tb):PE X (.IfExp c a b pos) (tIf tA ta tb):=by
 intro pins s σ H Q I h
 refine wpAny_IfExp (thn (hc pins s σ H _ I h) fun d s1 ⟨H1,I1,q1⟩=>?_)
 cases d with
 | true=>exact ha pins s1 σ H1 Q I1 q1
 | false=>exact hb pins s1 σ H1 Q I1 q1
end
def SqL(K:Fg)(H:Hp)(a:Addr)(xs:List V):Prop:=
 Rd H a (.lst xs) \/
  ∃(o:Obj) (its:Array Value) (n:Nat),K.lookup a=some o/\o.cls=.type "list" /\ o.dict=none/\o.data=.seq its n/\its.size<=sizeLine/\Vals xs its.toList
def SqT(K:Fg)(H:Hp)(a:Addr)(xs:List V):Prop:=
 Rd H a (.tup xs) \/
  ∃(o:Obj) (its:Array Value) (n:Nat),K.lookup a=some o/\o.cls=.type "tuple" /\ o.data=.seq its n/\its.size<=sizeLine/\Vals xs its.toList
def zow:Value->Option V
 | .none=>some .non
 | .bool b=>some (.bl b)
 | .int i _=>some (.int i)
 | .str x _=>some (.str x)
 | .bytes b _=>some (.byt b)
 | .float b _=>some (.flt b)
 | .ref a=>some (.ref a)
 | .type n=>some (.ty n)
 | _=>none
theorem RelV.abs{x:V}{u:Value}(r:RelV x u):zow u=some x:=by
 cases x with
 | non=>cases r;rfl
 | bl _=>cases r;rfl
 | int _=>obtain⟨t,rfl⟩:=r;rfl
 | str _=>obtain⟨t,rfl⟩:=r;rfl
 | byt _=>obtain⟨t,rfl⟩:=r;rfl
 | flt _=>obtain⟨t,rfl⟩:=r;rfl
 | ref _=>cases r;rfl
 | ty _=>cases r;rfl
theorem RelV.inj{x y:V}{u:Value}(r:RelV x u)(q:RelV y u):x=y:=yo (r.abs.symm.trans q.abs)
theorem Vals.inj:∀{xs ys:List V} {us:List Value},Vals xs us->Vals ys us->xs=ys
 | _,_,_,.nil,.nil=>rfl
 | _,_,_,.cons r t,.cons r' t'=>by rw[r.inj r',Vals.inj t t']
section
variable {X:Cx}{pins:List (Addr × Obj)}{σ:St}{H:Hp}{s:Shared}{a:Addr}{xs ys:List V}
theorem SqL.of{K:Fg}(h:H a=some (.lst xs)):SqL K H a xs:=.inl (.inl h)
theorem SqT.of{K:Fg}(h:H a=some (.tup xs)):SqT K H a xs:=.inl (.inl h)
theorem Inv.list(I:Inv X pins σ H s)(h:SqL X.K H a xs):∃its:List Value,Vals xs its/\PlainL s.heap a its.toArray/\xs.length<=sizeLine:=by
 rcases h with h | ⟨o,its,n,hk,hc,hd,hs,hz,r⟩
 ·obtain⟨z,its,n,r,e⟩:=h.ok I.hok
  exact⟨its,r,⟨_,n,e,rfl,rfl,rfl⟩,z⟩
 ·refine⟨its.toList,r,⟨o,n,I.kIn a o hk,hc,hd,by simpa using hs⟩,?_⟩
  have e:=r.length
  simp only[yaa]at e
  omega
theorem Inv.tuple(I:Inv X pins σ H s)(h:SqT X.K H a xs):∃its:List Value,Vals xs its/\IsTup s.heap a its.toArray/\xs.length<=sizeLine:=by
 rcases h with h | ⟨o,its,n,hk,hc,hs,hz,r⟩
 ·obtain⟨z,its,r,p⟩:=h.ok I.hok
  exact⟨its,r,p,z⟩
 ·refine⟨its.toList,r,⟨o,I.kIn a o hk,hc,n,by simpa using hs⟩,?_⟩
  have e:=r.length
  simp only[yaa]at e
  omega
theorem Inv.list_inj(I:Inv X pins σ H s)(h:SqL X.K H a xs)(h':SqL X.K H a ys):xs=ys:=by
 obtain⟨its,r,⟨o,n,e,_,_,d⟩,_⟩:=I.list h
 obtain⟨its',r',⟨o',n',e',_,_,d'⟩,_⟩:=I.list h'
 rw[e]at e';cases e'
 rw[d]at d'
 injection d' with d1 _
 have:its=its':=by simpa using congrArg Array.toList d1
 subst this
 exact r.inj r'
theorem Inv.tuple_inj(I:Inv X pins σ H s)(h:SqT X.K H a xs)(h':SqT X.K H a ys):xs=ys:=by
 obtain⟨its,r,⟨o,e,_,n,d⟩,_⟩:=I.tuple h
 obtain⟨its',r',⟨o',e',_,n',d'⟩,_⟩:=I.tuple h'
 rw[e]at e';cases e'
 rw[d]at d'
 injection d' with d1 _
 have:its=its':=by simpa using congrArg Array.toList d1
 subst this
 exact r.inj r'
end
abbrev Cx.wish(X:Cx)(E:Value->Shared->Prop):Cx:={ X with xe:=E }
abbrev Cx.nox(X:Cx):Cx:=X.wish fun _ _=>False
theorem Cx.Ok.wish{X:Cx}(ok:X.Ok)(E:Value->Shared->Prop):(X.wish E).Ok:=
 ⟨ok.mod,ok.kind,ok.glob,ok.blt,ok.above,ok.inj,ok.has,ok.cab,ok.hd,ok.frames,ok.stk,ok.exf,ok.bs,ok.bsz,ok.noex,ok.exfs,ok.funs,ok.frf⟩
theorem Cx.Ok.unwish{X:Cx}{E:Value->Shared->Prop}(ok:(X.wish E).Ok):X.Ok:=
 ⟨ok.mod,ok.kind,ok.glob,ok.blt,ok.above,ok.inj,ok.has,ok.cab,ok.hd,ok.frames,ok.stk,ok.exf,ok.bs,ok.bsz,ok.noex,ok.exfs,ok.funs,ok.frf⟩
section
variable {X:Cx}{pins:List (Addr × Obj)}{σ:St}{H:Hp}{s:Shared}{E:Value->Shared->Prop}
theorem Inv.wish(I:Inv X pins σ H s)(E:Value->Shared->Prop):Inv (X.wish E) pins σ H s:=⟨I.ok.wish E,I.os,I.bare,I.base,I.loc,I.cell,I.free,I.freeC,I.pin,I.hok,I.len⟩
theorem Inv.unwish(I:Inv (X.wish E) pins σ H s):Inv X pins σ H s:=⟨I.ok.unwish,I.os,I.bare,I.base,I.loc,I.cell,I.free,I.freeC,I.pin,I.hok,I.len⟩
theorem SP.unwish{D:Ends}{f:Flow}{s':Shared}(h:SP (X.wish E) pins D f s'):SP X pins D f s':=by
 cases f with
 | next=>obtain⟨σ',H',I,q⟩:=h;exact⟨σ',H',I.unwish,q⟩
 | brk=>obtain⟨σ',H',I,q⟩:=h;exact⟨σ',H',I.unwish,q⟩
 | cont=>obtain⟨σ',H',I,q⟩:=h;exact⟨σ',H',I.unwish,q⟩
 | ret u=>obtain⟨v,σ',H',I,r,q⟩:=h;exact⟨v,σ',H',I.unwish,r,q⟩
theorem PSs.nox{st:List Stmt}{t:TS}(h:PSs X.nox st t):PSs X st t:=fun pins s σ H D I hw=>
 wpAny_mono (h pins s σ H D (I.wish _) hw) (fun _ _ q=>q.unwish) fun _ _ z=>False.elim z
end
section
variable {X:Cx}{st:Stmt}{rest:List Stmt}{t u:TS}{e:Expr}{te:TE}{pos:Pos}
abbrev zn1:TS:=fun D σ H=>D.nx σ H
abbrev zol(t u:TS):TS:=fun D σ H=>t { D with nx:=u D } σ H
theorem zu:PSs X [] zn1:=fun _ _ σ H _ I h=>wpAny_execs_nil ⟨σ,H,I,h⟩
theorem zd(h1:PS X st t)(h2:PSs X rest u):PSs X (st :: rest) (zol t u):=by
 intro pins s σ H D I h
 refine wpAny_execs_cons (thn (h1 pins s σ H { D with nx:=u D } I h) fun f s1 q=>?_)
 cases f with
 | next=>
  obtain⟨σ',H',I',q⟩:=q
  exact h2 pins s1 σ' H' D I' q
 | ret v=>exact q
 | brk=>exact q
 | cont=>exact q
theorem zf(h1:PS X st t):PSs X [st] t:=by
 intro pins s σ H D I h
 refine wpAny_execs_cons (thn (h1 pins s σ H D I h) fun f s1 q=>?_)
 cases f with
 | next=>exact wpAny_execs_nil q
 | ret v=>exact q
 | brk=>exact q
 | cont=>exact q
abbrev zoD:TS:=fun D σ H=>D.bk σ H
abbrev zoJ:TS:=fun D σ H=>D.ct σ H
theorem Inv.quiet{pins:List (Addr × Obj)}{σ:St}{H:Hp}{s:Shared}(I:Inv X pins σ H s):interactive X.env=false:=by simp[interactive,I.ok.kind]
abbrev znV(te:TE):TS:=fun D σ H=>te σ H fun _ H1=>D.nx σ H1
theorem zR(he:PE X e te)(hs:autoParam (swapsWith e none pos.line X.env=pure false) Internal.aut2._auto_1):PS X (.Expr e pos) (znV te):=by
 intro pins s σ H D I h
 exact wpAny_Expr_any (thn (he pins s σ H _ I h) fun v s1 ⟨x,H1,I1,r1,q1⟩=>⟨σ,H1,I1,q1⟩) I.quiet hs
abbrev zmP(te:TE):TS:=fun D σ H=>te σ H D.rt
theorem zH(he:PE X e te):PS X (.Return (some e) pos) (zmP te):=by
 intro pins s σ H D I h
 exact wpAny_Return_some (thn (he pins s σ H _ I h) fun v s1 ⟨x,H1,I1,r1,q1⟩=>⟨x,σ,H1,I1,r1,q1⟩)
abbrev zoK:TS:=fun D _ H=>D.rt .non H
abbrev zot(c:TT)(t u:TS):TS:=fun D σ H=>c σ H fun b H1=>if b=true then t D σ H1 else u D σ H1
theorem zI{c:Expr}{a b:List Stmt}{tc:TT}(hc:PT X c tc)(ha:PSs X a t)(hb:PSs X b u):PS X (.If c a b pos) (zot tc t u):=by
 intro pins s σ H D I h
 refine wpAny_If (thn (hc pins s σ H _ I h) fun d s1 ⟨H1,I1,q1⟩=>?_)
 cases d with
 | true=>exact ha pins s1 σ H1 D I1 q1
 | false=>exact hb pins s1 σ H1 D I1 q1
end
abbrev TG:=V->St->Hp->(St->Hp->Prop)->Prop
abbrev TGs:=List V->St->Hp->(St->Hp->Prop)->Prop
def PG(X:Cx)(target:Expr)(t:TG):Prop:=
 ∀(pins:List (Addr × Obj)) (s:Shared) (σ:St) (H:Hp) (v:V) (u:Value) (Q:St->Hp->Prop),Inv X pins σ H s->RelV v u->t v σ H Q ->
  wpAny (model X.prog X.w) X.A (assign target X.env u) (fun _ s'=>∃σ' H',Inv X pins σ' H' s'/\Q σ' H') X.xe s
def PGs(X:Cx)(ts:List Expr)(t:TGs):Prop:=
 ∀(pins:List (Addr × Obj)) (s:Shared) (σ:St) (H:Hp) (vs:List V) (us:List Value) (Q:St->Hp->Prop),Inv X pins σ H s->Vals vs us->t vs σ H Q ->
  wpAny (model X.prog X.w) X.A (assignInOrder ((assignEach ts X.env).map (·.2)) us) (fun _ s'=>∃σ' H',Inv X pins σ' H' s'/\Q σ' H') X.xe s
abbrev zfo:=V->V->V->Hp->(Hp->Prop)->Prop
def zkO(X:Cx)(t:zfo):Prop:=
 ∀(pins:List (Addr × Obj)) (s:Shared) (σ:St) (H:Hp) (o i v:V) (ov iv u:Value) (Q:Hp->Prop),Inv X pins σ H s->RelV o ov->RelV i iv->RelV v u->t o i v H Q ->
  wpAny (model X.prog X.w) X.A (setItem ov iv u) (fun _ s'=>∃H',Inv X pins σ H' s'/\Q H') X.xe s
abbrev TIp:=V->V->Hp->VK->Prop
def PIp(X:Cx)(op:Operator)(t:TIp):Prop:=
 ∀(pins:List (Addr × Obj)) (s:Shared) (σ:St) (H:Hp) (x y:V) (v u:Value) (Q:VK),Inv X pins σ H s->RelV x v->RelV y u->t x y H Q ->
  wpAny (model X.prog X.w) X.A (inplaceOp op v u) (EP X pins σ Q) X.xe s
section
variable {X:Cx}{pos:Pos}
abbrev zc5(i:Nat):TG:=fun v σ H Q=>Q (σ.set i (some v)) H
theorem zay{i:Nat}{x:Str}(hN:X.N.Nodup)(hi:X.N[i]?=some x)(hx:Loc X.env.scope x)(hf:autoParam (X.fn x=true\/X.env.scope.names.lookup x=some .local) Internal.aut0._auto_1):PG X (.Name x pos) (zc5 i):=by
 intro pins s σ H v u Q I r h
 exact wpAny_assign_Name (zdl I hN hi hx r (fun s' I'=>⟨_,H,I',h⟩) hf)
def zmD:TGs:=fun vs σ H Q=>vs=[]/\Q σ H
def zkZ(t:TG)(u:TGs):TGs:=fun vs σ H Q=>∃v r,vs=v :: r/\t v σ H fun σ' H'=>u r σ' H' Q
theorem zhh:PGs X [] zmD:=by
 intro pins s σ H vs us Q I r h
 obtain⟨e,h⟩:=h
 subst e
 cases r
 exact assignInOrder_nil ⟨σ,H,I,h⟩
theorem zdo{e:Expr}{es:List Expr}{t:TG}{u:TGs}(h1:PG X e t)(h2:PGs X es u)
  (hs:autoParam ((assignEach (e :: es) X.env).map (·.2)=assign e X.env :: (assignEach es X.env).map (·.2)) Internal.aut2._auto_1):PGs X (e :: es) (zkZ t u):=by
 intro pins s σ H vs us Q I r h
 obtain⟨v,vr,e1,h⟩:=h
 subst e1
 cases r with
 | cons r rr=>
  rw[hs]
  refine assignInOrder_cons (thn (h1 pins s σ H _ _ _ I r h) fun _ s1 zz=>?_)
  obtain⟨σ1,H1,I1,q1⟩:=zz
  exact h2 pins s1 σ1 H1 _ _ Q I1 rr q1
def zgi(K:Fg)(n:Nat)(t:TGs):TG:=fun v σ H Q=>∃a xs,v=.ref a/\SqT K H a xs/\xs.length=n/\t xs σ H Q
theorem zjh{es:List Expr}{k:Nat}{t:TGs}{n:Nat}(hc:X.calm=true)(h:PGs X es t)
  (hn:autoParam ((assignEach es X.env).length=n) Internal.aut2._auto_1) (hst:autoParam ((assignEach es X.env).findIdx? (·.1)=none) Internal.aut2._auto_1):PG X (.Tuple es k pos) (zgi X.K n t):=by
 intro pins s σ H v u Q I r hw
 obtain⟨a,xs,e1,hq,hl,hw⟩:=hw
 subst e1
 cases r
 obtain⟨its,rv,ht,hz⟩:=I.tuple hq
 refine assign_Tuple_tuple (I.ok.hd hc) ht (by simp[hn,<- hl,rv.length]) hst fun h' hx=>?_
 have I1:Inv X pins σ H { s with heap:=h' }:=I.kept (t':=s.toks) fun b o e=>hx b o (yn (Heap.lt_size e)) e
 exact h pins _ σ H xs _ Q I1 (by simpa using rv) hw
abbrev zou(to ti:TE)(t:zfo):TG:=fun v σ H Q=>to σ H fun o H1=>ti σ H1 fun i H2=>t o i v H2 fun H3=>Q σ H3
theorem zbK{o i:Expr}{to ti:TE}{t:zfo}(ho:PE X o to)(hi:PE X i ti)(hs:zkO X t)
  (ha:autoParam (∀v,assign (.Subscript o i pos) X.env v=(do
   let ov <- holding [v] (eval o X.env)
   let iv <- holding [v,ov] (eval i X.env)
   standAt pos
   holding [v,ov,iv] (setItem ov iv v)
   release [v,ov,iv] [])) Internal.aut3._auto_1):PG X (.Subscript o i pos) (zou to ti t):=by
 intro pins s σ H v u Q I r h
 rw[ha]
 refine wpAny_bind (wpAny_holding (thn (ho pins s σ H _ I h) fun ov s1 zz=>?_))
 obtain⟨x,H1,I1,r1,q1⟩:=zz
 refine wpAny_bind (wpAny_holding (thn (hi pins s1 σ H1 _ I1 q1) fun iv s2 zz=>?_))
 obtain⟨y,H2,I2,r2,q2⟩:=zz
 refine wpAny_bind (wpAny_standAt (wpAny_bind (wpAny_holding (thn (hs pins s2 σ H2 x y v ov iv u _ I2 r1 r2 r q2) fun _ s3 ⟨H3,I3,q3⟩=>?_))))
 exact wpAny_release ⟨σ,H3,I3,q3⟩
abbrev zkG(te:TE)(g:TG):TS:=fun D σ H=>te σ H fun x H1=>g x σ H1 D.nx
theorem zbJ{tg e:Expr}{te:TE}{g:TG}(he:PE X e te)(hg:PG X tg g)(hs:autoParam (swapsWithSole [tg] e pos.line X.env=pure false) Internal.aut2._auto_1)(hw:autoParam (swappedStores [tg] e X.env=pure none) Internal.aut2._auto_1)
  (h1:autoParam ((assignEach [tg] X.env).map (·.2)=[assign tg X.env]) Internal.aut2._auto_1):PS X (.Assign [tg] e pos) (zkG te g):=by
 intro pins s σ H D I h
 refine wpAny_Assign_stores (thn (he pins s σ H _ I h) fun v s1 zz=>?_) hs hw
 obtain⟨x,H1,I1,r1,q1⟩:=zz
 rw[h1]
 exact thn (hg pins s1 σ H1 x v _ I1 r1 q1) fun _ s2 q=>q
theorem zB{i:Nat}{x:Str}{e:Expr}{te:TE}{pos':Pos}(hN:X.N.Nodup)(hi:X.N[i]?=some x)(hx:Loc X.env.scope x)(he:PE X e te)(hs:autoParam (swapsWith e (some (.Name x pos')) pos.line X.env=pure false) Internal.aut2._auto_1)(hf:autoParam (X.fn x=true\/X.env.scope.names.lookup x=some .local) Internal.aut0._auto_1) :
  PS X (.Assign [.Name x pos'] e pos) (zkG te (zc5 i)):=by
 intro pins s σ H D I h
 refine wpAny_Assign_Name (thn (he pins s σ H _ I h) fun v s1 zz=>?_) hs
 obtain⟨y,H1,I1,r1,q1⟩:=zz
 exact zdl I1 hN hi hx r1 (fun s2 I2=>⟨_,H1,I2,q1⟩) hf
def zk8(to ti te:TE)(tget:V->V->Hp->VK->Prop)(tip:TIp)(tset:zfo):TS:=fun D σ H=>to σ H fun o H1=>ti σ H1 fun i H2=>tget o i H2 fun x H3=>te σ H3 fun y H4=>tip x y H4 fun z H5=>tset o i z H5 fun H6=>D.nx σ H6
def zc8(X:Cx)(t:V->V->Hp->VK->Prop):Prop:=
 ∀(pins:List (Addr × Obj)) (s:Shared) (σ:St) (H:Hp) (o i:V) (ov iv:Value) (Q:VK),Inv X pins σ H s->RelV o ov->RelV i iv->t o i H Q ->
  wpAny (model X.prog X.w) X.A (getItem ov iv) (EP X pins σ Q) X.xe s
theorem zch{o i e:Expr}{to ti te:TE}{tget:V->V->Hp->VK->Prop}{tip:TIp}{tset:zfo}{op:Operator}{tpos:Pos}(ho:PE X o to)(hi:PE X i ti)(hg:zc8 X tget)(he:PE X e te)(hp:PIp X op tip)(hs:zkO X tset)
  (ha:autoParam (∀ov iv new,augStore i ov iv new=(do holding [new,ov,iv] (setItem ov iv new);release [new,ov,iv] [];pure .next)) Internal.aut4._auto_1):PS X (.AugAssign (.Subscript o i tpos) op e pos) (zk8 to ti te tget tip tset):=by
 intro pins s σ H D I h
 refine wpAny_AugAssign_SubscriptAny (thn (ho pins s σ H _ I h) fun ov s1 zz=>?_) ha
 obtain⟨x1,H1,I1,r1,q1⟩:=zz
 refine thn (hi pins s1 σ H1 _ I1 q1) fun iv s2 zz=>?_
 obtain⟨x2,H2,I2,r2,q2⟩:=zz
 refine thn (hg pins s2 σ H2 x1 x2 ov iv _ I2 r1 r2 q2) fun old s3 zz=>?_
 obtain⟨x3,H3,I3,r3,q3⟩:=zz
 refine thn (he pins s3 σ H3 _ I3 q3) fun v s4 zz=>?_
 obtain⟨x4,H4,I4,r4,q4⟩:=zz
 refine thn (hp pins s4 σ H4 x3 x4 old v _ I4 r3 r4 q4) fun new s5 zz=>?_
 obtain⟨x5,H5,I5,r5,q5⟩:=zz
 exact thn (hs pins s5 σ H5 x1 x2 x5 ov iv new _ I5 r1 r2 r5 q5) fun _ s6 ⟨H6,I6,q6⟩=>⟨σ,H6,I6,q6⟩
def ipI(f:Int->Int->Int):TIp:=fun x y H Q=>∃i j,x=.int i/\y=.int j/\Q (.int (f i j)) H
theorem zdz:PIp X .Add (ipI fun i j=>i+j):=by
 intro pins s σ H x y v u Q I r1 r2 h
 obtain⟨i,j,e1,e2,q⟩:=h
 subst e1;subst e2
 obtain⟨t,rfl⟩:=r1
 obtain⟨t',rfl⟩:=r2
 exact iadd_int ⟨.int _,H,I.tok _,⟨_,rfl⟩,q⟩
theorem zf5:PIp X .Sub (ipI fun i j=>i-j):=by
 intro pins s σ H x y v u Q I r1 r2 h
 obtain⟨i,j,e1,e2,q⟩:=h
 subst e1;subst e2
 obtain⟨t,rfl⟩:=r1
 obtain⟨t',rfl⟩:=r2
 exact isub_int ⟨.int _,H,I.tok _,⟨_,rfl⟩,q⟩
end
section
variable {X:Cx}{pos:Pos}
def zmj(c:TT)(tb:TS):TS:=fun D σ H=>∃W:Nat->St->Hp->Prop,(∃m,W m σ H)/\∀m σ H,W m σ H ->
 c σ H fun b H1=>if b=true then ∃N:St->Hp->Prop,(∀σ' H',N σ' H'->∃m',m'<m/\W m' σ' H')/\tb { D with nx:=N,ct:=N,bk:=D.nx } σ H1 else D.nx σ H1
theorem zgf{c:Expr}{body:List Stmt}{tc:TT}{tb:TS}(hp:PassesOwn (model X.prog X.w) X.A X.env X.xe)(hc:PT X c tc)(hb:PSs X body tb):PS X (.While c body [] pos) (zmj tc tb):=by
 intro pins s σ H D I h
 obtain⟨W,⟨m0,w0⟩,turn⟩:=h
 refine wpAny_While (codeAny_whileLoop (fun n s'=>∃σ' H',Inv X pins σ' H' s'/\W n σ' H') ?_ m0 ⟨σ,H,I,w0⟩)
 rintro n s1 ⟨σ1,H1,I1,w1⟩
 refine wpAny_passesOwn hp (thn (hc pins s1 σ1 H1 _ I1 (turn n σ1 H1 w1)) fun b s2 ⟨H2,I2,q2⟩=>?_)
 cases b with
 | true=>
  obtain⟨N,hN,q2⟩:=q2
  rw[if_pos rfl]
  refine wpAny_passesOwn hp (thn (hb pins s2 σ1 H2 _ I2 q2) fun f s3 q3=>?_)
  cases f with
  | next=>
   obtain⟨σ3,H3,I3,n3⟩:=q3
   obtain⟨m',hm,w3⟩:=hN σ3 H3 n3
   exact⟨m',hm,σ3,H3,I3,w3⟩
  | cont=>
   obtain⟨σ3,H3,I3,n3⟩:=q3
   obtain⟨m',hm,w3⟩:=hN σ3 H3 n3
   exact⟨m',hm,σ3,H3,I3,w3⟩
  | brk=>exact q3
  | ret v=>exact q3
 | false=>
  rw[if_neg yk]
  exact wpAny_execs_nil ⟨σ1,H2,I2,q2⟩
end
set_option genInjectivity false in
set_option genSizeOf false in
structure It where
 go:Nat->Hp->Prop
 yld:Nat->Hp->V->Hp->Prop
 stop:Nat->Hp->Prop
def zco(X:Cx)(pins:List (Addr × Obj))(H:Hp)(b:Addr):Prop:=
 H b=none/\b≠X.env.locals/\b∉X.fs/\(b∈X.ex\/X.s₀.heap.objs.size<=b)/\(∀x c,X.env.cells.lookup x=some c->c≠b)/\∀p∈X.pn++pins,p.1≠b
theorem Inv.fpOk{X:Cx}{pins:List (Addr × Obj)}{σ:St}{H H':Hp}{s:Shared}{b:Addr}(I:Inv X pins σ H s)(hb:s.heap.objs.size<=b)(hn:H' b=none):zco X pins H' b:=by
 refine⟨hn,Nat.ne_of_gt (yp I.lt hb),I.nofs hb,.inr (yb I.sz hb),fun x c e z=>?_,fun p hp z=>?_⟩
 ·obtain⟨v,q⟩:=I.cell x c e
  exact absurd (yp q.lt (by rw[z];exact hb)) (yN _)
 ·exact absurd (yp (Heap.lt_size (I.pin p hp).1) (by rw[z];exact hb)) (yN _)
set_option genInjectivity false in
set_option genSizeOf false in
structure Turn(P:Program)(w:World)(K:Fg)(tg:Expr)(J:It)(fp:List Addr)(it:Addr)(tn:Nat->Heap->Prop):Prop where
 mem:it∈fp
 obj:∀i h,tn i h->∀b∈fp,∃o,h.get? b=some o/\∀v,o.data≠.cell v
 keep:∀i h h',tn i h->(∀b∈fp,∀o,h.get? b=some o->h'.get? b=some o)->tn i h'
 item:∀(X:Cx),X.prog=P->X.w=w->X.K=K->X.calm=true->∀(i:Nat) (pins:List (Addr × Obj)) (s:Shared) (σ:St) (H:Hp) (E:Value->Shared->Prop),Inv X pins σ H s->(∀b∈fp,zco X pins H b)->tn i s.heap->J.go i H ->
  wpAny (model P w) X.A (pyNext (.ref it)) (fun r s1=>∃u,r=some u /\
   wpAny (model P w) X.A (letOwnedTupleGo tg (.ref it) u) (fun _ s2=>∃x H',Inv X pins σ H' s2/\RelV x u/\J.yld i H x H'/\tn (i+1) s2.heap/\∀b∈fp,H' b=none) E s1) E s
 done:∀(X:Cx),X.prog=P->X.w=w->X.K=K->X.calm=true->∀(i:Nat) (pins:List (Addr × Obj)) (s:Shared) (σ:St) (H:Hp) (E:Value->Shared->Prop),Inv X pins σ H s->(∀b∈fp,zco X pins H b)->tn i s.heap->J.stop i H ->
  wpAny (model P w) X.A (pyNext (.ref it)) (fun r s1=>r=none/\Inv X pins σ H s1) E s
 self:∀(A:Around) (i:Nat) (s:Shared) (Q:Value->Shared->Prop) (E:Value->Shared->Prop),tn i s.heap->Q (.ref it) s->wpAny (model P w) A (pyIter (.ref it)) Q E s
abbrev TI:=St->Hp->(It->Hp->Prop)->Prop
def PIE(X:Cx)(pins:List (Addr × Obj))(σ:St)(tg:Expr)(R:It->Hp->Prop)(itv:Value)(s2:Shared):Prop:=
 ∃(it:Addr) (fp:List Addr) (tn:Nat->Heap->Prop) (J:It) (H':Hp),itv=.ref it/\Inv X pins σ H' s2/\Turn X.prog X.w X.K tg J fp it tn/\tn 0 s2.heap/\(∀b∈fp,zco X pins H' b)/\R J H'
def PI(X:Cx)(tg iter:Expr)(wi:TI):Prop:=
 ∀(pins:List (Addr × Obj)) (s:Shared) (σ:St) (H:Hp) (R:It->Hp->Prop),Inv X pins σ H s->wi σ H R ->
  wpAny (model X.prog X.w) X.A (eval iter X.env) (fun v s1=>wpAny (model X.prog X.w) X.A (pyIter v) (PIE X pins σ tg R) X.xe s1) X.xe s
theorem zhM{M:Model}{A:Around}{E:Value->Shared->Prop}{s:Shared}{tg:Expr}{it:Addr}{u:Value}{o:Obj}{n:String}{vs:Array Value}{Q:Unit->Shared->Prop}(ho:s.heap.get? it=some o)(hc:o.cls=.type n)(hd:o.data=.fields vs)
  (hn:["enumerate", "zip", "dict_itemiterator", "dict_reverseitemiterator", "odict_iterator", "itertools.zip_longest", "itertools.pairwise"].contains n=false) (hQ:Q () s):wpAny M A (letOwnedTupleGo tg (.ref it) u) Q E s:=by
 unfold letOwnedTupleGo
 cases tg<;>first
  | exact wpAny_pure hQ
  | (cases u<;>first
    | exact wpAny_pure hQ
    | (refine wpAny_bind (wpAny_load ho ?_)
       rw[hc,hd]
       show wpAny M A (if(["enumerate", "zip", "dict_itemiterator", "dict_reverseitemiterator", "odict_iterator", "itertools.zip_longest", "itertools.pairwise"].contains n&&vs[0]? == some (rawInt _))=true then _ else _) Q E s
       rw[if_neg (by intro h;rw[hn,Bool.false_and]at h;cases h)]
       exact wpAny_pure hQ))
def Itl(K:Fg)(a:Addr):It:=
 ⟨fun i H=>∃xs x,SqL K H a xs/\xs[i]?=some x,fun i H x H'=>H'=H/\∀xs,SqL K H a xs->xs[i]?=some x,fun i H=>∃xs,SqL K H a xs/\xs.length<=i⟩
def Itt(K:Fg)(a:Addr):It:=
 ⟨fun i H=>∃xs x,SqT K H a xs/\xs[i]?=some x,fun i H x H'=>H'=H/\∀xs,SqT K H a xs->xs[i]?=some x,fun i H=>∃xs,SqT K H a xs/\xs.length<=i⟩
def Itr(lo:Int)(n:Nat):It:=⟨fun i _=>i<n,fun i H x H'=>H'=H/\x=.int (lo+i),fun i _=>n<=i⟩
theorem zjm{P:Program}{w:World}{K:Fg}{tg:Expr}(a it:Addr):Turn P w K tg (Itl K a) [it] it (fun i h=>h.IsListIter it a i) where
 mem:=by simp
 obj:=fun i h st b hb=>by
  have e:b=it:=by simpa using hb
  subst e
  obtain⟨o,e,c,d⟩:=st
  exact⟨o,e,fun v z=>by rw[d]at z;cases z⟩
 keep:=fun i h h' st k=>st.at fun o e=>k it (by simp) o e
 item:=by
  intro X hP hw hK hc i pins s σ H E I hf st hg
  subst hP hw hK
  obtain⟨xs,x,hq,hx⟩:=hg
  obtain⟨its,rv,p,hz⟩:=I.list hq
  obtain⟨u,hu,ru⟩:=rv.get hx
  obtain⟨f0,f1,f2,f3,f4,f5⟩:=hf it (by simp)
  refine wpAny_pyNext_list_item st p.isList (x:=u) (by simpa using hu) fun h' st' sb=>?_
  have I1:Inv X pins σ H { s with heap:=h' }:=I.turned (t':=s.toks) (fun b o hb e=>(sb.2 b hb).trans e) f0 f1 f3 f4 f5
  obtain⟨o,e,c,d⟩:=id st'
  exact⟨u,rfl,zhM (s:={ s with heap:=h' }) e c d (by decide) ⟨x,H,I1,ru,⟨rfl,fun ys hy=>by rw[I.list_inj hy hq];exact hx⟩,st',fun b hb=>(hf b hb).1⟩⟩
 done:=by
  intro X hP hw hK hc i pins s σ H E I hf st hg
  subst hP hw hK
  obtain⟨xs,hq,hx⟩:=hg
  obtain⟨its,rv,p,hz⟩:=I.list hq
  obtain⟨f0,f1,f2,f3,f4,f5⟩:=hf it (by simp)
  have hl:=rv.length
  exact wpAny_pyNext_list_end (I.ok.hd hc) st p.isList (by simp;omega) fun h' eb=>⟨rfl,I.turned (t':=s.toks) (fun b o hb e=>eb b o hb e) f0 f1 f3 f4 f5⟩
 self:=fun _ _ _ _ _ st h=>wpAny_pyIter_listiter st h
theorem zhS{P:Program}{w:World}{K:Fg}{tg:Expr}(a it:Addr):Turn P w K tg (Itt K a) [it] it (fun i h=>h.IsTupleIter it a i) where
 mem:=by simp
 obj:=fun i h st b hb=>by
  have e:b=it:=by simpa using hb
  subst e
  obtain⟨o,e,c,d⟩:=st
  exact⟨o,e,fun v z=>by rw[d]at z;cases z⟩
 keep:=fun i h h' st k=>st.at fun o e=>k it (by simp) o e
 item:=by
  intro X hP hw hK hc i pins s σ H E I hf st hg
  subst hP hw hK
  obtain⟨xs,x,hq,hx⟩:=hg
  obtain⟨its,rv,p,hz⟩:=I.tuple hq
  obtain⟨u,hu,ru⟩:=rv.get hx
  obtain⟨f0,f1,f2,f3,f4,f5⟩:=hf it (by simp)
  refine wpAny_pyNext_tuple_item st (show s.heap.IsTuple a its.toArray from p) (x:=u) (by simpa using hu) fun h' st' sb=>?_
  have I1:Inv X pins σ H { s with heap:=h' }:=I.turned (t':=s.toks) (fun b o hb e=>(sb.2 b hb).trans e) f0 f1 f3 f4 f5
  obtain⟨o,e,c,d⟩:=id st'
  exact⟨u,rfl,zhM (s:={ s with heap:=h' }) e c d (by decide) ⟨x,H,I1,ru,⟨rfl,fun ys hy=>by rw[I.tuple_inj hy hq];exact hx⟩,st',fun b hb=>(hf b hb).1⟩⟩
 done:=by
  intro X hP hw hK hc i pins s σ H E I hf st hg
  subst hP hw hK
  obtain⟨xs,hq,hx⟩:=hg
  obtain⟨its,rv,p,hz⟩:=I.tuple hq
  obtain⟨f0,f1,f2,f3,f4,f5⟩:=hf it (by simp)
  have hl:=rv.length
  exact wpAny_pyNext_tuple_end (I.ok.hd hc) st (show s.heap.IsTuple a its.toArray from p) (by simp;omega) fun h' eb=>⟨rfl,I.turned (t':=s.toks) (fun b o hb e=>eb b o hb e) f0 f1 f3 f4 f5⟩
 self:=fun _ _ _ _ _ st h=>wpAny_pyIter_tupleiter st h
theorem zh8{P:Program}{w:World}{K:Fg}{tg:Expr}(it:Addr)(lo:Int)(n:Nat):Turn P w K tg (Itr lo n) [it] it (fun i h=>IsRangeIter h it (lo+(i:Nat)*1) ((n:Int)-(i:Nat)) 1) where
 mem:=by simp
 obj:=fun i h st b hb=>by
  have e:b=it:=by simpa using hb
  subst e
  exact⟨_,st,fun v z=>by
   have z':Data.fields _=Data.cell v:=z
   cases z'⟩
 keep:=fun i h h' st k=>k it (by simp) _ st
 item:=by
  intro X hP hw hK hc i pins s σ H E I hf st hg
  subst hP hw hK
  obtain⟨f0,f1,f2,f3,f4,f5⟩:=hf it (by simp)
  have W:=Walks.range (prog:=X.prog) (w:=X.w) (I.ok.hd hc) it lo 1 n
  refine W.item i s _ _ hg st fun v h' tk hv st' kk=>?_
  obtain⟨t,rfl⟩:=hv
  have I1:Inv X pins σ H { s with heap:=h',toks:=tk }:=I.turned (fun b o hb e=>kk b o (by simpa using hb) e) f0 f1 f3 f4 f5
  refine⟨_,rfl,zhM (s:={ s with heap:=h',toks:=tk }) (n := "range_iterator") st' rfl rfl (by decide) ⟨.int (lo+i),H,I1,⟨t,?_⟩,⟨rfl,rfl⟩,st',fun b hb=>(hf b hb).1⟩⟩
  rw[Int.mul_one]
 done:=by
  intro X hP hw hK hc i pins s σ H E I hf st hg
  subst hP hw hK
  obtain⟨f0,f1,f2,f3,f4,f5⟩:=hf it (by simp)
  exact wpAny_pyNext_range_end (I.ok.hd hc) st (by have:n<=i:=hg;omega) fun h' eb=>⟨rfl,I.turned (t':=s.toks) (fun b o hb e=>eb b o hb e) f0 f1 f3 f4 f5⟩
 self:=fun _ _ _ _ _ st h=>wpAny_pyIter_rangeiter st h
section
variable {X:Cx}{tg:Expr}
def zbc(K:Fg)(tl:TE):TI:=fun σ H R=>tl σ H fun x H1=>∃a,x=.ref a/\(∃xs,SqL K H1 a xs)/\R (Itl K a) H1
def zhW(K:Fg)(tl:TE):TI:=fun σ H R=>tl σ H fun x H1=>∃a,x=.ref a/\(∃xs,SqT K H1 a xs)/\R (Itt K a) H1
theorem zaz{l:Expr}{tl:TE}(hl:PE X l tl):PI X tg l (zbc X.K tl):=by
 intro pins s σ H R I h
 refine thn (hl pins s σ H _ I h) fun v s1 zz=>?_
 obtain⟨x,H1,I1,r1,q1⟩:=zz
 obtain⟨a,e,⟨xs,hq⟩,q⟩:=q1
 subst e
 cases r1
 obtain⟨its,rv,p,hz⟩:=I1.list hq
 refine wpAny_pyIter_list p.isList ?_
 refine⟨s1.heap.objs.size,[s1.heap.objs.size],_,_,H1,rfl,I1.kept (t':=s1.toks) fun b o e=>Heap.get?_push_of_some _ e,zjm a _,⟨_,Heap.get?_push_size _ rfl,rfl,rfl⟩,fun b hb=>?_,q⟩
 have e:b=s1.heap.objs.size:=by simpa using hb
 subst e
 exact I1.fpOk (yg _) (I1.hok.fresh (yg _))
theorem zi4{l:Expr}{tl:TE}(hl:PE X l tl):PI X tg l (zhW X.K tl):=by
 intro pins s σ H R I h
 refine thn (hl pins s σ H _ I h) fun v s1 zz=>?_
 obtain⟨x,H1,I1,r1,q1⟩:=zz
 obtain⟨a,e,⟨xs,hq⟩,q⟩:=q1
 subst e
 cases r1
 obtain⟨its,rv,p,hz⟩:=I1.tuple hq
 refine wpAny_pyIter_tuple (show s1.heap.IsTuple a its.toArray from p) ?_
 refine⟨s1.heap.objs.size,[s1.heap.objs.size],_,_,H1,rfl,I1.kept (t':=s1.toks) fun b o e=>Heap.get?_push_of_some _ e,zhS a _,⟨_,Heap.get?_push_size _ rfl,rfl,rfl⟩,fun b hb=>?_,q⟩
 have e:b=s1.heap.objs.size:=by simpa using hb
 subst e
 exact I1.fpOk (yg _) (I1.hok.fresh (yg _))
theorem zj2{pins:List (Addr × Obj)}{σ:St}{H:Hp}{s:Shared}{R:It->Hp->Prop}{E:Value->Shared->Prop}{lo hi:Int}{t u v:Tok}{tk:Nat}(I:Inv X pins σ H s)(h1:-(2 ^ 62)<=lo)(h2:lo<2 ^ 62)(h3:-(2 ^ 62)<=hi)(h4:hi<2 ^ 62)
  (q:R (Itr lo (hi-lo).toNat) H):wpAny (model X.prog X.w) X.A (pyIter (.ref s.heap.objs.size)) (PIE X pins σ tg R) E { s with heap:=s.heap.push { cls:=.type "range",data:=.fields #[.int lo t,.int hi u,.int 1 v] },toks:=tk }:=by
 refine wpAny_pyIter_range (IsRange.new ..) (small_one h1 h2 h3 h4) ?_
 have I1:Inv X pins σ H { s with heap:=s.heap.push { cls:=.type "range",data:=.fields #[.int lo t,.int hi u,.int 1 v] },toks:=tk }:=I.kept fun b o e=>Heap.get?_push_of_some _ e
 refine⟨(s.heap.push { cls:=.type "range",data:=.fields #[.int lo t,.int hi u,.int 1 v] }).objs.size,[(s.heap.push { cls:=.type "range",data:=.fields #[.int lo t,.int hi u,.int 1 v] }).objs.size],_,_,H,rfl,
  I1.kept (t':=tk) fun b o e=>Heap.get?_push_of_some _ e,zh8 _ lo (hi-lo).toNat,?_,fun b hb=>?_,q⟩
 ·have e1:lo+((0:Nat):Int)*1=lo:=by simp
  have e2:(((hi-lo).toNat:Nat):Int)-((0:Nat):Int)=Builtin.Range.rangeSize lo hi 1:=by rw[rangeSize_one];split<;>omega
  show IsRangeIter _ _ (lo+((0:Nat):Int)*1) ((((hi-lo).toNat:Nat):Int)-((0:Nat):Int)) 1
  rw[e1,e2]
  exact Heap.get?_push_size _ rfl
 ·have e:b=(s.heap.push { cls:=.type "range",data:=.fields #[.int lo t,.int hi u,.int 1 v] }).objs.size:=by simpa using hb
  subst e
  exact I1.fpOk (yg _) (I1.hok.fresh (yg _))
def zkU(ta:TA):TI:=fun σ H R=>ta σ H fun vs H1=>∃j:Int,vs=[.int j]/\-(2 ^ 62)<=j/\j<2 ^ 62/\R (Itr 0 j.toNat) H1
theorem zaZ{a:Expr}{ta:TA}{p pos:Pos}(hg:Gl X "range")(hm:X.mg "range" = none)(ha:PA X [a] ta)(hs:autoParam (starEach [a] X.env=[(false,eval a X.env)]) Internal.aut2._auto_1):PI X tg (.Call (.Name "range" p) [a] [] pos) (zkU ta):=by
 intro pins s σ H R I h
 refine Call_ (zcI I hg hm boot_range (y4 (thn (ha pos pins s σ H _ I h) fun us s1 ⟨vs,H1,I1,r1,q1⟩=>?_) hs rfl))
 obtain⟨j,e,q1,q2,q⟩:=q1
 subst e
 cases r1 with
 | cons r rr=>
  cases rr
  obtain⟨t,rfl⟩:=r
  exact call_range_1 (zj2 I1 (by omega) (by omega) q1 q2 (by simpa using q))
def zl9(wi:TI)(g:TG)(tb:TS):TS:=fun D σ H=>wi σ H fun J H1=>∃W:Nat->Nat->St->Hp->Prop,(∃m,W 0 m σ H1)/\∀i m σ H,W i m σ H ->
 (J.stop i H/\D.nx σ H)\/(J.go i H/\∃N:St->Hp->Prop,(∀σ' H',N σ' H'->∃m',m'<m/\W (i+1) m' σ' H')/\∀x H',J.yld i H x H'->g x σ H' fun σ2 H2=>tb { D with nx:=N,ct:=N,bk:=D.nx } σ2 H2)
def zdC(fp:List Addr)(h:Heap):List (Addr × Obj):=fp.filterMap fun b=>(h.get? b).map fun o=>(b,o)
theorem zcO{fp:List Addr}{h:Heap}{b:Addr}{o:Obj}(hb:b∈fp)(e:h.get? b=some o):(b,o)∈zdC fp h:=yaI.mpr ⟨b,hb,by rw[e];rfl⟩
theorem zjy{fp:List Addr}{h:Heap}{p:Addr × Obj}(hp:p∈zdC fp h):p.1∈fp/\h.get? p.1=some p.2:=by
 obtain⟨b,hb,e⟩:=yaI.mp hp
 cases q:h.get? b with
 | none=>rw[q]at e;cases e
 | some o=>
  rw[q]at e
  have e':(b,o)=p:=yo e
  subst e'
  exact⟨hb,q⟩
theorem Inv.pinned{pins:List (Addr × Obj)}{σ:St}{H:Hp}{s:Shared}{fp:List Addr}(I:Inv X pins σ H s)(hf:∀b∈fp,zco X pins H b)(ho:∀b∈fp,∃o,s.heap.get? b=some o/\∀v,o.data≠.cell v):Inv X (pins++zdC fp s.heap) σ H s:=
 I.pins_of fun p hp=>(yv.mp hp).elim (fun z=>I.pin p (yw _ z)) fun z=>by
  obtain⟨hb,e⟩:=zjy z
  obtain⟨f0,f1,f2,_⟩:=hf p.1 hb
  obtain⟨o,e',d⟩:=ho p.1 hb
  rw[e]at e';cases e'
  exact⟨e,f0,f1,f2,d⟩
theorem Inv.unpinned{pins pl:List (Addr × Obj)}{σ:St}{H:Hp}{s:Shared}(I:Inv X (pins++pl) σ H s):Inv X pins σ H s:=I.pins_of fun p hp=>I.pin p (yw _ (yO _ hp))
theorem zbw{iter:Expr}{body:List Stmt}{wi:TI}{g:TG}{tb:TS}{pos:Pos}(hp:PassesOwn (model X.prog X.w) X.A X.env X.xe)(hc:X.calm=true)(hi:PI X tg iter wi)(hg:PG X tg g)(hb:PSs X body tb)
  (hs:autoParam (∀x,foldedSetIterable iter X.env x=pure x) Internal.aut3._auto_1):PS X (.For tg iter body [] pos) (zl9 wi g tb):=by
 intro pins s σ H D I h
 refine wpAny_For (thn (hi pins s σ H _ I h) fun v s1 h1=>thn h1 fun itv s2 h2=>?_) hs
 obtain⟨it,fp,tn,J,H2,e,I2,T,st2,f2,W,⟨m0,w0⟩,turn⟩:=h2
 subst e
 -- what stays true of the iterator's objects through the loop
 have stat:∀{H':Hp},(∀b∈fp,H' b=none)->∀b∈fp,zco X pins H' b:=fun hn b hb=>⟨hn b hb,(f2 b hb).2⟩
 refine codeAny_forLoop_any (fun n s'=>∃i σ' H',Inv X pins σ' H' s'/\tn i s'.heap/\(∀b∈fp,H' b=none)/\W i n σ' H') ?_ m0 ⟨0,σ,H2,I2,st2,fun b hb=>(f2 b hb).1,w0⟩
 rintro n s3 ⟨i,σ3,H3,I3,st3,fr3,w3⟩
 rcases turn i n σ3 H3 w3 with⟨stop,qn⟩ | ⟨go,N,hN,step⟩
 ·refine wpAny_passesOwn hp (thn (T.done X rfl rfl rfl hc i pins s3 σ3 H3 X.xe I3 (stat fr3) st3 stop) fun r s4 ⟨hr,I4⟩=>?_)
  subst hr
  exact wpAny_execs_nil ⟨σ3,H3,I4,qn⟩
 ·refine wpAny_passesOwn hp (thn (T.item X rfl rfl rfl hc i pins s3 σ3 H3 X.xe I3 (stat fr3) st3 go) fun r s4 ⟨u,hr,h4⟩=>?_)
  subst hr
  refine wpAny_passesOwn hp (thn h4 fun _ s5 zz=>?_)
  obtain⟨x,H5,I5,r5,y5,st5,fr5⟩:=zz
  have I5':=I5.pinned (stat fr5) (T.obj _ _ st5)
  refine wpAny_passesOwn hp (thn (hg _ s5 σ3 H5 x u _ I5' r5 (step x H5 y5)) fun _ s6 zz=>?_)
  obtain⟨σ6,H6,I6,q6⟩:=zz
  refine wpAny_passesOwn hp (thn (hb _ s6 σ6 H6 _ I6 q6) fun f s7 q7=>?_)
  have again:∀{σ7:St} {H7:Hp},Inv X (pins++zdC fp s5.heap) σ7 H7 s7->N σ7 H7->∃m,m<n/\∃i σ' H',Inv X pins σ' H' s7/\tn i s7.heap/\(∀b∈fp,H' b=none)/\W i m σ' H':=fun {σ7 H7} I7 n7=>by
   obtain⟨m',hm,w7⟩:=hN σ7 H7 n7
   refine⟨m',hm,i+1,σ7,H7,I7.unpinned,T.keep _ _ _ st5 fun b hb o e=>(I7.pin (b,o) (yw _ (yw _ (zcO hb e)))).1,fun b hb=>?_,w7⟩
   obtain⟨o,e,d⟩:=T.obj _ _ st5 b hb
   exact(I7.pin (b,o) (yw _ (yw _ (zcO hb e)))).2.1
  cases f with
  | next=>obtain⟨σ7,H7,I7,n7⟩:=q7;exact again I7 n7
  | cont=>obtain⟨σ7,H7,I7,n7⟩:=q7;exact again I7 n7
  | brk=>obtain⟨σ7,H7,I7,q7⟩:=q7;exact⟨σ7,H7,I7.unpinned,q7⟩
  | ret v=>obtain⟨x7,σ7,H7,I7,r7,q7⟩:=q7;exact⟨x7,σ7,H7,I7.unpinned,r7,q7⟩
end
theorem zj0{K:Fg}{a:Addr}{xs:List V}{g:TG}{tb:TS}{D:Ends}{σ:St}{H:Hp}(Pv:Nat->St->Hp->Prop)(h0:Pv 0 σ H)(hl:∀i σ H,i<=xs.length->Pv i σ H->SqL K H a xs)
  (hs:∀i x σ H,xs[i]?=some x->Pv i σ H->g x σ H fun σ2 H2=>tb { D with nx:=Pv (i+1),ct:=Pv (i+1),bk:=D.nx } σ2 H2) (hd:∀σ H,Pv xs.length σ H->D.nx σ H) :
  ∃W:Nat->Nat->St->Hp->Prop,(∃m,W 0 m σ H)/\∀i m σ H,W i m σ H ->
   ((Itl K a).stop i H/\D.nx σ H)\/((Itl K a).go i H/\∃N:St->Hp->Prop,(∀σ' H',N σ' H'->∃m',m'<m/\W (i+1) m' σ' H')/\∀x H',(Itl K a).yld i H x H'->g x σ H' fun σ2 H2=>tb { D with nx:=N,ct:=N,bk:=D.nx } σ2 H2):=by
 refine⟨fun i m σ H=>m=xs.length-i/\i<=xs.length/\Pv i σ H,⟨xs.length,by simp,yT _,h0⟩,?_⟩
 rintro i m σ H ⟨rfl,hi,p⟩
 have q:=hl i σ H hi p
 by_cases hlt:i<xs.length
 ·refine .inr ⟨⟨xs,xs[i],q,by simp[hlt]⟩,Pv (i+1),fun σ' H' p'=>⟨xs.length-(i+1),by omega,rfl,hlt,p'⟩,fun x H' y=>?_⟩
  obtain⟨e,y⟩:=y
  subst e
  exact hs i x σ _ (y xs q) p
 ·have e:i=xs.length:=by omega
  subst e
  exact .inl ⟨⟨xs,q,yg _⟩,hd σ H p⟩
theorem ziR{lo:Int}{n:Nat}{g:TG}{tb:TS}{D:Ends}{σ:St}{H:Hp}(Pv:Nat->St->Hp->Prop)(h0:Pv 0 σ H)
  (hs:∀i σ H,i<n->Pv i σ H->g (.int (lo+i)) σ H fun σ2 H2=>tb { D with nx:=Pv (i+1),ct:=Pv (i+1),bk:=D.nx } σ2 H2) (hd:∀σ H,Pv n σ H->D.nx σ H) :
  ∃W:Nat->Nat->St->Hp->Prop,(∃m,W 0 m σ H)/\∀i m σ H,W i m σ H ->
   ((Itr lo n).stop i H/\D.nx σ H)\/((Itr lo n).go i H/\∃N:St->Hp->Prop,(∀σ' H',N σ' H'->∃m',m'<m/\W (i+1) m' σ' H')/\∀x H',(Itr lo n).yld i H x H'->g x σ H' fun σ2 H2=>tb { D with nx:=N,ct:=N,bk:=D.nx } σ2 H2):=by
 refine⟨fun i m σ H=>m=n-i/\i<=n/\Pv i σ H,⟨n,by simp,yT _,h0⟩,?_⟩
 rintro i m σ H ⟨rfl,hi,p⟩
 by_cases hlt:i<n
 ·refine .inr ⟨hlt,Pv (i+1),fun σ' H' p'=>⟨n-(i+1),by omega,rfl,hlt,p'⟩,fun x H' y=>?_⟩
  obtain⟨e,y⟩:=y
  subst e y
  exact hs i σ _ hlt p
 ·have e:i=n:=by omega
  subst e
  exact .inl ⟨yg _,hd σ H p⟩
abbrev R2:=V->V->Hp->VK->Prop
def OpR(X:Cx)(f:Value->Value->Sem Value)(r:R2):Prop:=
 ∀(pins:List (Addr × Obj)) (s:Shared) (σ:St) (H:Hp) (x y:V) (v u:Value) (Q:VK),Inv X pins σ H s->RelV x v->RelV y u->r x y H Q ->
  wpAny (model X.prog X.w) X.A (f v u) (EP X pins σ Q) X.xe s
def UnR(X:Cx)(f:Value->Sem Value)(r:V->Hp->VK->Prop):Prop:=
 ∀(pins:List (Addr × Obj)) (s:Shared) (σ:St) (H:Hp) (x:V) (v:Value) (Q:VK),Inv X pins σ H s->RelV x v->r x H Q ->
  wpAny (model X.prog X.w) X.A (f v) (EP X pins σ Q) X.xe s
def CallR(X:Cx)(f:Value)(r:List V->Hp->VK->Prop):Prop:=
 ∀(pins:List (Addr × Obj)) (s:Shared) (σ:St) (H:Hp) (xs:List V) (us:List Value) (Q:VK),Inv X pins σ H s->Vals xs us->r xs H Q ->
  wpAny (model X.prog X.w) X.A (call f us) (EP X pins σ Q) X.xe s
def zon(X:Cx)(r:V->Hp->(Bool->Hp->Prop)->Prop):Prop:=
 ∀(pins:List (Addr × Obj)) (s:Shared) (σ:St) (H:Hp) (x:V) (v:Value) (Q:Bool->Hp->Prop),Inv X pins σ H s->RelV x v->r x H Q ->
  wpAny (model X.prog X.w) X.A (truthy v) (TP X pins σ Q) X.xe s
abbrev tOp(r:R2)(ta tb:TE):TE:=fun σ H Q=>ta σ H fun x H1=>tb σ H1 fun y H2=>r x y H2 Q
abbrev tUn(r:V->Hp->VK->Prop)(ta:TE):TE:=fun σ H Q=>ta σ H fun x H1=>r x H1 Q
def rI(C:Int->Int->Prop)(g:Int->Int->V):R2:=fun x y H Q=>∃i j,x=.int i/\y=.int j/\C i j/\Q (g i j) H
def rI0(g:Int->Int->V):R2:=fun x y H Q=>∃i j,x=.int i/\y=.int j/\Q (g i j) H
def rU(g:Int->V):V->Hp->VK->Prop:=fun x H Q=>∃i,x=.int i/\Q (g i) H
section
variable {X:Cx}{a b c:Expr}{ta tb tc:TE}{pos:Pos}
theorem zj1(ha:PE X a ta)(hb:PE X b tb){pins:List (Addr × Obj)}{s:Shared}{σ:St}{H:Hp}{R:V->V->Hp->Prop}(I:Inv X pins σ H s)
  (h:ta σ H fun x H1=>tb σ H1 fun y H2=>R x y H2) {Q:Value->Shared->Prop} {f:Value->Value->Sem Value}
  (hf:∀v u s2 x y H2,Inv X pins σ H2 s2->RelV x v->RelV y u->R x y H2->wpAny (model X.prog X.w) X.A (f v u) Q X.xe s2) :
  wpAny (model X.prog X.w) X.A (eval a X.env) (fun v s₁=>wpAny (model X.prog X.w) X.A (eval b X.env) (fun u s₂=>wpAny (model X.prog X.w) X.A (f v u) Q X.xe s₂) X.xe s₁) X.xe s:=by
 refine thn (ha pins s σ H _ I h) fun v s1 zz=>?_
 obtain⟨x,H1,I1,r1,q1⟩:=zz
 refine thn (hb pins s1 σ H1 _ I1 q1) fun u s2 zz=>?_
 obtain⟨y,H2,I2,r2,q2⟩:=zz
 exact hf v u s2 x y H2 I2 r1 r2 q2
theorem zr{op:Operator}{r:R2}(ho:OpR X (binaryOp op) r)(ha:PE X a ta)(hb:PE X b tb):PE X (.BinOp a op b pos) (tOp r ta tb):=by
 intro pins s σ H Q I h
 exact wpAny_BinOp (zj1 ha hb I h fun v u s2 x y H2 I2 rx ry q=>ho pins s2 σ H2 x y v u Q I2 rx ry q)
theorem zdj{op:UnaryOp}{r:V->Hp->VK->Prop}(ho:UnR X (unaryOp op) r)(ha:PE X a ta):PE X (.UnaryOp op a pos) (tUn r ta):=by
 intro pins s σ H Q I h
 exact UnaryOp_ (thn (ha pins s σ H _ I h) fun v s1 ⟨x,H1,I1,r1,q1⟩=>ho pins s1 σ H1 x v Q I1 r1 q1)
theorem opI{f:Value->Value->Sem Value}{C:Int->Int->Prop}{g:Int->Int->Int}
  (rule:∀(i j:Int) (t u:Tok) (s:Shared) (Q:Value->Shared->Prop) (E:Value->Shared->Prop),C i j->Q (.int (g i j) s.toks) { s with toks:=s.toks+1 }->wpAny (model X.prog X.w) X.A (f (.int i t) (.int j u)) Q E s) :
  OpR X f (rI C fun i j=>.int (g i j)):=by
 intro pins s σ H x y v u Q I rx ry h
 obtain⟨i,j,rfl,rfl,hc,q⟩:=h
 obtain⟨t,rfl⟩:=rx
 obtain⟨t',rfl⟩:=ry
 exact rule i j t t' s _ _ hc ⟨.int (g i j),H,I.tok _,⟨_,rfl⟩,q⟩
theorem zmr{f:Value->Value->Sem Value}{g:Int->Int->Int}
  (rule:∀(i j:Int) (t u:Tok) (s:Shared) (Q:Value->Shared->Prop) (E:Value->Shared->Prop),Q (.int (g i j) s.toks) { s with toks:=s.toks+1 }->wpAny (model X.prog X.w) X.A (f (.int i t) (.int j u)) Q E s) :
  OpR X f (rI0 fun i j=>.int (g i j)):=by
 intro pins s σ H x y v u Q I rx ry h
 obtain⟨i,j,rfl,rfl,q⟩:=h
 obtain⟨t,rfl⟩:=rx
 obtain⟨t',rfl⟩:=ry
 exact rule i j t t' s _ _ ⟨.int (g i j),H,I.tok _,⟨_,rfl⟩,q⟩
theorem zjV{f:Value->Value->Sem Value}{g:Int->Int->Bool}
  (rule:∀(i j:Int) (t u:Tok) (s:Shared) (Q:Value->Shared->Prop) (E:Value->Shared->Prop),Q (.bool (g i j)) s->wpAny (model X.prog X.w) X.A (f (.int i t) (.int j u)) Q E s) :
  OpR X f (rI0 fun i j=>.bl (g i j)):=by
 intro pins s σ H x y v u Q I rx ry h
 obtain⟨i,j,rfl,rfl,q⟩:=h
 obtain⟨t,rfl⟩:=rx
 obtain⟨t',rfl⟩:=ry
 exact rule i j t t' s _ _ ⟨.bl (g i j),H,I,rfl,q⟩
def zii(i j:Int):Prop:=0<=j/\j<=1000000/\i.natAbs<2 ^ 64
theorem op_add:OpR X (binaryOp .Add) (rI0 fun i j=>.int (i+j)):=zmr fun _ _ _ _ _ _ _ q=>add_int q
theorem zaX:OpR X (binaryOp .Sub) (rI0 fun i j=>.int (i-j)):=zmr fun _ _ _ _ _ _ _ q=>sub_int q
theorem zlA:OpR X (binaryOp .Mod) (rI (fun _ j=>j≠0) fun i j=>.int (i.fmod j)):=opI fun _ _ _ _ _ _ _ hc q=>mod_int' hc q
theorem zdO:OpR X (binaryOp .Pow) (rI zii fun i j=>.int (i ^ j.toNat)):=opI fun _ _ _ _ _ _ _ hc q=>pow_int_small hc.1 hc.2.1 hc.2.2 q
theorem unI{f:Value->Sem Value}{g:Int->Int}
  (rule:∀(i:Int) (t:Tok) (s:Shared) (Q:Value->Shared->Prop) (E:Value->Shared->Prop),Q (.int (g i) s.toks) { s with toks:=s.toks+1 }->wpAny (model X.prog X.w) X.A (f (.int i t)) Q E s) :
  UnR X f (rU fun i=>.int (g i)):=by
 intro pins s σ H x v Q I rx h
 obtain⟨i,rfl,q⟩:=h
 obtain⟨t,rfl⟩:=rx
 exact rule i t s _ _ ⟨.int (g i),H,I.tok _,⟨_,rfl⟩,q⟩
theorem zcR:UnR X (unaryOp .USub) (rU fun i=>.int (-i)):=unI fun _ _ _ _ _ q=>neg_int q
end
def scal:V->V->Bool
 | .non,.non=>true | .non,.int _=>true | .int _,.non=>true | .non,.bl _=>true | .bl _,.non=>true | .non,.str _=>true | .str _,.non=>true
 | .int _,.int _=>true | .bl _,.bl _=>true | .str _,.str _=>true | .byt _,.byt _=>true
 | .int _,.str _=>true | .str _,.int _=>true | .bl _,.str _=>true | .str _,.bl _=>true
 | _,_=>false
def rEq:R2:=fun x y H Q=>scal x y=true/\Q (.bl (decide (x=y))) H
def rNe:R2:=fun x y H Q=>scal x y=true/\Q (.bl (!decide (x=y))) H
theorem zho{i j:Int}:decide (V.int i=V.int j)=(i == j):=by
 rw[yay]
 simp
theorem ziD{i j:Bool}:decide (V.bl i=V.bl j)=(i == j):=by
 rw[yay]
 simp
theorem zhj{i j:Str}:decide (V.str i=V.str j)=(i == j):=by
 rw[yay]
 simp
theorem zg9{i j:Array UInt8}:decide (V.byt i=V.byt j)=(i.toList == j.toList):=by
 rw[yay]
 cases i
 cases j
 simp
section
variable {X:Cx}{a b c:Expr}{ta tb tc:TE}{pos:Pos}
theorem zW{pins:List (Addr × Obj)}{σ:St}{H:Hp}{s:Shared}{Q:VK}{k k':Bool}(I:Inv X pins σ H s)(q:Q (.bl k) H)(e:k=k'):EP X pins σ Q (.bool k') s:=by
 subst e
 exact⟨.bl k,H,I,rfl,q⟩
theorem znY:OpR X (compareOp .Eq) rEq:=by
 intro pins s σ H x y v u Q I rx ry h
 obtain⟨hs,q⟩:=h
 cases x with
 | non=>
  cases rx
  cases y with
  | non=>cases ry;exact PySem.EqNone.eq_none_none (zW I q (by simp))
  | bl j=>cases ry;exact PySem.EqNone.eq_none_bool (zW I q (by simp))
  | int j=>obtain⟨t',rfl⟩:=ry;exact PySem.EqNone.eq_none_int (zW I q (by simp))
  | str j=>obtain⟨t',rfl⟩:=ry;exact PySem.EqNone.eq_none_str (zW I q (by simp))
  | _=>exact absurd (show false=true from hs) yk
 | bl i=>
  cases rx
  cases y with
  | non=>cases ry;exact PySem.EqNone.eq_bool_none (zW I q (by simp))
  | bl j=>cases ry;exact eq_bool (zW I q ziD)
  | str j=>obtain⟨t',rfl⟩:=ry;exact PySem.EqMixed.eq_bool_str (zW I q (by simp))
  | _=>exact absurd (show false=true from hs) yk
 | int i=>
  obtain⟨t,rfl⟩:=rx
  cases y with
  | non=>cases ry;exact PySem.EqNone.eq_int_none (zW I q (by simp))
  | int j=>obtain⟨t',rfl⟩:=ry;exact eq_int (zW I q zho)
  | str j=>obtain⟨t',rfl⟩:=ry;exact PySem.EqMixed.eq_int_str (zW I q (by simp))
  | _=>exact absurd (show false=true from hs) yk
 | str i=>
  obtain⟨t,rfl⟩:=rx
  cases y with
  | non=>cases ry;exact PySem.EqNone.eq_str_none (zW I q (by simp))
  | bl j=>cases ry;exact PySem.EqMixed.eq_str_bool (zW I q (by simp))
  | int j=>obtain⟨t',rfl⟩:=ry;exact PySem.EqMixed.eq_str_int (zW I q (by simp))
  | str j=>obtain⟨t',rfl⟩:=ry;exact eq_str (zW I q zhj)
  | _=>exact absurd (show false=true from hs) yk
 | byt i=>
  obtain⟨t,rfl⟩:=rx
  cases y with
  | byt j=>obtain⟨t',rfl⟩:=ry;exact PySem.W.eq_bytes (zW I q zg9)
  | _=>exact absurd (show false=true from hs) yk
 | _=>cases y<;>exact absurd (show false=true from hs) yk
theorem znQ:OpR X (compareOp .NotEq) rNe:=by
 intro pins s σ H x y v u Q I rx ry h
 obtain⟨hs,q⟩:=h
 cases x with
 | non=>
  cases rx
  cases y with
  | non=>cases ry;exact PySem.EqNone.ne_none_none (zW I q (by simp))
  | bl j=>cases ry;exact PySem.EqNone.ne_none_bool (zW I q (by simp))
  | int j=>obtain⟨t',rfl⟩:=ry;exact PySem.EqNone.ne_none_int (zW I q (by simp))
  | str j=>obtain⟨t',rfl⟩:=ry;exact PySem.EqNone.ne_none_str (zW I q (by simp))
  | _=>exact absurd (show false=true from hs) yk
 | bl i=>
  cases rx
  cases y with
  | non=>cases ry;exact PySem.EqNone.ne_bool_none (zW I q (by simp))
  | bl j=>cases ry;exact ne_bool (zW I q (congrArg not ziD))
  | str j=>obtain⟨t',rfl⟩:=ry;exact PySem.EqMixed.ne_bool_str (zW I q (by simp))
  | _=>exact absurd (show false=true from hs) yk
 | int i=>
  obtain⟨t,rfl⟩:=rx
  cases y with
  | non=>cases ry;exact PySem.EqNone.ne_int_none (zW I q (by simp))
  | int j=>obtain⟨t',rfl⟩:=ry;exact ne_int (zW I q (congrArg not zho))
  | str j=>obtain⟨t',rfl⟩:=ry;exact PySem.EqMixed.ne_int_str (zW I q (by simp))
  | _=>exact absurd (show false=true from hs) yk
 | str i=>
  obtain⟨t,rfl⟩:=rx
  cases y with
  | non=>cases ry;exact PySem.EqNone.ne_str_none (zW I q (by simp))
  | bl j=>cases ry;exact PySem.EqMixed.ne_str_bool (zW I q (by simp))
  | int j=>obtain⟨t',rfl⟩:=ry;exact PySem.EqMixed.ne_str_int (zW I q (by simp))
  | str j=>obtain⟨t',rfl⟩:=ry;exact ne_str (zW I q (congrArg not zhj))
  | _=>exact absurd (show false=true from hs) yk
 | byt i=>
  obtain⟨t,rfl⟩:=rx
  cases y with
  | byt j=>obtain⟨t',rfl⟩:=ry;exact PySem.W.ne_bytes (zW I q (congrArg not zg9))
  | _=>exact absurd (show false=true from hs) yk
 | _=>cases y<;>exact absurd (show false=true from hs) yk
theorem zaL:OpR X (compareOp .Lt) (rI0 fun i j=>.bl (decide (i<j))):=zjV fun _ _ _ _ _ _ _ q=>lt_int q
theorem zb9:OpR X (compareOp .Gt) (rI0 fun i j=>.bl (decide (j<i))):=zjV fun _ _ _ _ _ _ _ q=>gt_int q
theorem zeT:OpR X (compareOp .GtE) (rI0 fun i j=>.bl (decide (j<=i))):=zjV fun _ _ _ _ _ _ _ q=>ge_int q
theorem OpR.or{f:Value->Value->Sem Value}{r r':R2}(h:OpR X f r)(h':OpR X f r'):OpR X f (fun x y H Q=>r x y H Q\/r' x y H Q):=by
 intro pins s σ H x y v u Q I rx ry q
 rcases q with q | q
 ·exact h pins s σ H x y v u Q I rx ry q
 ·exact h' pins s σ H x y v u Q I rx ry q
theorem nomark(b:Expr){op:CmpOp}(h:autoParam (op≠.In) Internal.aut1._auto_1)(h2:autoParam (op≠.NotIn) Internal.aut1._auto_1):behindInMarks op b=false:=by
 have e1:(op == CmpOp.In)=false:=by cases op<;>first | rfl | exact absurd rfl h
 have e2:(op == CmpOp.NotIn)=false:=by cases op<;>first | rfl | exact absurd rfl h2
 cases b<;>simp[behindInMarks,e1,e2]
theorem zbZ{op:CmpOp}{r:R2}(ho:OpR X (compareOp op) r)(ha:PE X a ta)(hb:PE X b tb)(hm:behindInMarks op b=false):PE X (.Compare a [op] [b] pos) (tOp r ta tb):=by
 intro pins s σ H Q I h
 exact wpAny_Compare1 (zj1 ha hb I h fun v u s2 x y H2 I2 rx ry q=>ho pins s2 σ H2 x y v u Q I2 rx ry q) hm
abbrev znX(t:TE):TT:=fun σ H Q=>t σ H fun x H'=>∃k,x=.bl k/\Q k H'
theorem zo{op:CmpOp}{r:R2}(ho:OpR X (compareOp op) r)(ha:PE X a ta)(hb:PE X b tb)(hm:behindInMarks op b=false):PT X (.Compare a [op] [b] pos) (znX (tOp r ta tb)):=by
 intro pins s σ H Q I h
 refine wpAny_isTrue_Compare1 (thn (ha pins s σ H _ I h) fun v s1 ⟨x,H1,I1,r1,q1⟩=>thn (hb pins s1 σ H1 _ I1 q1) fun u s2 ⟨y,H2,I2,r2,q2⟩=>
  thn (ho pins s2 σ H2 x y v u _ I2 r1 r2 q2) fun c s3 ⟨z,H3,I3,r3,k,e,q3⟩=>?_) hm
 subst e
 cases r3
 exact wpAny_truthy_bool ⟨H3,I3,q3⟩
def ze7(K:Fg)(x:V)(H:Hp)(k:Bool):Prop:=
 match x with
 | .non=>k=false
 | .bl b=>k=b
 | .int i=>k=(i != 0)
 | .str y=>y.length<=sizeLine/\k=((y.length:Int) != 0)
 | .byt y=>y.size<=sizeLine/\k=((y.size:Int) != 0)
 | .ref p=>(∃xs,SqL K H p xs/\k=!xs.isEmpty)\/(∃xs,SqT K H p xs/\k=!xs.isEmpty)\/∃kvs,H p=some (.dK kvs)/\k=!kvs.isEmpty
 | _=>False
theorem zhK{κ:Type}{kvs:List (κ × V)}{vs:List (κ × Value)}(r:KV kvs vs):(!vs.isEmpty)=!kvs.isEmpty:=by
 cases r<;>rfl
theorem zez{xs:List V}{its:List Value}(r:Vals xs its):(!its.toArray.isEmpty)=!xs.isEmpty:=by
 cases r<;>simp
theorem line63:(sizeLine:Nat)<2 ^ 63:=by rw[sizeLine_eq];decide
theorem ziX:zon X (fun x H Q=>∃k,ze7 X.K x H k/\Q k H):=by
 intro pins s σ H x v Q I rx h
 obtain⟨k,e,q⟩:=h
 have hl:=line63
 have hs:sizeLine=16777216:=sizeLine_eq
 cases x with
 | non=>
  cases rx
  have e':k=false:=e
  subst e'
  exact truthy_none ⟨H,I,q⟩
 | bl b=>
  cases rx
  have e':k=b:=e
  subst e'
  exact wpAny_truthy_bool ⟨H,I,q⟩
 | int i=>
  obtain⟨t,rfl⟩:=rx
  have e':k=(i != 0):=e
  subst e'
  exact PySem.P.truthy_int ⟨H,I,q⟩
 | str y=>
  obtain⟨t,rfl⟩:=rx
  obtain⟨hy,e'⟩:y.length<=sizeLine/\k=((y.length:Int) != 0):=e
  subst e'
  exact PySem.P.truthy_str (by omega) ⟨H,I.tok _,q⟩
 | byt y=>
  obtain⟨t,rfl⟩:=rx
  obtain⟨hy,e'⟩:y.size<=sizeLine/\k=((y.size:Int) != 0):=e
  subst e'
  exact PySem.W.truthy_bytes (by omega) ⟨H,I.tok _,q⟩
 | ref p=>
  cases rx
  have e':(∃xs,SqL X.K H p xs/\k=!xs.isEmpty)\/(∃xs,SqT X.K H p xs/\k=!xs.isEmpty)\/∃kvs,H p=some (.dK kvs)/\k=!kvs.isEmpty:=e
  rcases e' with⟨xs,hx,e'⟩ | ⟨xs,hx,e'⟩ | ⟨kvs,hx,e'⟩
  ·subst e'
   obtain⟨its,r,pl,hz⟩:=I.list hx
   have hlen:=r.length
   exact wpAny_truthy_list pl.isList (by simp only[yj];omega) ⟨H,I.tok _,by rw[zez r];exact q⟩
  ·subst e'
   obtain⟨its,r,pl,hz⟩:=I.tuple hx
   have hlen:=r.length
   exact truthy_tuple pl (by simp only[yj];omega) ⟨H,I.tok _,by rw[zez r];exact q⟩
  ·subst e'
   obtain⟨hz,hS,vs,r,m⟩:kvs.length<=sizeLine/\(p == sysModules)=false/\∃vs,KV kvs vs/\s.heap.DictOf (ze4 X.prog X.w) p vs:=I.hok p _ hx
   have hlen:kvs.length=vs.length:=Paired.length r
   exact wpAny_truthy_dict hS m (by omega) ⟨H,I.tok _,by rw[zhK r];exact q⟩
 | _=>exact(show False from e).elim
theorem zj5(ha:PE X a ta)(he:∀whole,isTrue a X.env whole=(do let v <- whole;standAt a.pos;holding [v] (truthy v))) :
  PT X a (fun σ H Q=>ta σ H fun x H'=>∃k,ze7 X.K x H' k/\Q k H'):=by
 intro pins s σ H Q I h
 exact isTrue_plain (thn (ha pins s σ H _ I h) fun v s1 ⟨x,H1,I1,r1,q1⟩=>ziX pins s1 σ H1 x v Q I1 r1 q1) (he _)
theorem vals1{x:V}{us:List Value}(r:Vals [x] us):∃u,us=[u]/\RelV x u:=by
 cases r with
 | cons r1 r2=>cases r2;exact⟨_,rfl,r1⟩
theorem vals2{x y:V}{us:List Value}(r:Vals [x,y] us):∃u w',us=[u,w']/\RelV x u/\RelV y w':=by
 cases r with
 | cons r1 r2=>
  cases r2 with
  | cons r3 r4=>cases r4;exact⟨_,_,rfl,r1,r3⟩
theorem zjz:CallR X (.builtin "abs") (fun xs H Q=>∃i,xs=[.int i]/\Q (.int (if i<0 then -i else i)) H):=by
 intro pins s σ H xs us Q I r h
 obtain⟨i,rfl,q⟩:=h
 obtain⟨u,rfl,t,rfl⟩:=vals1 r
 exact call_abs_int fun u tk=>⟨.int (if i<0 then -i else i),H,I.tok _,⟨_,rfl⟩,q⟩
theorem zjr(hc:X.calm=true):CallR X (.builtin "max") (fun xs H Q=>∃i j,xs=[.int i,.int j]/\Q (.int (if j>i then j else i)) H):=by
 intro pins s σ H xs us Q I r h
 obtain⟨i,j,rfl,q⟩:=h
 obtain⟨u,w',rfl,⟨t,rfl⟩,⟨t',rfl⟩⟩:=vals2 r
 refine max_two_ints (I.ok.hd hc) fun h' tk k=>⟨_,H,I.kept k,?_,q⟩
 by_cases hj:j>i
 ·rw[if_pos hj,if_pos hj];exact⟨_,rfl⟩
 ·rw[if_neg hj,if_neg hj];exact⟨_,rfl⟩
theorem zi3(hc:X.calm=true):CallR X (.builtin "min") (fun xs H Q=>∃i j,xs=[.int i,.int j]/\Q (.int (if j<i then j else i)) H):=by
 intro pins s σ H xs us Q I r h
 obtain⟨i,j,rfl,q⟩:=h
 obtain⟨u,w',rfl,⟨t,rfl⟩,⟨t',rfl⟩⟩:=vals2 r
 refine min_two_ints (I.ok.hd hc) fun h' tk k=>⟨_,H,I.kept k,?_,q⟩
 by_cases hj:j<i
 ·rw[if_pos hj,if_pos hj];exact⟨_,rfl⟩
 ·rw[if_neg hj,if_neg hj];exact⟨_,rfl⟩
theorem zim:CallR X (.type "int") (fun xs H Q=>(∃i,xs=[.int i]/\Q (.int i) H)\/∃k,xs=[.bl k]/\Q (.int (if k then 1 else 0)) H):=by
 intro pins s σ H xs us Q I r h
 rcases h with⟨i,rfl,q⟩ | ⟨k,rfl,q⟩
 ·obtain⟨u,rfl,t,rfl⟩:=vals1 r
  exact call_int_int ⟨.int i,H,I,⟨_,rfl⟩,q⟩
 ·obtain⟨u,rfl,r1⟩:=vals1 r
  cases r1
  exact call_int_bool ⟨.int (if k then 1 else 0),H,I.tok _,⟨_,rfl⟩,q⟩
end
set_option genInjectivity false in
set_option genSizeOf false in
structure ObjM(h:Heap)(x dx C:Addr)(mA:Str->Option Value):Prop where
 obj:h.get? x=some (PySem.W.instObj C dx)
 ns:h.Ns1 dx mA
 ne:dx≠x
theorem ziy{h:Heap}{dx:Addr}{mA:Str->Option Value}(n:h.Ns1 dx mA):∃od,h.get? dx=some od/\∀name,PySem.W.lookIn name od=some (mA name):=by
 obtain⟨o,es,ep,ho,hd,hk,_,hm⟩:=n
 refine⟨o,ho,fun name=>?_⟩
 have e:=hm name
 unfold nsFind findBy at e
 rw[<- Array.find?_toList]at e
 unfold PySem.W.lookIn
 rw[hd]
 dsimp only
 split
 ·rename_i y q
  rw[q]at e
  exact congrArg some e
 ·rename_i q
  rw[q]at e
  have a:es.toList.any (·.refKey)=false:=by
   rw[List.any_eq_false]
   intro y hy
   obtain⟨z,t,hkey⟩:=hk y (Array.mem_toList_iff.mp hy)
   simp[DictEntry.refKey,hkey]
  have a':¬es.toList.any (·.refKey)=true:=by rw[a];exact yk
  rw[if_neg a']
  exact congrArg some e
theorem ObjM.look{h:Heap}{x dx C:Addr}{mA:Str->Option Value}(I:ObjM h x dx C mA):∃od,PySem.W.InstAt h x (PySem.W.instObj C dx) C (some od)/\∀name,PySem.W.lookIn name od=some (mA name):=
 let ⟨od,ho,hl⟩:=ziy I.ns
 ⟨od,⟨I.obj,rfl,rfl,ho⟩,hl⟩
section
variable {prog:Program}{w:World}{A:Around}{E:Value->Shared->Prop}{s:Shared}{K:Fg}{x dx C f:Addr}{mA:Str->Option Value}{name:Str}{v:Value}
theorem zla{expr:Bool}{Q:Value->Shared->Prop}(X:K.In s.heap)(I:ObjM s.heap x dx C mA)(hg:PySem.W.plainGet K C name=true)(hh:PySem.W.hasDictIn K C=true)
  (ha:PySem.W.findIn K (.ref C) name=some none) (hv:mA name=some v) (hv':PySem.W.handedIn v=true) (h:Q v { s with toks:=s.toks+1 }) :
  wpAny (model prog w) A (getAttr (.ref x) name expr) Q E s:=by
 obtain⟨od,J,hl⟩:=I.look
 exact PySem.W.get_value X J (yaH hg).1 (PySem.W.findObj_own hh ha rfl (by rw[hl,hv])) hv' h
theorem zj4{pl:Sem Bool}{Q:Value × List Value->Shared->Prop}(X:K.In s.heap)(I:ObjM s.heap x dx C mA)(hg:PySem.W.plainGet K C name=true)
  (hf:PySem.W.findIn K (.ref C) name=some (some (.ref f))) (ht:PySem.W.isFn K (.ref f)=true) (hv:mA name=none) (h:Q (.ref f,[.ref x]) s) :
  wpAny (model prog w) A (getMethod (.ref x) name pl) Q E s:=by
 obtain⟨od,J,hl⟩:=I.look
 exact PySem.W.method_fn X J (yaH hg).1 (yaH hg).2 hf (beq_iff_eq.mp ht) (by show(PySem.W.lookIn name od).map (·.isSome)=some false;rw[hl,hv];rfl) h
theorem zlO{ns:List Str}{Q:Unit->Shared->Prop}(X:K.In s.heap)(I:ObjM s.heap x dx C mA)
  (hs:PySem.W.findIn K (.ref C) "__setattr__" = some (some (.builtin "object.__setattr__"))) (hp:PySem.W.plainOver K C=true) (ht:PySem.W.takerIn K C name=some none) (hh:PySem.W.hasDictIn K C=true)
  (hw:PySem.Within mA ns) (hsz:ns.length<=sizeLine)
  (h:∀h',ObjM h' x dx C (fun y=>if y=name then some v else mA y)->Heap.SameBut dx s.heap h'->Q () { s with heap:=h',toks:=s.toks+2 }) :
  wpAny (model prog w) A (setAttr (.ref x) name v) Q E s:=by
 obtain⟨od,J,hl⟩:=I.look
 refine PySem.W.set_plain X J hs (PySem.W.osa_open (s:={ s with toks:=s.toks+1 }) (r:=none) X J hp ht fun b=>?_)
 obtain⟨cd,hc,hd'⟩:=PySem.W.any_some hh
 have hx:s.heap.get? x=some ⟨.ref C,some dx,.plain,#[]⟩:=I.obj
 refine wpAny_bind (wpAny_pure (wpAny_bind (wpAny_bind (wpAny_loadPart hx (wpAny_bind (PySem.W.Looks.here (s:={ s with toks:=s.toks+1 }) (PySem.W.looks_clsIn X hc) ?_))))))
 rw[hd']
 refine wpAny_pure (a:=some dx) (wpAny_bind (wpAny_pure (wpAny_bind ?_)))
 refine wpAny_nsSet1 (s:={ s with toks:=s.toks+1 }) I.ns fun h' hn2 hs2=>?_
 obtain⟨oD,esD,epD,hoD,hdD,hcD⟩:=hn2.count (PySem.Within.cons name v hw)
 refine wpAny_bind (wpAny_lookBehind hoD (by rw[hdD];exact pastItsLine_dict (yb hcD (by rw[yM];omega))) ?_)
 exact wpAny_pure (h _ ⟨(hs2.2 _ (yaj I.ne)).trans I.obj,hn2,I.ne⟩ hs2)
theorem zjZ{R:Result->Shared->Prop}{vs:List Value}{kw:List (Str × Value)}(X:K.In s.heap)(hm:PySem.W.makesIn K C=true)
  (hi:PySem.W.findIn K (.ref C) "__init__" = some (some (.ref f))) (hf:PySem.W.typeIn K (.ref f)=some (.type "function"))
  (h:codeAny (model prog w) (A.under (.builtin "type.__call__" ⟨.ref C :: vs,kw⟩)) (.call (.ref f) ⟨.ref (s.heap.objs.size+1) :: vs,kw⟩) (PySem.W.InitBack (s.heap.objs.size+1) R)
   { s with heap:=(s.heap.push PySem.W.emptyDict).push (PySem.W.instObj C s.heap.objs.size) }) :
  codeAny (model prog w) A (.call (.ref C) ⟨vs,kw⟩) R s:=by
 obtain⟨hh,g,d,t,os⟩:=s
 exact PySem.W.make_core (PySem.W.makes_of X hm) (yaz X hi) (fun self=>PySem.W.bind_fn X self hf) (.inl rfl) h
end
def zao(f:Str)(v:V):List (Str × V)->List (Str × V)
 | []=>[(f,v)]
 | (g,x) :: r=>if g=f then(g,v) :: r else(g,x) :: zao f v r
theorem zi(f g:Str)(v:V):∀fs:List (Str × V),(zao f v fs).lookup g=if g=f then some v else fs.lookup g
 | []=>by
  show List.lookup g [(f,v)]=_
  by_cases h:g=f
  ·have hb:(g == f)=true:=beq_iff_eq.mpr h
   simp only[List.lookup,hb,if_pos h]
  ·have hb:(g == f)=false:=beq_eq_false_iff_ne.mpr h
   simp only[List.lookup,hb,if_neg h]
 | (k,x) :: r=>by
  have ih:=zi f g v r
  rw[show zao f v ((k,x) :: r)=(if k=f then(k,v) :: r else(k,x) :: zao f v r)from rfl]
  by_cases hk:k=f
  ·rw[if_pos hk]
   by_cases h:g=k
   ·have hb:(g == k)=true:=beq_iff_eq.mpr h
    simp only[List.lookup,hb,if_pos (h.trans hk)]
   ·have hb:(g == k)=false:=beq_eq_false_iff_ne.mpr h
    simp only[List.lookup,hb,if_neg (fun e:g=f=>h (e.trans hk.symm))]
  ·rw[if_neg hk]
   by_cases h:g=k
   ·have hb:(g == k)=true:=beq_iff_eq.mpr h
    simp only[List.lookup,hb,if_neg (fun e:g=f=>hk (h.symm.trans e))]
   ·have hb:(g == k)=false:=beq_eq_false_iff_ne.mpr h
    simp only[List.lookup,hb]
    exact ih
theorem zdN(f:Str)(v:V):∀fs:List (Str × V),f∈(zao f v fs).map (·.1)/\∀g,g∈fs.map (·.1)->g∈(zao f v fs).map (·.1)
 | []=>⟨by simp[zao],fun g h=>by simp at h⟩
 | (k,x) :: r=>by
  obtain⟨i1,i2⟩:=zdN f v r
  rw[show zao f v ((k,x) :: r)=(if k=f then(k,v) :: r else(k,x) :: zao f v r)from rfl]
  by_cases hk:k=f
  ·rw[if_pos hk]
   subst hk
   exact⟨by simp,fun g h=>by simpa using h⟩
  ·rw[if_neg hk]
   refine⟨?_,fun g h=>?_⟩
   ·rw[yH]
    exact yE _ i1
   ·rw[yH]at h ⊢
    rcases yf.mp h with e | e
    ·exact yf.mpr (.inl e)
    ·exact yE _ (i2 g e)
theorem zm(f:Str)(v:V):∀fs:List (Str × V),(zao f v fs).length<=fs.length+1
 | []=>by simp[zao]
 | (k,x) :: r=>by
  have ih:=zm f v r
  rw[show zao f v ((k,x) :: r)=(if k=f then(k,v) :: r else(k,x) :: zao f v r)from rfl]
  by_cases hk:k=f
  ·rw[if_pos hk,yM,yM];omega
  ·rw[if_neg hk,yM,yM];omega
theorem RelO.some_of{v:V}{o:Option Value}(r:RelO (some v) o):∃u,o=some u/\RelV v u:=by
 cases o with
 | none=>exact(show False from r).elim
 | some u=>exact⟨u,rfl,r⟩
theorem RelO.none_of{o:Option Value}(r:RelO none o):o=none:=by
 cases o with
 | none=>rfl
 | some u=>exact(show False from r).elim
theorem zjl{v:V}{u:Value}(r:RelV v u):PySem.W.handedIn u=true:=by
 cases v with
 | non=>cases(show u=Value.none from r);rfl
 | bl b=>cases(show u=Value.bool b from r);rfl
 | int i=>obtain⟨t,e⟩:=(show ∃t,u=Value.int i t from r);cases e;rfl
 | str x=>obtain⟨t,e⟩:=(show ∃t,u=Value.str x t from r);cases e;rfl
 | byt b=>obtain⟨t,e⟩:=(show ∃t,u=Value.bytes b t from r);cases e;rfl
 | flt b=>obtain⟨t,e⟩:=(show ∃t,u=Value.float b t from r);cases e;rfl
 | ref a=>cases(show u=Value.ref a from r);rfl
 | ty n=>cases(show u=Value.type n from r);rfl
section
variable {P:Program}{w:World}{H H':Hp}{h h':Heap}{a C dx:Addr}{fs fs':List (Str × V)}
theorem zdX(hok:HOk P w H h)(e:H a=some (.ins C dx fs)):∃mA,ObjM h a dx C mA/\(∀f,RelO (fs.lookup f) (mA f))/\PySem.Within mA (fs.map (·.1))/\fs.length<=1000/\H dx=some (.own a):=by
 obtain⟨d,z,ne,ob,mA,n,r,q⟩:=(show ObjOk P w H h a (.ins C dx fs)from hok a _ e)
 exact⟨mA,⟨ob,n,ne⟩,r,q,z,d⟩
end
set_option genInjectivity false in
set_option genSizeOf false in
structure Cls(K:Fg)(C:Addr):Prop where
 pg:PySem.W.plainGet K C Str.empty=true
 hd:PySem.W.hasDictIn K C=true
 po:PySem.W.plainOver K C=true
 sa:PySem.W.findIn K (.ref C) "__setattr__" = some (some (.builtin "object.__setattr__"))
theorem Cls.get{K:Fg}{C:Addr}(c:Cls K C)(f:Str):PySem.W.plainGet K C f=true:=c.pg
def NoAttr(K:Fg)(C:Addr)(f:Str):Prop:=PySem.W.findIn K (.ref C) f=some none
theorem NoAttr.taker{K:Fg}{C:Addr}{f:Str}(n:NoAttr K C f):PySem.W.takerIn K C f=some none:=by
 unfold PySem.W.takerIn
 rw[show PySem.W.findIn K (.ref C) f=some none from n]
 rfl
set_option genInjectivity false in
set_option genSizeOf false in
structure Con(K:Fg)(C:Addr)(f:Str)(v:V)(u:Value):Prop where
 at_:PySem.W.findIn K (.ref C) f=some (some u)
 rel:RelV v u
 get:PySem.W.specialIn K u "__get__" = some none
 cp:PySem.W.copiedNames.contains f=false
set_option genInjectivity false in
set_option genSizeOf false in
structure Meth(K:Fg)(C:Addr)(m:Str)(f:Addr):Prop where
 at_:PySem.W.findIn K (.ref C) m=some (some (.ref f))
 fn:PySem.W.isFn K (.ref f)=true
 kp:PySem.W.keepIn K (.ref f)=true
section
variable {X:Cx}{pins:List (Addr × Obj)}{σ:St}{H:Hp}{s:Shared}{a C dx:Addr}{fs:List (Str × V)}{f:Str}{v:V}{A:Around}{E:Value->Shared->Prop}
theorem zhC{b:Bool}{Q:Value->Shared->Prop}(I:Inv X pins σ H s)(e:H a=some (.ins C dx fs))(c:Cls X.K C)(n:NoAttr X.K C f)(l:fs.lookup f=some v)
  (h:∀u s',Inv X pins σ H s'->RelV v u->Q u s'):wpAny (model X.prog X.w) A (getAttr (.ref a) f b) Q E s:=by
 obtain⟨mA,O,r,_,_,_⟩:=zdX I.hok e
 obtain⟨u,hu,ru⟩:=RelO.some_of (v:=v) (o:=mA f) (by rw[<- l];exact r f)
 exact zla I.kIn O (c.get f) c.hd n hu (zjl ru) (h u _ (I.tok _) ru)
theorem zie{m:Str}{g:Addr}{pl:Sem Bool}{Q:Value × List Value->Shared->Prop}(I:Inv X pins σ H s)(e:H a=some (.ins C dx fs))(c:Cls X.K C)(k:Meth X.K C m g)(l:fs.lookup m=none)
  (h:Q (.ref g,[.ref a]) s):wpAny (model X.prog X.w) A (getMethod (.ref a) m pl) Q E s:=by
 obtain⟨mA,O,r,_,_,_⟩:=zdX I.hok e
 have hn:mA m=none:=RelO.none_of (by rw[<- l];exact r m)
 exact zj4 I.kIn O (c.get m) k.at_ k.fn hn h
theorem zhU{y:V}{u:Value}{Q:Unit->Shared->Prop}(I:Inv X pins σ H s)(e:H a=some (.ins C dx fs))(c:Cls X.K C)(n:NoAttr X.K C f)(hl:fs.length<1000)(ry:RelV y u)
  (h:∀s',Inv X pins σ (upd H a (.ins C dx (zao f y fs))) s'->Q () s'):wpAny (model X.prog X.w) A (setAttr (.ref a) f u) Q E s:=by
 obtain⟨mA,O,r,wi,_,ho⟩:=zdX I.hok e
 have hz:(fs.map (·.1)).length<=sizeLine:=by rw[ya,sizeLine_eq];omega
 refine zlO I.kIn O c.sa c.po n.taker c.hd wi hz fun h' O' sb=>h _ ?_
 have hd:∃o,h'.get? dx=some o:=let ⟨o,_,_,e',_⟩:=O'.ns;⟨o,e'⟩
 refine I.write (x:=a) (e:=dx) (by rw[e];exact True.intro) (.inr ho) (fun b q hb z=>(sb.2 b hb).trans z) hd ?_
 refine⟨by rw[zK O.ne];exact ho,?_,O.ne,O'.obj,_,O'.ns,fun g=>?_,fun g hg=>?_⟩
 ·have:=zm f y fs;omega
 ·show RelO ((zao f y fs).lookup g) (if g=f then some u else mA g)
  rw[zi]
  by_cases q:g=f
  ·rw[if_pos q,if_pos q];exact ry
  ·rw[if_neg q,if_neg q];exact r g
 ·by_cases q:g=f
  ·rw[q];exact(zdN f y fs).1
  ·refine(zdN f y fs).2 g (wi g fun z=>hg ?_)
   show(if g=f then some u else mA g)=none
   rw[if_neg q];exact z
theorem Inv.made(I:Inv X pins σ H s):Inv X pins σ (upd (upd H s.heap.objs.size (.own (s.heap.objs.size+1))) (s.heap.objs.size+1) (.ins C s.heap.objs.size []))
  { s with heap:=(s.heap.push PySem.W.emptyDict).push (PySem.W.instObj C s.heap.objs.size) }:=by
 have e1:(s.heap.push PySem.W.emptyDict).get? s.heap.objs.size=some PySem.W.emptyDict:=Heap.get?_push_size s.heap rfl
 have e2:((s.heap.push PySem.W.emptyDict).push (PySem.W.instObj C s.heap.objs.size)).get? (s.heap.objs.size+1)=some (PySem.W.instObj C s.heap.objs.size):=by
  have:=Heap.get?_push_size (s.heap.push PySem.W.emptyDict) (o:=PySem.W.instObj C s.heap.objs.size) rfl
  rwa [Heap.size_push]at this
 have e3:(s.heap.push PySem.W.emptyDict).Ns s.heap.objs.size (fun _=>none):=⟨PySem.W.emptyDict,#[],_,e1,rfl,(fun e he=>absurd he (by simp)),fun _=>rfl⟩
 have I1:=I.laid (a:=s.heap.objs.size) (o:=.own (s.heap.objs.size+1)) (h':=s.heap.push PySem.W.emptyDict) (t':=s.toks) (fun b u q=>Heap.get?_push_of_some _ q) (yg _) ⟨_,e1⟩
 refine I1.laid (a:=s.heap.objs.size+1) (o:=.ins C s.heap.objs.size []) (t':=s.toks) (fun b u q=>Heap.get?_push_of_some _ q) (yaP (Heap.size_push _ _)) ?_
 have ne:s.heap.objs.size≠s.heap.objs.size+1:=yn (y3 _)
 refine⟨by rw[zK ne,zL],yT _,ne,e2,fun _=>none,(Heap.Ns1.of_empty e3).at fun o q=>Heap.get?_push_of_some _ q,fun _=>True.intro,fun y hy=>absurd rfl hy⟩
theorem zlq{prog:Program}{w:World}{env:Env}{e:Expr}{f:Str}{pos:Pos}{s:Shared}{Q:Value->Shared->Prop}(hb:attributeBase e f env (eval e env)=eval e env)
  (h:wpAny (model prog w) A (eval e env) (fun o s₁=>wpAny (model prog w) A (getAttr o f true) Q E s₁) E s):wpAny (model prog w) A (eval (.Attribute e f pos) env) Q E s:=
 Attribute_any_ h (by rw[arm_eval_Attribute,hb])
end
def z9(K:Fg)(ta:TE)(f:Str):TE:=fun σ H Q=>ta σ H fun x H1=>∃a C dx fs v,x=.ref a/\H1 a=some (.ins C dx fs)/\Cls K C/\NoAttr K C f/\fs.lookup f=some v/\Q v H1
def zb4(K:Fg)(ta tv:TE)(f:Str):TS:=fun D σ H=>tv σ H fun y H1=>ta σ H1 fun x H2=>∃a C dx fs,x=.ref a/\H2 a=some (.ins C dx fs)/\Cls K C/\NoAttr K C f/\fs.length<1000 /\
 D.nx σ (upd H2 a (.ins C dx (zao f y fs)))
section
variable {X:Cx}{o e value:Expr}{f:Str}{pos pos' tpos:Pos}{ta tv:TE}
theorem zT(he:PE X e ta)(hb:attributeBase e f X.env (eval e X.env)=eval e X.env):PE X (.Attribute e f pos) (z9 X.K ta f):=by
 intro pins s σ H Q I h
 refine zlq hb (thn (he pins s σ H _ I h) fun u s1 zz=>?_)
 obtain⟨x,H1,I1,rx,a,C,dx,fs,v,ex,ea,c,n,l,q⟩:=zz
 subst ex
 obtain rfl:u=Value.ref a:=rx
 exact zhC I1 ea c n l fun u' s2 I2 ru=>⟨v,H1,I2,ru,q⟩
theorem zbv(ha:PE X o ta)(hv:PE X value tv)(hs:swapsWith value (some (.Attribute o f pos')) pos.line X.env=pure false):PS X (.Assign [.Attribute o f pos'] value pos) (zb4 X.K ta tv f):=by
 intro pins s σ H D I h
 refine plainObj_wpAny_Assign_Attribute (thn (hv pins s σ H _ I h) fun u s1 ⟨y,H1,I1,ry,q⟩=>thn (ha pins s1 σ H1 _ I1 q) fun ov s2 zz=>?_) hs
 obtain⟨x,H2,I2,rx,a,C,dx,fs,ex,ea,c,n,l,q2⟩:=zz
 subst ex
 obtain rfl:ov=Value.ref a:=rx
 exact zhU I2 ea c n l ry fun s3 I3=>⟨σ,_,I3,q2⟩
end
section
variable {X:Cx}{pins:List (Addr × Obj)}{σ:St}{H:Hp}{s:Shared}{A:Around}{E:Value->Shared->Prop}{Q:Value->Shared->Prop}{c:Value}{b:Bool}
inductive TyOf(K:Fg)(H:Hp):V->Value->Prop where
 | non:TyOf K H .non (.type "NoneType")
 | bl (x:Bool):TyOf K H (.bl x) (.type "bool")
 | int (i:Int):TyOf K H (.int i) (.type "int")
 | str (x:Str):TyOf K H (.str x) (.type "str")
 | flt (x:UInt64):TyOf K H (.flt x) (.type "float")
 | lst {a:Addr} {xs:List V} (e:H a=some (.lst xs)):TyOf K H (.ref a) (.type "list")
 | frz {a:Addr} {o:Obj} {xs:List V} (e:H a=some (.frz o (.lst xs))):TyOf K H (.ref a) (.type "list")
 | tup {a:Addr} {xs:List V} (e:H a=some (.tup xs)):TyOf K H (.ref a) (.type "tuple")
 | dK {a:Addr} {kvs:List (Key × V)} (e:H a=some (.dK kvs)):TyOf K H (.ref a) (.type "dict")
 | dT {a:Addr} {kvs:List (List Key × V)} (e:H a=some (.dT kvs)):TyOf K H (.ref a) (.type "dict")
 | ins {a C dx:Addr} {fs:List (Str × V)} (e:H a=some (.ins C dx fs)) (cl:Cls K C) (ha:PySem.W.findIn K (.ref C) "__class__" = some (some (.builtin "object.__class__")))
   (hn:PySem.W.specialIn K (.builtin "object.__class__") "__get__" = some (some (.builtin "getset_descriptor.__get__"))) (htk:PySem.W.takesIn K (.builtin "object.__class__")=some true)
   (hm:PySem.W.mroIn K C (.type "object")=some true):TyOf K H (.ref a) (.ref C)
theorem zjc{x:V}{u t:Value}(I:Inv X pins σ H s)(rx:RelV x u)(ty:TyOf X.K H x t)(e:PySem.W.kitOne X.K t c=some b)(h:∀tk,Q (.bool b) { s with toks:=tk }) :
  wpAny (model X.prog X.w) A (call (.builtin "isinstance") [u,c]) Q E s:=by
 cases ty with
 | non=>cases(show u=Value.none from rx);exact yI PySem.W.kitx_none I.kIn True.intro e (fun z=>nomatch z) h
 | bl y=>cases(show u=Value.bool y from rx);exact yI PySem.W.kitx_bool I.kIn True.intro e (fun z=>nomatch z) h
 | int i=>obtain⟨t,q⟩:=(show ∃t,u=Value.int i t from rx);cases q;exact yI PySem.W.kitx_int I.kIn True.intro e (fun z=>nomatch z) h
 | str y=>obtain⟨t,q⟩:=(show ∃t,u=Value.str y t from rx);cases q;exact yI PySem.W.kitx_str I.kIn True.intro e (fun z=>nomatch z) h
 | flt y=>obtain⟨t,q⟩:=(show ∃t,u=Value.float y t from rx);cases q;exact yI PySem.W.kitx_float I.kIn True.intro e (fun z=>nomatch z) h
 | @lst a xs ea=>
  cases(show u=Value.ref a from rx)
  obtain⟨_,_,n,_,h1⟩:=(show ObjOk X.prog X.w H s.heap a (.lst xs)from I.hok a _ ea)
  exact yI PySem.W.kitx_list I.kIn ⟨_,h1,rfl⟩ e (fun z=>nomatch z) h
 | @frz a ob xs ea=>
  cases(show u=Value.ref a from rx)
  obtain⟨_,_,_,n,_,h1⟩:=(show ObjOk X.prog X.w H s.heap a (.frz ob (.lst xs))from I.hok a _ ea)
  exact yI PySem.W.kitx_list I.kIn ⟨_,h1,rfl⟩ e (fun z=>nomatch z) h
 | @tup a xs ea=>
  cases(show u=Value.ref a from rx)
  obtain⟨_,_,_,p⟩:=(show ObjOk X.prog X.w H s.heap a (.tup xs)from I.hok a _ ea)
  obtain⟨o,h1,h2,_⟩:=p
  exact yI PySem.W.kitx_tuple I.kIn ⟨o,h1,h2⟩ e (fun z=>nomatch z) h
 | @dK a kvs ea=>
  cases(show u=Value.ref a from rx)
  obtain⟨_,_,vs,_,p⟩:=(show ObjOk X.prog X.w H s.heap a (.dK kvs)from I.hok a _ ea)
  obtain⟨o,es,ep,h1,h2,_⟩:=p
  exact yI PySem.W.kitx_dict I.kIn ⟨o,h1,h2.1⟩ e (fun z=>nomatch z) h
 | @dT a kvs ea=>
  cases(show u=Value.ref a from rx)
  obtain⟨_,_,xs,_,o,es,ep,h1,h2,_⟩:=(show ObjOk X.prog X.w H s.heap a (.dT kvs)from I.hok a _ ea)
  exact yI PySem.W.kitx_dict I.kIn ⟨o,h1,h2.1⟩ e (fun z=>nomatch z) h
 | @ins a C dx fs ea cl ha hn htk hm=>
  cases(show u=Value.ref a from rx)
  obtain⟨mA,O,_⟩:=zdX I.hok ea
  obtain⟨od,J,_⟩:=O.look
  exact yI (PySem.W.kitx_own (cl.get _) cl.hd ha hn htk hm) I.kIn J e (fun z=>nomatch z) h
end
set_option genInjectivity false in
set_option genSizeOf false in
structure Room(k:Nat)(A:Around):Prop where
 hd:A.handled=none
 dp:A.depth+3*k+5<recursionLimit
 un:A.units+16*k+200<cLine
theorem Room.mono{j k:Nat}{A:Around}(r:Room k A)(h:j<=k):Room j A:=⟨r.hd,by have:=r.dp;omega,by have:=r.un;omega⟩
theorem Room.deeper{k:Nat}{A:Around}(r:Room (k+1) A)(env:Env):Room k (A.deeper env):=
 ⟨r.hd,by have:=r.dp;show A.depth+1+3*k+5<_;omega,by have:=r.un;show A.units+3+16*k+200<_;omega⟩
theorem zid{A:Around}{C:Addr}{us:List Value}{kw:List (Str × Value)}:(A.under (.builtin "type.__call__" ⟨.ref C :: us,kw⟩)).depth=A.depth+1:=by
 first | rfl | simp[Around.under,Code.weight,Code.isCreation,Code.isGuard,Code.isCaller,Code.frames,Code.isFrame,guardIds]
theorem zhR{A:Around}{C:Addr}{us:List Value}{kw:List (Str × Value)}:(A.under (.builtin "type.__call__" ⟨.ref C :: us,kw⟩)).units=A.units+1:=by
 first | rfl | simp[Around.under,Code.cUnits,Code.frames,Code.isFrame]
theorem Room.make{k:Nat}{A:Around}(r:Room (k+1) A)(C:Addr)(us:List Value)(kw:List (Str × Value)):Room k (A.under (.builtin "type.__call__" ⟨.ref C :: us,kw⟩)):=
 ⟨r.hd,by have:=r.dp;rw[zid];omega,by have:=r.un;rw[zhR];omega⟩
theorem Room.depth{k:Nat}{A:Around}(r:Room k A):A.depth<recursionLimit:=by have:=r.dp;omega
theorem Room.units{k:Nat}{A:Around}(r:Room k A):A.units+64<cLine:=by have:=r.un;omega
abbrev zfl:TA:=fun _ H Q=>Q [] H
abbrev zh2(ta:TE)(tr:TA):TA:=fun σ H Q=>ta σ H fun x H1=>tr σ H1 fun xs H2=>Q (x :: xs) H2
section
variable {X:Cx}{e:Expr}{es:List Expr}{te:TE}{t:TA}{pos:Pos}
theorem zb:PA X [] zfl:=fun _ _ _ _ H Q I h=>Calls.spliced_nil ⟨[],H,I,.nil,h⟩
theorem za(ha:PE X e te)(hr:PA X es t)(hs:autoParam (starEach (e :: es) X.env=(false,eval e X.env) :: starEach es X.env) Internal.aut2._auto_1):PA X (e :: es) (zh2 te t):=by
 intro pos pins s σ H Q I h
 rw[hs]
 show wpAny _ _ (spliced ((false,eval e X.env) :: backTo pos (starEach es X.env))) _ _ s
 refine Calls.spliced_cons (thn (ha pins s σ H _ I h) fun u s1 zz=>?_)
 obtain⟨x,H1,I1,r1,q1⟩:=zz
 exact thn (hr pos pins s1 σ H1 _ I1 q1) fun us s2 ⟨xs,H2,I2,r2,q2⟩=>⟨x :: xs,H2,I2,.cons r1 r2,q2⟩
def zni(t:TA):TE:=fun σ H Q=>t σ H fun xs H1=>xs.length<=sizeLine/\∀p,H1 p=none->Q (.ref p) (upd H1 p (.tup xs))
def zm2(t:TA):TE:=fun σ H Q=>t σ H fun xs H1=>xs.length<=sizeLine/\∀p,H1 p=none->Q (.ref p) (upd H1 p (.lst xs))
theorem zad{x1}(h:PA X es t):PE X (.Tuple es x1 pos) (zni t):=by
 intro pins s σ H Q I hq
 refine wpAny_Tuple_spliced (thn (h pos pins s σ H _ I hq) fun us s1 ⟨xs,H1,I1,r,z,q⟩=>⟨by rw[<- r.length];exact z,?_⟩)
 have hf:H1 s1.heap.objs.size=none:=I1.hok.fresh (yg _)
 refine⟨.ref s1.heap.objs.size,upd H1 s1.heap.objs.size (.tup xs),I1.laid (t':=s1.toks) (fun b u e=>Heap.get?_push_of_some _ e) (yg _) ?_,rfl,q _ hf⟩
 exact⟨z,us,r,⟨_,Heap.get?_push_size _ rfl,rfl,_,rfl⟩⟩
theorem zax(h:PA X es t):PE X (.List es pos) (zm2 t):=by
 intro pins s σ H Q I hq
 refine wpAny_List_spliced (thn (h pos pins s σ H _ I hq) fun us s1 ⟨xs,H1,I1,r,z,q⟩=>⟨by rw[<- r.length];exact z,?_⟩)
 have hf:H1 s1.heap.objs.size=none:=I1.hok.fresh (yg _)
 refine⟨.ref s1.heap.objs.size,upd H1 s1.heap.objs.size (.lst xs),I1.laid (t':=s1.toks) (fun b u e=>Heap.get?_push_of_some _ e) (yg _) ?_,rfl,q _ hf⟩
 exact⟨z,us,0,r,Heap.get?_push_size _ rfl⟩
end
abbrev Sp:=List V->Hp->VK->XK->Prop
abbrev CXT:=List Env->Hp->Shared->XK->Value->Shared->Prop
set_option genInjectivity false in
set_option genSizeOf false in
structure Env0(P:Program)(w:World)(K:Fg)(mg:Str->Option Value)(base:Heap)(A:Around)(outer:List Env)(s:Shared)(H:Hp):Prop where
 frames:A.frames=some outer
 mod:Mod K mg base
 bs:∀b o,base.get? b=some o->s.heap.get? b=some o/\H b=none
 bsz:base.objs.size<=s.heap.objs.size
 funs:s.heap.FunFrames base outer
 frf:∀b∈frs outer,H b=none
 hok:HOk P w H s.heap
 bare:AllBare s.gens
def CE(outer:List Env)(P:Program)(w:World)(H:Hp)(s:Shared)(Q:VK)(u:Value)(s':Shared):Prop:=
 ∃v H',s'.os=s.os/\AllBare s'.gens/\Un (frs outer) [] H H' s.heap s'.heap/\HOk P w H' s'.heap/\RelV v u/\Q v H'
def CR(CX:CXT)(outer:List Env)(P:Program)(w:World)(H:Hp)(s:Shared)(Q:VK)(E:XK)(r:Result)(s':Shared):Prop:=
 match r with
 | .ok (.ret u)=>CE outer P w H s Q u s'
 | .ok _=>False
 | .error e=>CX outer H s E e s'
set_option genInjectivity false in
set_option genSizeOf false in
structure FnOk(P:Program)(w:World)(K:Fg)(mg:Str->Option Value)(base:Heap)(CX:CXT)(k:Nat)(f:Addr)(fd:FuncData)(ps:List Str)(sp:Sp):Prop where
 len:∀vs H Q E,sp vs H Q E->vs.length=ps.length
 run:∀(A:Around) (outer:List Env) (s:Shared) (H:Hp) (args:Args) (us:List Value) (vs:List V) (Q:VK) (E:XK),Room k A->Env0 P w K mg base A outer s H->BindsTo s fd args (ps.zip us)->Vals vs us->sp vs H Q E ->
  codeAny (model P w) A (.call (.ref f) args) (CR CX outer P w H s Q E) s
theorem Env0.make{P:Program}{w:World}{K:Fg}{mg:Str->Option Value}{base:Heap}{A:Around}{outer:List Env}{s:Shared}{H:Hp}(e:Env0 P w K mg base A outer s H)(C:Addr)(us:List Value)(kw:List (Str × Value)) :
  Env0 P w K mg base (A.under (.builtin "type.__call__" ⟨.ref C :: us,kw⟩)) outer s H:=⟨by first | exact e.frames | (simpa[Around.under,Code.envs,Code.isFrame,pushEnvs]using e.frames),e.mod,e.bs,e.bsz,e.funs,e.frf,e.hok,e.bare⟩
theorem Env0.in1{P:Program}{w:World}{K:Fg}{mg:Str->Option Value}{base:Heap}{A:Around}{outer:List Env}{s:Shared}{H:Hp}(e:Env0 P w K mg base A outer s H) :
  Env0 P w K mg base A.in1 outer s H:=⟨e.frames,e.mod,e.bs,e.bsz,e.funs,e.frf,e.hok,e.bare⟩
section
variable {X:Cx}{pins:List (Addr × Obj)}{σ:St}{H:Hp}{s s':Shared}
theorem Inv.env0(I:Inv X pins σ H s):Env0 X.prog X.w X.K X.mg X.base X.A X.stack s H:=
 ⟨I.ok.frames,I.ok.mod,I.bs,yb I.ok.bsz I.sz,I.stack,I.stkFree,I.hok,I.bare⟩
theorem Inv.after{Q:VK}{u:Value}(I:Inv X pins σ H s)(h:CE X.stack X.prog X.w H s Q u s'):EP X pins σ Q u s':=by
 obtain⟨v,H',os,bare,un,hok,r,q⟩:=h
 obtain⟨hh,g,d,t,os'⟩:=s'
 obtain rfl:os'=s.os:=os
 exact⟨v,H',I.call (h':=hh) (g':=g) (d':=d) (t':=t) (ch:=[]) un hok bare (fun b z=>absurd z (by simp)),r,q⟩
end
def zeN(sp:Sp)(dvs:List V)(E:XK)(t:TA):TE:=fun σ H Q=>t σ H fun vs H1=>sp (vs++dvs) H1 Q E
def zk9(C:Addr)(m:Str)(sp:Sp)(dvs:List V)(E:XK)(ta:TE)(t:TA):TE:=fun σ H Q=>ta σ H fun x H1=>∃a dx fs,x=.ref a/\H1 a=some (.ins C dx fs)/\fs.lookup m=none /\
 t σ H1 fun vs H2=>sp (x :: (vs++dvs)) H2 Q E
def zk0(C:Addr)(sp:Sp)(dvs:List V)(E:XK)(t:TA):TE:=fun σ H Q=>t σ H fun vs H1=>∀x dx,H1 x=none->H1 dx=none->dx≠x ->
 sp (.ref x :: (vs++dvs)) (upd (upd H1 dx (.own x)) x (.ins C dx [])) (fun v H2=>v=.non/\Q (.ref x) H2) E
def Binds(K:Fg)(fd:FuncData)(ps:List Str)(ds:List Value):Prop:=
 ∀(s:Shared) (us:List Value),K.In s.heap->(us++ds).length=ps.length->BindsTo s fd ⟨us,[]⟩ (ps.zip (us++ds))
theorem Binds.all{K:Fg}{fd:FuncData}{ps:List Str}(h:∀us:List Value,us.length=ps.length->bindArgs fd ⟨us,[]⟩=pure (ps.zip us)):Binds K fd ps []:=fun s us _ hl=>by
 rw[yQ]at hl ⊢
 exact .of_eq (h us hl)
def zcX(CX:CXT)(X:Cx)(E:XK):Prop:=∀(pins:List (Addr × Obj)) (σ:St) (H:Hp) (s:Shared) (e:Value) (s':Shared),Inv X pins σ H s->CX X.stack H s E e s'->X.xe e s'
section
variable {X:Cx}{CX:CXT}{k:Nat}{f C:Addr}{fd:FuncData}{ps:List Str}{sp:Sp}{dvs:List V}{ds:List Value}{E:XK}{x m:Str}{p pos apos:Pos}{e o:Expr}{es:List Expr}{ta:TE}{t:TA}
theorem zjf{pins:List (Addr × Obj)}{σ:St}{H:Hp}{s:Shared}{Q:VK}{us:List Value}{vs:List V}(F:FnOk X.prog X.w X.K X.mg X.base CX k f fd ps sp)(hr:Room k X.A)(hb:Binds X.K fd ps ds)(hd:Vals dvs ds)(hx:zcX CX X E)
  (I:Inv X pins σ H s) (r:Vals vs us) (h:sp (vs++dvs) H Q E):wpAny (model X.prog X.w) X.A (call (.ref f) us) (EP X pins σ Q) X.xe s:=by
 have r2:Vals (vs++dvs) (us++ds):=r.append hd
 have hl:(us++ds).length=ps.length:=by rw[<- r2.length];exact F.len _ _ _ _ h
 refine wpAny_call (codeAny_mono (F.run X.A X.stack s H ⟨us,[]⟩ (us++ds) (vs++dvs) Q E hr I.env0 (hb s us I.kIn hl) r2 h) fun r s' hq=>?_)
 cases r with
 | error e=>exact hx pins σ H s e s' I hq
 | ok fl=>
  cases fl with
  | ret u=>exact I.after hq
  | next=>exact False.elim hq
  | brk=>exact False.elim hq
  | cont=>exact False.elim hq
theorem zp(F:FnOk X.prog X.w X.K X.mg X.base CX k f fd ps sp)(hr:Room k X.A)(hg:Gl X x)(hm:X.mg x=some (.ref f))(hk:PySem.W.keepIn X.K (.ref f)=true)(hb:Binds X.K fd ps ds)(hd:Vals dvs ds)(hx:zcX CX X E)
  (ha:PA X (e :: es) t) (hdb:autoParam ((x == ("__debug__" : Str))=false) Internal.aut1._auto_1) (he:autoParam (starEach (e :: es) X.env=(false,eval e X.env) :: starEach es X.env) Internal.aut2._auto_1) (hpl:autoParam ((backTo pos (starEach es X.env)).any (·.1)=false) Internal.aut2._auto_1) :
  PE X (.Call (.Name x p) (e :: es) [] pos) (zeN sp dvs E t):=by
 intro pins s σ H Q I h
 refine wpAny_Call_Name_kw (zcx I hg hm ?_ hdb)
 refine yae (h₀:=X.base) I.ok.mod.kin hk (thn (ha pos pins s σ H _ I h) fun us s1 ⟨vs,H1,I1,r,q⟩=>⟨I1.kIn,?_⟩) he hpl
 exact zjf F hr hb hd hx I1 r q
theorem zU{pl:Sem Bool}(he:PE X o ta)(c:Cls X.K C)(hm:Meth X.K C m f)(F:FnOk X.prog X.w X.K X.mg X.base CX k f fd ps sp)(hr:Room k X.A)(hb:Binds X.K fd ps ds)(hd:Vals dvs ds)(hx:zcX CX X E)(ha:PA X (e :: es) t)
  (hst:autoParam (starEach (e :: es) X.env=(false,eval e X.env) :: starEach es X.env) Internal.aut2._auto_1) (hpl:autoParam ((backTo pos (starEach es X.env)).any (·.1)=false) Internal.aut2._auto_1)
  (ht:autoParam (eval (.Call (.Attribute o m apos) (e :: es) [] pos) X.env=(do
   let ov <- eval o X.env
   standAt apos.atName
   let (f,first) <- holding [ov] (getMethod ov m pl)
   callWith pos f first (backTo pos (starEach (e :: es) X.env)) (backToKw pos (keywordEach [] X.env)))) Internal.aut2._auto_1) :
  PE X (.Call (.Attribute o m apos) (e :: es) [] pos) (zk9 C m sp dvs E ta t):=by
 intro pins s σ H Q I h
 refine PySem.W.methodCall_KW (pl:=pl) (thn (he pins s σ H _ I h) fun u s1 zz=>?_) ht
 obtain⟨x,H1,I1,rx,a,dx,fs,ex,ea,l,q⟩:=zz
 subst ex
 obtain rfl:u=Value.ref a:=rx
 refine zie I1 ea c hm l ?_
 refine yae (first:=[.ref a]) (h₀:=X.base) I.ok.mod.kin hm.kp (thn (ha pos pins s1 σ H1 _ I1 q) fun us s2 ⟨vs,H2,I2,r,q2⟩=>⟨I2.kIn,?_⟩) hst hpl
 exact zjf (us:=.ref a :: us) (vs:=.ref a :: vs) F hr hb hd hx I2 (.cons rfl r) q2
set_option genInjectivity false in
set_option genSizeOf false in
structure Mk(K:Fg)(C f:Addr):Prop where
 makes:PySem.W.makesIn K C=true
 init:PySem.W.findIn K (.ref C) "__init__" = some (some (.ref f))
 fn:PySem.W.isFn K (.ref f)=true
 kp:PySem.W.keepIn K (.ref C)=true
theorem zkC{pins:List (Addr × Obj)}{σ:St}{H:Hp}{s:Shared}{Q:VK}{us:List Value}{vs:List V}(M:Mk X.K C f)(F:FnOk X.prog X.w X.K X.mg X.base CX k f fd ps sp)(hr:Room (k+1) X.A)(hb:Binds X.K fd ps ds)(hd:Vals dvs ds)
  (hx:zcX CX X E) (I:Inv X pins σ H s) (r:Vals vs us)
  (h:∀x dx,H x=none->H dx=none->dx≠x->sp (.ref x :: (vs++dvs)) (upd (upd H dx (.own x)) x (.ins C dx [])) (fun v H2=>v=.non/\Q (.ref x) H2) E) :
  wpAny (model X.prog X.w) X.A (call (.ref C) us) (EP X pins σ Q) X.xe s:=by
 have hq:=h (s.heap.objs.size+1) s.heap.objs.size (I.hok.fresh (Nat.le_succ _)) (I.hok.fresh (yg _)) (yn (y3 _))
 have I2:=Inv.made (C:=C) I
 have r2:Vals (V.ref (s.heap.objs.size+1) :: (vs++dvs)) (Value.ref (s.heap.objs.size+1) :: (us++ds)):=.cons rfl (r.append hd)
 have hl:(Value.ref (s.heap.objs.size+1) :: us++ds).length=ps.length:=by
  have e:=r2.length
  rw[F.len _ _ _ _ hq]at e
  exact e.symm
 refine wpAny_call (zjZ (f:=f) I.kIn M.makes M.init (beq_iff_eq.mp M.fn) (codeAny_mono (F.run _ X.stack _ _ ⟨Value.ref (s.heap.objs.size+1) :: us,[]⟩ (Value.ref (s.heap.objs.size+1) :: (us++ds)) _ _ E (hr.make C us [])
  (I2.env0.make C us []) (hb _ (Value.ref (s.heap.objs.size+1) :: us) I2.kIn hl) r2 hq) fun r s' hq'=>?_))
 cases r with
 | error e=>exact hx pins σ _ _ e s' I2 hq'
 | ok fl=>
  cases fl with
  | ret u=>
   obtain⟨v,H',I3,rv,ev,q3⟩:=I2.after hq'
   subst ev
   exact⟨rv,⟨V.ref (s.heap.objs.size+1),H',I3,rfl,q3⟩⟩
  | next=>exact False.elim hq'
  | brk=>exact False.elim hq'
  | cont=>exact False.elim hq'
theorem zg6(M:Mk X.K C f)(F:FnOk X.prog X.w X.K X.mg X.base CX k f fd ps sp)(hr:Room (k+1) X.A)(hg:Gl X x)(hm:X.mg x=some (.ref C))(hb:Binds X.K fd ps ds)(hd:Vals dvs ds)(hx:zcX CX X E)
  (ha:PA X (e :: es) t) (hdb:autoParam ((x == ("__debug__" : Str))=false) Internal.aut1._auto_1) (he:autoParam (starEach (e :: es) X.env=(false,eval e X.env) :: starEach es X.env) Internal.aut2._auto_1) (hpl:autoParam ((backTo pos (starEach es X.env)).any (·.1)=false) Internal.aut2._auto_1) :
  PE X (.Call (.Name x p) (e :: es) [] pos) (zk0 C sp dvs E t):=by
 intro pins s σ H Q I h
 refine wpAny_Call_Name_kw (zcx I hg hm ?_ hdb)
 refine yae (h₀:=X.base) I.ok.mod.kin M.kp (thn (ha pos pins s σ H _ I h) fun us s1 ⟨vs,H1,I1,r,q⟩=>⟨I1.kIn,?_⟩) he hpl
 exact zkC M F hr hb hd hx I1 r q
end
def PK(X:Cx)(kws:List Keyword)(t:TA):Prop:=
 ∀(pos:Pos) (pins:List (Addr × Obj)) (s:Shared) (σ:St) (H:Hp) (Q:List V->Hp->Prop),Inv X pins σ H s->t σ H Q->wpAny (model X.prog X.w) X.A (evalAll ((backToKw pos (keywordEach kws X.env)).map (·.2))) (AP X pins σ Q) X.xe s
section
variable {X:Cx}{CX:CXT}{k:Nat}{f C:Addr}{fd:FuncData}{ps ks:List Str}{sp:Sp}{E:XK}{x m:Str}{p pos apos kpos:Pos}{e o:Expr}{es:List Expr}{kws:List Keyword}{te ta:TE}{t tk:TA}{nm:Option Str}
theorem zji:PK X [] zfl:=fun _ _ _ _ H Q I h=>wpAny_evalAll_nil ⟨[],H,I,.nil,h⟩
theorem zhi(ha:PE X e te)(hr:PK X kws t):PK X (⟨nm,e,kpos⟩ :: kws) (zh2 te t):=by
 intro pos pins s σ H Q I h
 show wpAny _ _ (evalAll ((do let v <- eval e X.env;standAt pos;pure v) :: (backToKw pos (keywordEach kws X.env)).map (·.2))) _ _ s
 refine wpAny_evalAll_cons (wpAny_bind (thn (ha pins s σ H _ I h) fun u s1 ⟨x,H1,I1,r1,q1⟩=>wpAny_bind (wpAny_standAt (wpAny_pure ?_))))
 exact thn (hr pos pins s1 σ H1 _ I1 q1) fun us s2 ⟨xs,H2,I2,r2,q2⟩=>⟨x :: xs,H2,I2,.cons r1 r2,q2⟩
set_option genInjectivity false in
set_option genSizeOf false in
structure KBinds(K:Fg)(fd:FuncData)(ps ks:List Str)(g:List Value->List Value->List Value)(gV:List V->List V->List V):Prop where
 to:∀(s:Shared) (us ws:List Value),K.In s.heap->(g us ws).length=ps.length->BindsTo s fd ⟨us,ks.zip ws⟩ (ps.zip (g us ws))
 rel:∀{vs:List V} {us:List Value} {zs:List V} {ws:List Value},Vals vs us->Vals zs ws->Vals (gV vs zs) (g us ws)
variable {g:List Value->List Value->List Value}{gV:List V->List V->List V}
end
set_option genInjectivity false in
set_option genSizeOf false in
structure FnScope(N P:List Str)(sc:Scope):Prop where
 kind:sc.kind=.function
 co:sc.isCoroutine=false
 gen:sc.isGenerator=false
 nd:N.Nodup
 pre:N.take P.length=P
 par:∀x∈P,sc.names.lookup x=some .local\/sc.names.lookup x=some .cell
 nofree:∀y∈sc.names,y.2≠.free
theorem zft{kindOf:Str->Option NameKind}{x:Str}:∀{binds:List (Str × Value)} {m:Str->Option Value},(∀v,(x,v)∉binds)->bindL kindOf binds m x=m x
 | [],_,_=>rfl
 | (n,v) :: r,m,h=>by
  unfold bindL
  rw[zft fun w hw=>h w (yE _ hw)]
  split
  ·have:x≠n:=by rintro rfl;exact h v yV
   simp[this]
  ·rfl
theorem zfx{kindOf:Str->Option NameKind}{x:Str}:∀{binds:List (Str × Value)} {m:Str->Option Value},(∀v,(x,v)∉binds)->bindC kindOf binds m x=m x
 | [],_,_=>rfl
 | (n,v) :: r,m,h=>by
  unfold bindC
  rw[zfx fun w hw=>h w (yE _ hw)]
  split
  ·rfl
  ·have:x≠n:=by rintro rfl;exact h v yV
   simp[this]
theorem zfw{kindOf:Str->Option NameKind}{x:Str}{v:Value}:∀{P:List Str} {vs:List Value} {i:Nat} {m:Str->Option Value},P.Nodup->P[i]?=some x->vs[i]?=some v->kindOf x=some .local ->
  bindL kindOf (P.zip vs) m x=some v
 | [],_,_,_,_,h,_,_=>by simp at h
 | _ :: _,[],_,_,_,_,h,_=>by simp at h
 | p :: P,w :: vs,0,m,nd,h1,h2,hk=>by
  simp at h1 h2;subst h1;subst h2
  show bindL kindOf ((p,w) :: P.zip vs) m p=_
  unfold bindL
  rw[zft fun v hv=>(yJ.mp nd).1 (yaA hv).1,if_pos hk]
  simp
 | p :: P,w :: vs,i+1,m,nd,h1,h2,hk=>by
  show bindL kindOf ((p,w) :: P.zip vs) m x=_
  unfold bindL
  exact zfw (i:=i) (yJ.mp nd).2 (by simpa using h1) (by simpa using h2) hk
theorem zfE{kindOf:Str->Option NameKind}{x:Str}{v:Value}:∀{P:List Str} {vs:List Value} {i:Nat} {m:Str->Option Value},P.Nodup->P[i]?=some x->vs[i]?=some v->kindOf x≠some .local ->
  bindC kindOf (P.zip vs) m x=some v
 | [],_,_,_,_,h,_,_=>by simp at h
 | _ :: _,[],_,_,_,_,h,_=>by simp at h
 | p :: P,w :: vs,0,m,nd,h1,h2,hk=>by
  simp at h1 h2;subst h1;subst h2
  show bindC kindOf ((p,w) :: P.zip vs) m p=_
  unfold bindC
  rw[zfx fun v hv=>(yJ.mp nd).1 (yaA hv).1,if_neg hk]
  simp
 | p :: P,w :: vs,i+1,m,nd,h1,h2,hk=>by
  show bindC kindOf ((p,w) :: P.zip vs) m x=_
  unfold bindC
  exact zfE (i:=i) (yJ.mp nd).2 (by simpa using h1) (by simpa using h2) hk
def start(N:List Str)(vs:List V):St:=vs.map some++List.replicate (N.length-vs.length) none
def zaJ(CX:CXT)(P:Program)(w:World)(K:Fg)(mg:Str->Option Value)(base:Heap)(N:List Str)(qual:Str)(scope:Scope)(f:Addr)(cd:Value)(A:Around)(outer:List Env)(s:Shared)(H:Hp)(E:XK):Cx where
 prog:=P
 w:=w
 K:=K
 mg:=mg
 base:=base
 A:=A.deeper (envOfC qual scope s.heap.objs.size f cd)
 N:=N
 s₀:=s
 H₀:=H
 env:=envOfC qual scope s.heap.objs.size f cd
 outer:=outer
 stack:=envOfC qual scope s.heap.objs.size f cd :: outer
 ex:=[]
 calm:=true
 fn:=fun _=>true
 pn:=[]
 xe:=fun e s'=>wpAny (model P w) (A.deeper (envOfC qual scope s.heap.objs.size f cd)) (leaving (envOfC qual scope s.heap.objs.size f cd) e) (fun _ s''=>CX outer H s E e s'') (fun e' s''=>CX outer H s E e' s'') s'
theorem zdm{sc:Scope}{n:Nat}{x:Str}(h:sc.names.lookup x=some .cell):∃c,(cellsFrom n sc.names []).lookup x=some c:=by
 have q:=yau sc.names n [] (.inl h)
 exact Option.isSome_iff_exists.mp q
theorem zfC{CX:CXT}{P:Program}{w:World}{K:Fg}{mg:Str->Option Value}{base:Heap}{N ps:List Str}{qual:Str}{scope:Scope}{f:Addr}{cd:Value}{A:Around}{outer:List Env}{s s1:Shared}{H:Hp}{E:XK}{us:List Value}{vs:List V}
  (S:FnScope N ps scope) (hd:A.handled=none) (e0:Env0 P w K mg base A outer s H) (hl:vs.length=ps.length) (r:Vals vs us)
  (x:InCallC s s.heap.objs.size (bindL (envOfC qual scope s.heap.objs.size f cd).kindOf (ps.zip us) fun _=>none) (cellsFrom (s.heap.objs.size+1) scope.names []) (bindC (envOfC qual scope s.heap.objs.size f cd).kindOf (ps.zip us) fun _=>none) s1) :
  Inv (zaJ CX P w K mg base N qual scope f cd A outer s H E) [] (start N vs) H s1:=by
 have hpl:ps.length<=N.length:=by have:=congrArg List.length S.pre;rw[yU]at this;omega
 obtain⟨h1,tk,rfl,hk⟩:=x.done
 have noA:∀b:Addr,b∉(zaJ CX P w K mg base N qual scope f cd A outer s H E).ex:=fun b z=>absurd (show b∈([]:List Addr)from z) (by simp)
 refine⟨⟨e0.mod,S.kind,rfl,rfl,yg _,fun y z c h1 h2=>?_,fun y hy=>?_,fun y c _ h=>?_,fun _=>hd,Around.frames_deeper e0.frames,.inr ⟨rfl,rfl⟩,fun b z=>absurd z (noA b),e0.bs,e0.bsz,fun b _ _=>noA b,fun b z=>absurd z (noA b),e0.funs,e0.frf⟩,
  rfl,e0.bare,Un.kept hk,⟨_,x.toInCall.ns,fun i y v h1 h2 h3=>?_⟩,fun y c h=>⟨_,x.cell y c h⟩,e0.hok.fresh (yg _),fun y c h=>?_,fun p hp=>absurd (show p∈([]:List (Addr × Obj))from hp) (by simp),e0.hok.kept hk,?_⟩
 ·exact name_of_addr x.apart (yab h1) (yab h2)
 ·have hy:scope.names.lookup y=some .cell\/scope.names.lookup y=some .free:=hy
  rcases hy with hy | hy
  ·exact zdm hy
  ·exact absurd rfl (S.nofree _ (yab hy))
 ·exact y9 (x.above y c (yab h))
 ·have hi:i<vs.length:=by
   unfold start at h2
   by_cases hi:i<vs.length
   ·exact hi
   ·rw[List.getElem?_append_right (by simpa using hi)]at h2
    rw[yad]at h2
    split at h2<;>cases h2
  have ha:vs[i]?=some v:=by
   unfold start at h2
   rw[List.getElem?_append_left (by simpa using hi),yh]at h2
   cases e:vs[i]? with
   | none=>rw[e]at h2;cases h2
   | some a=>rw[e]at h2;cases h2;rfl
  obtain⟨u,hu,rv⟩:=r.get ha
  have hp:ps[i]?=some y:=by
   rw[<- S.pre,List.getElem?_take_of_lt (by omega)];exact h1
  have ndP:ps.Nodup:=by rw[<- S.pre];exact S.nd.sublist (List.take_sublist _ _)
  refine⟨u,rv,?_⟩
  rcases S.par y (yq hp)with k | k
  ·exact .inl ⟨k,zfw ndP hp hu k⟩
  ·obtain⟨c,e⟩:=zdm (n:=s.heap.objs.size+1) k
   refine .inr ⟨.inl k,c,e,?_⟩
   have q:=x.cell y c e
   rw[zfE ndP hp hu (by show scope.names.lookup y≠_;rw[k];decide)]at q
   exact q
 ·exact e0.hok.fresh (y9 (x.above y c (yab h)))
 ·unfold start
  show _=N.length
  rw[yl,ya,List.length_replicate]
  omega
theorem zia{CX:CXT}{P:Program}{w:World}{K:Fg}{mg:Str->Option Value}{base:Heap}{k:Nat}{f:Addr}{name qual:Str}{params:Arguments}{body:List Stmt}{scope:Scope}{dV kV doc pm cdv ct oc:Value}{an od:Option Addr}
  {osl:Array (Option Value)} {N ps:List Str} {sp:Sp} (lk:K.lookup f=some ⟨oc,od,.func (PySem.W.fnOf name qual params body scope dV kV doc pm an cdv ct),osl⟩) (hcd:PySem.W.codeIn K cdv qual=true) (S:FnScope N ps scope)
  (len:∀vs H Q E,sp vs H Q E->vs.length=ps.length)
  (hbody:∀(A:Around) (outer:List Env) (s:Shared) (H:Hp) (vs:List V) (Q:VK) (E:XK),Room k (A.deeper (envOfC qual scope s.heap.objs.size f cdv))->sp vs H Q E ->
   ∃t,PSs (zaJ CX P w K mg base N qual scope f cdv A outer s H E) body t/\t { nx:=fun _ H'=>Q .non H',rt:=Q } (start N vs) H) :
  FnOk P w K mg base CX (k+1) f (PySem.W.fnOf name qual params body scope dV kV doc pm an cdv ct) ps sp:=by
 refine⟨len,fun A outer s H args us vs Q E hr e0 hb r hsp=>?_⟩
 have hl:=len _ _ _ _ hsp
 have KX:K.In s.heap:=e0.mod.kin.keeps fun b o e=>(e0.bs b o e).1
 have lim:s.heap.NoLimit:=e0.mod.nolimit.keeps fun b o e=>(e0.bs b o e).1
 have hkind:∀y∈ps.zip us,scope.names.lookup y.1=some .local\/(scope.names.lookup y.1=some .cell/\((cellsFrom (s.heap.objs.size+1) scope.names []).lookup y.1).isSome=true):=fun⟨n,v⟩ hy=>by
  rcases S.par n (yaA hy).1 with q | q
  ·exact .inl q
  ·exact .inr ⟨q,yau _ _ _ (.inl q)⟩
 refine codeAny_call_function hr.depth (KX _ _ lk) rfl S.co S.gen rfl (PySem.W.codeRec_of KX hcd) (hb _ _ _ _ ?_)
 refine wpAny_newFunctionEnv_cells S.kind hkind fun env he s1 x=>?_
 subst he
 refine⟨lim.keeps x.toInCall.keep,codeAny_func ?_⟩
 obtain⟨t,ht,hq⟩:=hbody A outer s H vs Q E (hr.deeper _) hsp
 have I:Inv (zaJ CX P w K mg base N qual scope f cdv A outer s H E) [] (start N vs) H s1:=zfC S hr.hd e0 hl r x
 refine wpAny_mono (ht [] s1 (start N vs) H _ I hq) (fun fl s' hs=>?_) fun e s' hs=>hs
 have fin:∀{σ':St} {H':Hp} {v:V} {u:Value},Inv (zaJ CX P w K mg base N qual scope f cdv A outer s H E) [] σ' H' s'->RelV v u->Q v H'->CE outer P w H s Q u s':=
  fun {σ' H' v u} J rv q=>⟨v,H',J.os,J.bare,J.base,J.hok,rv,q⟩
 cases fl with
 | ret u=>
  obtain⟨v,σ',H',J,rv,q⟩:=hs
  exact fin J rv q
 | next=>
  obtain⟨σ',H',J,q⟩:=hs
  exact fin (v:=V.non) (u:=Value.none) J rfl q
 | brk=>
  obtain⟨_,_,_,q⟩:=hs
  exact False.elim q
 | cont=>
  obtain⟨_,_,_,q⟩:=hs
  exact False.elim q
section
variable {X:Cx}{x:Str}{p pos:Pos}{e:Expr}{es:List Expr}{t:TA}{id T:String}{r:List V->Hp->VK->Prop}
abbrev tCB(r:List V->Hp->VK->Prop)(t:TA):TE:=fun σ H Q=>t σ H fun vs H1=>r vs H1 Q
theorem zt(hc:CallR X (.builtin id) r)(hg:Gl X x)(hm:X.mg x=none)(hv:bootBuiltins x=some (.builtin id))(ha:PA X (e :: es) t)(hn:autoParam (x ≠ "__name__") Internal.aut1._auto_1)(hdb:autoParam ((x == ("__debug__" : Str))=false) Internal.aut1._auto_1)
  (he:autoParam (starEach (e :: es) X.env=(false,eval e X.env) :: starEach es X.env) Internal.aut2._auto_1) (hpl:autoParam ((backTo pos (starEach es X.env)).any (·.1)=false) Internal.aut2._auto_1):PE X (.Call (.Name x p) (e :: es) [] pos) (tCB r t):=by
 intro pins s σ H Q I h
 refine wpAny_Call_Name_kw (zcI I hg hm hv ?_ hn hdb)
 exact PyProof.Rows.callWith_builtin1 (thn (ha pos pins s σ H _ I h) fun us s1 ⟨vs,H1,I1,r1,q1⟩=>hc pins s1 σ H1 vs us Q I1 r1 q1) he hpl
theorem zcj(hc:CallR X (.type T) r)(hg:Gl X x)(hm:X.mg x=none)(hv:bootBuiltins x=some (.type T))(ha:PA X (e :: es) t)(hn:autoParam (x ≠ "__name__") Internal.aut1._auto_1)(hdb:autoParam ((x == ("__debug__" : Str))=false) Internal.aut1._auto_1)
  (he:autoParam (starEach (e :: es) X.env=(false,eval e X.env) :: starEach es X.env) Internal.aut2._auto_1) (hpl:autoParam ((backTo pos (starEach es X.env)).any (·.1)=false) Internal.aut2._auto_1):PE X (.Call (.Name x p) (e :: es) [] pos) (tCB r t):=by
 intro pins s σ H Q I h
 refine wpAny_Call_Name_kw (zcI I hg hm hv ?_ hn hdb)
 exact y4 (thn (ha pos pins s σ H _ I h) fun us s1 ⟨vs,H1,I1,r1,q1⟩=>hc pins s1 σ H1 vs us Q I1 r1 q1) he hpl
end
end Internal
namespace HT
open PySem PyProof.Rows
section
open PySem.SeqAt
open PySem.AutoSeq1 (wpAny_loadPart')
open PySem.MeetsSeq PySem.MeetsSeq2 PySem.MeetsSeq3
end
section
variable {prog:Program}{w:World}{A:Around}{E:Value->Shared->Prop}{s:Shared}
theorem cat_tup{t b:Addr}{vs ws:List Value}{Q:Value->Shared->Prop}(ht:IsTup s.heap t vs.toArray)(hb:IsTup s.heap b ws.toArray)(hv:vs≠[])
  (h1:ws=[]->Q (.ref t) s) (h2:ws≠[]->Q (.ref s.heap.objs.size) { s with heap:=s.heap.push { cls:=.type "tuple",data:=.seq (vs++ws).toArray } })
  (hsz:vs.length+ws.length<=sizeLine):wpAny (model prog w) A (binaryOp .Add (.ref t) (.ref b)) Q E s:=by
 obtain⟨⟨cls,dd,data,sl⟩,ho,hc,n,hd⟩:=id ht
 obtain⟨⟨cls2,dd2,data2,sl2⟩,ho2,hc2,n2,hd2⟩:=id hb
 simp only at hc hd hc2 hd2
 subst hc hd hc2 hd2
 have e:vs.toArray++ws.toArray=(vs++ws).toArray:=by simp
 by_cases hw:ws=[]
 ·exact concat_meets ⟨_,ho,rfl⟩ ⟨_,ho2,rfl⟩ noFill_tuple_add seq_tuple_add PySem.F.slot_tuple_add PySem.F.entry_tuple_add (PySem.F.args_tuple_add_2 _ _)
   (tuple_addW1 t b vs.toArray ws.toArray n n2 dd dd2 sl sl2 (by simpa using hv) (by simp[hw])) ⟨ho,ho2,h1 hw⟩
 ·refine concat_meets ⟨_,ho,rfl⟩ ⟨_,ho2,rfl⟩ noFill_tuple_add seq_tuple_add PySem.F.slot_tuple_add PySem.F.entry_tuple_add (PySem.F.args_tuple_add_2 _ _)
   (tuple_addW2 t b vs.toArray ws.toArray n n2 dd dd2 sl sl2 (by simpa using hv) (by simpa using hw) (by rw[yj,yj];exact hsz)) ⟨ho,ho2,?_⟩
  rw[e]
  exact h2 hw
def sIx(n d:Nat):Option Int->Nat
 | none=>d
 | some v=>if v<0 then(v+(n:Int)).toNat else min v.toNat n
theorem sIx_none(n d:Nat):sIx n d none=d:=rfl
theorem sIx_nat(n d k:Nat):sIx n d (some (k:Int))=min k n:=by
 show(if(k:Int)<0 then((k:Int)+(n:Int)).toNat else min (k:Int).toNat n)=min k n
 rw[if_neg (by omega),yy]
theorem zm9(n d:Nat)(hd:d<=n)(o:Option Int):sIx n d o<=n:=by
 cases o with
 | none=>exact hd
 | some v=>
  show(if v<0 then(v+(n:Int)).toNat else min v.toNat n)<=n
  by_cases hv:v<0
  ·rw[if_pos hv];omega
  ·rw[if_neg hv];exact Nat.min_le_right _ _
theorem zhu(v:Int)(n d:Nat):(if v<0 then max (v+(n:Int)) 0 else min v (n:Int))=((sIx n d (some v):Nat):Int):=by
 show(if v<0 then max (v+(n:Int)) 0 else min v (n:Int))=(((if v<0 then(v+(n:Int)).toNat else min v.toNat n):Nat):Int)
 by_cases hv:v<0
 ·simp only[if_pos hv];omega
 ·simp only[if_neg hv];omega
theorem zib(lo hi:Option Int)(n:Nat):Builtin.Slice.sliceAdjust lo hi 1 (n:Int)=(((sIx n 0 lo:Nat):Int),((sIx n n hi:Nat):Int)):=by
 have h1:¬((1:Int)<0):=by omega
 unfold Builtin.Slice.sliceAdjust
 simp only[h1,if_false]
 refine Prod.ext ?_ ?_
 ·cases lo with
  | none=>rfl
  | some v=>exact zhu v n 0
 ·cases hi with
  | none=>rfl
  | some v=>exact zhu v n n
theorem zhB(i j:Nat):Builtin.Slice.slicePlaces (i:Int) (j:Int) 1=j-i:=by
 unfold Builtin.Slice.slicePlaces
 have h1:(1:Int)>0:=by omega
 simp only[h1,if_true,Int.ediv_one]
 split<;>omega
theorem zeW{v:Value}{o:Option Int}{Q:Option Int->Shared->Prop}(p:IsPart v o)(h:Q o s):wpAny (model prog w) A (Builtin.Slice.slicePartIndex v) Q E s:=by
 cases p with
 | none=>exact slicePart_none h
 | int i t=>exact slicePart_int h
theorem zep{sl:Addr}{vl vu:Value}{lo hi:Option Int}{n:Nat}{Q:Int × Int × Nat->Shared->Prop}(hs:s.heap.IsSliceOf sl vl vu .none)(pl:IsPart vl lo)(pu:IsPart vu hi)
  (h:Q (((sIx n 0 lo:Nat):Int),1,sIx n n hi-sIx n 0 lo) s):wpAny (model prog w) A (Builtin.Slice.sliceApplied (.ref sl) (pure (n:Int))) Q E s:=by
 obtain⟨os,hos,hcs,hds⟩:=id hs
 unfold Builtin.Slice.sliceApplied Builtin.Slice.sliceFields
 refine wpAny_bind (wpAny_bind (wpAny_field hos hds (x:=vl) rfl (wpAny_bind (wpAny_field hos hds (x:=vu) rfl (wpAny_bind (wpAny_field hos hds (x:=.none) rfl (wpAny_pure ?_)))))))
 refine wpAny_bind (slicePart_none ?_)
 show wpAny _ _ (if((1:Int) == 0)=true then _ else _) _ _ s
 rw[if_neg (by decide)]
 refine wpAny_bind (zeW pl (wpAny_bind (zeW pu (wpAny_bind (wpAny_pure ?_)))))
 show wpAny _ _ (match Builtin.Slice.sliceAdjust lo hi 1 (n:Int)with | (lo,hi)=>pure (lo,(1:Int),Builtin.Slice.slicePlaces lo hi 1)) _ _ s
 rw[zib lo hi n]
 show wpAny _ _ (pure (((sIx n 0 lo:Nat):Int),(1:Int),Builtin.Slice.slicePlaces ((sIx n 0 lo:Nat):Int) ((sIx n n hi:Nat):Int) 1)) _ _ s
 rw[zhB]
 exact wpAny_pure h
theorem zkA(xs:Array Value)(i k:Nat):((List.range k).filterMap fun(m:Nat)=>xs[((i:Int)+(m:Int)*1).toNat]?).toArray=((xs.toList.drop i).take k).toArray:=by
 have e:(fun(m:Nat)=>xs[((i:Int)+(m:Int)*1).toNat]?)=fun m=>xs[i+m]?:=by
  funext m
  have:((i:Int)+(m:Int)*1).toNat=i+m:=by omega
  rw[this]
 rw[e]
 have:=pick_run xs i k
 rw[List.filterMap_map]at this
 have e2:((fun x=>xs[x]?)∘fun x=>i+x)=fun m=>xs[i+m]?:=rfl
 rw[e2]at this
 rw[this]
theorem getItem_tuple_cut{t sl:Addr}{items:Array Value}{vl vu:Value}{lo hi:Option Int}{Q:Value->Shared->Prop}(ht:IsTup s.heap t items)(hs:s.heap.IsSliceOf sl vl vu .none)(pl:IsPart vl lo)(pu:IsPart vu hi)
  (hw:¬(sIx items.size 0 lo=0/\sIx items.size items.size hi=items.size))
  (h:Q (.ref s.heap.objs.size) { s with heap:=s.heap.push { cls:=.type "tuple",data:=.seq ((items.toList.drop (sIx items.size 0 lo)).take (sIx items.size items.size hi-sIx items.size 0 lo)).toArray } })
  (hsz:items.size<=sizeLine):wpAny (model prog w) A (getItem (.ref t) (.ref sl)) Q E s:=by
 have htake:sizeOk (.seq ((items.toList.drop (sIx items.size 0 lo)).take (sIx items.size items.size hi-sIx items.size 0 lo)).toArray):=by
  show((items.toList.drop (sIx items.size 0 lo)).take (sIx items.size items.size hi-sIx items.size 0 lo)).toArray.size<=sizeLine
  rw[yj,yU,List.length_drop,yaa]
  omega
 have hj:sIx items.size items.size hi<=items.size:=zm9 _ _ (yg _) hi
 obtain⟨os,hos,hcs,hds⟩:=id hs
 have hTs:s.TypeIs (.ref sl) "slice" := ⟨os,hos,hcs⟩
 unfold getItem
 try with_reducible refine wpAny_holding ?_
 first | refine wpAny_bind (wpAny_pure ?_) | skip
 refine wpAny_bind (wpAny_sequenceKey ht.typeIs (by decide) ?_)
 refine wpAny_bind (wpAny_callSpecial?_slot (name:=Str.ofString "__getitem__") ht.typeIs yac
  (wpAny_call_entry yac ht.typeIs entry_tuple_getitem ?_ (args_tuple_getitem _ _)))
 show wpAny _ _ (Builtin.Tuple.tupleItemsOf (.ref t) >>= _) _ _ s
 refine wpAny_bind (tupleItemsOf_ ht ?_)
 refine wpAny_bind (wpAny_typeOf hTs ?_)
 rw[if_pos (by decide)]
 refine wpAny_bind (zep hs pl pu ?_)
 have hno:¬((((sIx items.size 0 lo:Nat):Int) == 0&&(1:Int) == 1&&(sIx items.size items.size hi-sIx items.size 0 lo) == items.size)=true):=by
  intro q
  rw[yA,yA]at q
  have q1:((sIx items.size 0 lo:Nat):Int)=0:=eq_of_beq q.1.1
  have q2:sIx items.size items.size hi-sIx items.size 0 lo=items.size:=eq_of_beq q.2
  exact hw ⟨by omega,by omega⟩
 show wpAny _ _ (if(((sIx items.size 0 lo:Nat):Int) == 0&&(1:Int) == 1&&(sIx items.size items.size hi-sIx items.size 0 lo) == items.size)=true then _ else _) _ _ s
 rw[if_neg hno,zkA]
 first
  | exact wpAny_bind (m:=Builtin.Tuple.tupleExact _) (wpAny_newObj_type (wpAny_pure ⟨_,rfl,wpAny_pure h⟩) htake)
  | exact wpAny_bind (m:=Builtin.Tuple.tupleExact _) (wpAny_newObj_type (wpAny_bind (wpAny_pure (wpAny_pure ⟨_,rfl,wpAny_pure h⟩))) htake)
  | exact wpAny_bind (wpAny_bind (m:=Builtin.Tuple.tupleExact _) (wpAny_newObj_type (wpAny_pure (wpAny_pure ⟨_,rfl,wpAny_pure h⟩)) htake))
  | exact wpAny_bind (wpAny_bind (m:=Builtin.Tuple.tupleExact _) (wpAny_newObj_type (wpAny_pure ⟨_,rfl,wpAny_pure h⟩) htake))
end
end HT
namespace Internal
open PySem PySem.Spec PyProof.Rows
abbrev TO:=St->Hp->(Option Int->Hp->Prop)->Prop
def PO(X:Cx)(e:Option Expr)(t:TO):Prop:=
 ∀(pins:List (Addr × Obj)) (s:Shared) (σ:St) (H:Hp) (Q:Option Int->Hp->Prop),Inv X pins σ H s->t σ H Q ->
  wpAny (model X.prog X.w) X.A (evalPart e X.env) (fun u s'=>∃o H',Inv X pins σ H' s'/\IsPart u o/\Q o H') X.xe s
abbrev zle:TO:=fun _ H Q=>Q none H
def zkP(t:TE):TO:=fun σ H Q=>t σ H fun x H1=>∃i,x=.int i/\Q (some i) H1
theorem zhP{ns:List Int}:∀{us:List Value},Vals (ns.map V.int) us->IntsAre us ns:=by
 induction ns with
 | nil=>intro us r;rw[List.map_nil]at r;cases r;exact .nil
 | cons n ns ih=>
  intro us r
  rw[yH]at r
  cases r with
  | cons r1 r2=>
   obtain⟨t,e⟩:=r1
   subst e
   exact .cons n t (ih r2)
section
variable {X:Cx}{e:Expr}{te:TE}{lo hi:Option Expr}{tl th:TO}{pos p2:Pos}
theorem zck:PO X none zle:=by
 intro pins s σ H Q I h
 rw[evalPart_none]
 exact wpAny_pure ⟨none,H,I,.none,h⟩
theorem zci(h:PE X e te):PO X (some e) (zkP te):=by
 intro pins s σ H Q I hw
 rw[evalPart_some]
 refine thn (h pins s σ H _ I hw) fun u s1 zz=>?_
 obtain⟨x,H1,I1,r1,q1⟩:=zz
 obtain⟨i,rfl,q⟩:=q1
 obtain⟨t,rfl⟩:=r1
 exact⟨some i,H1,I1,.int i t,q⟩
def SlR(X:Cx)(r:V->Option Int->Option Int->Hp->VK->Prop):Prop:=
 ∀(pins:List (Addr × Obj)) (s:Shared) (σ:St) (H:Hp) (x:V) (v vl vu:Value) (lo hi:Option Int) (sl:Addr) (Q:VK),Inv X pins σ H s->RelV x v->s.heap.IsSliceOf sl vl vu .none->IsPart vl lo->IsPart vu hi->r x lo hi H Q ->
  ∃T id,typeLookup (.type T) "__getitem__" = pure (some (.builtin id))/\s.TypeIs v T/\wpAny (model X.prog X.w) X.A (getItem v (.ref sl)) (EP X pins σ Q) X.xe s
abbrev tSl(r:V->Option Int->Option Int->Hp->VK->Prop)(te:TE)(tl th:TO):TE:=fun σ H Q=>te σ H fun x H1=>tl σ H1 fun l H2=>th σ H2 fun u H3=>r x l u H3 Q
theorem zbU{r:V->Option Int->Option Int->Hp->VK->Prop}(hr:SlR X r)(he:PE X e te)(hl:PO X lo tl)(hu:PO X hi th):PE X (.Subscript e (.Slice lo hi none p2) pos) (tSl r te tl th):=by
 intro pins s σ H Q I h
 refine Subscript_ (thn (he pins s σ H _ I h) fun v s1 zz=>?_)
 obtain⟨x,H1,I1,r1,q1⟩:=zz
 refine wpAny_Slice (thn (hl pins s1 σ H1 _ I1 q1) fun vl s2 ⟨l,H2,I2,pl,q2⟩=>thn (hu pins s2 σ H2 _ I2 q2) fun vu s3 zz=>?_)
 obtain⟨u,H3,I3,pu,q3⟩:=zz
 rw[evalPart_none]
 refine wpAny_pure ?_
 have I4:Inv X pins σ H3 { s3 with heap:=s3.heap.push { cls:=.type "slice",data:=.fields #[vl,vu,.none] } }:=I3.kept (t':=s3.toks) fun b ob q=>Heap.get?_push_of_some _ q
 obtain⟨T,id,hT,ht,hg⟩:=hr pins { s3 with heap:=s3.heap.push { cls:=.type "slice",data:=.fields #[vl,vu,.none] } } σ H3 x v vl vu l u s3.heap.objs.size Q I4 r1 (Heap.IsSliceOf.new ..) pl pu q3
 show wpAny (model X.prog X.w) X.A (subscriptTail e (.Slice lo hi none p2) v (.ref s3.heap.objs.size)) (EP X pins σ Q) X.xe { s3 with heap:=s3.heap.push { cls:=.type "slice",data:=.fields #[vl,vu,.none] } }
 exact tail_any (ops:=[.ref s3.heap.objs.size,v]) ht hT hg (by with_unfolding_all rfl)
def zcf(xs:List V)(lo hi:Option Int):List V:=(xs.drop (HT.sIx xs.length 0 lo)).take (HT.sIx xs.length xs.length hi-HT.sIx xs.length 0 lo)
theorem zd7(xs:List V)(lo hi:Option Int):(zcf xs lo hi).length<=xs.length:=by
 unfold zcf
 rw[yU,List.length_drop]
 omega
def zky(K:Fg):V->Option Int->Option Int->Hp->VK->Prop:=fun x lo hi H Q=>∃a xs,x=.ref a/\SqT K H a xs /\
 ¬(HT.sIx xs.length 0 lo=0/\HT.sIx xs.length xs.length hi=xs.length)/\∀p,H p=none->Q (.ref p) (upd H p (.tup (zcf xs lo hi)))
theorem zms:SlR X (zky X.K):=by
 intro pins s σ H x v vl vu lo hi sl Q I rx hs pl pu h
 obtain⟨a,xs,rfl,hx,hw,q⟩:=h
 cases rx
 obtain⟨its,r,ht,hz⟩:=I.tuple hx
 have hlen:its.toArray.size=xs.length:=by rw[yj];exact r.length.symm
 refine⟨"tuple",_,yac.lookup,ht.typeIs,?_⟩
 refine HT.getItem_tuple_cut ht hs pl pu (by rw[hlen];exact hw) ?_ (by rw[hlen];exact hz)
 rw[hlen]
 refine⟨.ref s.heap.objs.size,_,I.laid (t':=s.toks) (o:=.tup (zcf xs lo hi)) (fun b ob q=>Heap.get?_push_of_some _ q) (yg _) ?_,rfl,q _ (I.hok.fresh (yg _))⟩
 exact⟨yb (zd7 xs lo hi) hz,_,(r.drop (HT.sIx xs.length 0 lo)).take (HT.sIx xs.length xs.length hi-HT.sIx xs.length 0 lo),IsTup.new _ _⟩
def zkV(K:Fg):R2:=fun x y H Q=>∃a b xs ys,x=.ref a/\y=.ref b/\SqT K H a xs/\SqT K H b ys/\xs≠[]/\xs.length+ys.length<=sizeLine /\
 (ys=[]->Q (.ref a) H)/\(ys≠[]->∀p,H p=none->Q (.ref p) (upd H p (.tup (xs++ys))))
theorem Vals.nil_iff{xs:List V}{us:List Value}(r:Vals xs us):us=[]↔xs=[]:=by
 cases r with
 | nil=>simp
 | cons _ _=>simp
theorem zl4:OpR X (binaryOp .Add) (zkV X.K):=by
 intro pins s σ H x y v u Q I rx ry h
 obtain⟨a,b,xs,ys,rfl,rfl,ha,hb,hx,hz,q1,q2⟩:=h
 cases rx
 cases ry
 obtain⟨its,r1,p1,_⟩:=I.tuple ha
 obtain⟨its2,r2,p2,_⟩:=I.tuple hb
 refine HT.cat_tup p1 p2 (fun z=>hx (r1.nil_iff.mp z)) (fun z=>⟨.ref a,H,I,rfl,q1 (r2.nil_iff.mp z)⟩) (fun z=>?_) (by rw[<- r1.length,<- r2.length];exact hz)
 refine⟨.ref s.heap.objs.size,_,I.laid (t':=s.toks) (o:=.tup (xs++ys)) (fun b ob q=>Heap.get?_push_of_some _ q) (yg _) ?_,rfl,q2 (fun w=>z (r2.nil_iff.mpr w)) _ (I.hok.fresh (yg _))⟩
 exact⟨by rw[yl];exact hz,_,r1.append r2,IsTup.new _ _⟩
end
def ixN(n:Nat)(i:Int):Option Nat:=if 0<=i then(if i<n then some i.toNat else none)else if -(n:Int)<=i then some (i+n).toNat else none
def atI{α:Type}(xs:List α)(i:Int):Option α:=(ixN xs.length i).bind fun j=>xs[j]?
theorem zg7{n:Nat}{i:Int}{j:Nat}(h:ixN n i=some j):seqIndex? i n=some j/\j<n/\-(n:Int)<=i/\i<n:=by
 unfold ixN at h
 by_cases h0:0<=i
 ·rw[if_pos h0]at h
  by_cases h1:i<n
  ·rw[if_pos h1]at h
   have e:i.toNat=j:=yo h
   exact⟨by rw[seqIndex_of h0 h1,e],by omega,by omega,h1⟩
  ·rw[if_neg h1]at h;cases h
 ·rw[if_neg h0]at h
  by_cases h1:-(n:Int)<=i
  ·rw[if_pos h1]at h
   have e:(i+n).toNat=j:=yo h
   exact⟨by rw[seqIndex_neg (by omega) h1,e],by omega,h1,by omega⟩
  ·rw[if_neg h1]at h;cases h
theorem zdU{α:Type}{xs:List α}{i:Int}{v:α}(h:atI xs i=some v):∃j,seqIndex? i xs.length=some j/\xs[j]?=some v/\j<xs.length/\-(xs.length:Int)<=i/\i<xs.length:=by
 unfold atI at h
 cases e:ixN xs.length i with
 | none=>rw[e]at h;cases h
 | some j=>
  rw[e]at h
  obtain⟨h1,h2,h3,h4⟩:=zg7 e
  exact⟨j,h1,h,h2,h3,h4⟩
theorem zcA{α:Type}{xs:List α}{j:Nat}{v:α}(h:xs[j]?=some v):atI xs (j:Int)=some v:=by
 have hj:j<xs.length:=(ym.mp h).1
 have e:ixN xs.length (j:Int)=some j:=by
  unfold ixN
  rw[if_pos (by omega),if_pos (by omega)];simp
 unfold atI;rw[e];exact h
theorem zkp{α:Type}(xs:List α)(v:α):atI (xs++[v]) (-1)=some v:=by
 have hl:(xs++[v]).length=xs.length+1:=by simp
 have e:ixN (xs++[v]).length (-1)=some xs.length:=by
  unfold ixN
  rw[hl,if_neg (by decide),if_pos (by omega)]
  congr 1
  omega
 unfold atI
 rw[e]
 show(xs++[v])[xs.length]?=some v
 simp
def zl6(b:Expr):Prop:=∀o i,subscripted b false o i=operate [o,i] (getItem o i)
def IxR(X:Cx)(r:R2):Prop:=
 ∀(value slice:Expr) (pins:List (Addr × Obj)) (s:Shared) (σ:St) (H:Hp) (x y:V) (v u:Value) (Q:VK),Inv X pins σ H s->RelV x v->RelV y u->r x y H Q ->
  subscripted slice false v u=operate [v,u] (getItem v u)->wpAny (model X.prog X.w) X.A (subscriptTail value slice v u) (EP X pins σ Q) X.xe s
def MtR(X:Cx)(id:String)(r:V->List V->Hp->VK->Prop):Prop:=
 ∀(pins:List (Addr × Obj)) (s:Shared) (σ:St) (H:Hp) (x:V) (xs:List V) (v:Value) (us:List Value) (Q:VK),Inv X pins σ H s->RelV x v->Vals xs us->r x xs H Q ->
  wpAny (model X.prog X.w) X.A (call (.builtin id) (v :: us)) (EP X pins σ Q) X.xe s
section
variable {X:Cx}{a b:Expr}{ta tb:TE}{pos:Pos}
theorem IxR.or{r r':R2}(h:IxR X r)(h':IxR X r'):IxR X (fun x y H Q=>r x y H Q\/r' x y H Q):=by
 intro value slice pins s σ H x y v u Q I rx ry q hs
 rcases q with q | q
 ·exact h value slice pins s σ H x y v u Q I rx ry q hs
 ·exact h' value slice pins s σ H x y v u Q I rx ry q hs
theorem zj{r:R2}(hr:IxR X r)(ha:PE X a ta)(hb:PE X b tb)(hs:zl6 b):PE X (.Subscript a b pos) (tOp r ta tb):=by
 intro pins s σ H Q I h
 exact Subscript_ (zj1 ha hb I h fun v u s2 x y H2 I2 rx ry q=>hr a b pins s2 σ H2 x y v u Q I2 rx ry q (hs _ _))
def zcn(K:Fg):R2:=fun x y H Q=>∃p xs i v,x=.ref p/\y=.int i/\SqL K H p xs/\atI xs i=some v/\Q v H
def zns(K:Fg):R2:=fun x y H Q=>∃p xs i v,x=.ref p/\y=.int i/\SqT K H p xs/\atI xs i=some v/\Q v H
def zmn:R2:=fun x y H Q=>∃z i c,x=.str z/\y=.int i/\z.length<=sizeLine/\atI z.cps.toList i=some c/\Q (.str ⟨#[c]⟩) H
theorem ix_list:IxR X (zcn X.K):=by
 intro value slice pins s σ H x y v u Q I rx ry h hs
 obtain⟨p,xs,i,z,rfl,rfl,hq,he,q⟩:=h
 cases rx
 obtain⟨t,rfl⟩:=ry
 obtain⟨its,r,pl,hz⟩:=I.list hq
 obtain⟨j,h1,h2,h3,h4,h5⟩:=zdU he
 obtain⟨w,ew,rw'⟩:=r.get h2
 have hl:=r.length
 have hn:=line63
 have fin:EP X pins σ Q w s:=⟨z,H,I,rw',q⟩
 by_cases h0:0<=i
 ·have hj:i.toNat=j:=by
   rw[seqIndex_of h0 h5]at h1
   exact yo h1
  exact item_listR pl.isList h0 (by omega) (by rw[hj];simpa using ew) fin hs
 ·have hj:(i+(its.toArray.size:Int)).toNat=j:=by
   rw[seqIndex_neg (by omega) h4]at h1
   rw[yj,<- hl]
   exact yo h1
  exact subscriptTail_builtinR (x:=w) pl.isList.typeIs slot_list_getitem.lookup
   (wpAny_getItem_list_neg (Q:=fun r s'=>r=w/\EP X pins σ Q r s') pl.isList (by omega) (by rw[yj]<;>omega) (by omega) (by rw[hj];simpa using ew) ⟨rfl,fin⟩) hs
theorem ix_tup:IxR X (zns X.K):=by
 intro value slice pins s σ H x y v u Q I rx ry h hs
 obtain⟨p,xs,i,z,rfl,rfl,hq,he,q⟩:=h
 cases rx
 obtain⟨t,rfl⟩:=ry
 obtain⟨its,r,pl,hz⟩:=I.tuple hq
 obtain⟨j,h1,h2,h3,h4,h5⟩:=zdU he
 obtain⟨w,ew,rw'⟩:=r.get h2
 have hl:=r.length
 have hn:=line63
 have fin:EP X pins σ Q w s:=⟨z,H,I,rw',q⟩
 exact subscriptTail_builtinR (x:=w) pl.typeIs slot_tuple_getitem.lookup
  (getItem_tuple (j:=j) (Q:=fun r s'=>r=w/\EP X pins σ Q r s') pl (by omega) (by omega) (by rw[yj,<- hl];exact h1) (by simpa using ew) ⟨rfl,fin⟩) hs
theorem zmI:IxR X zmn:=by
 intro value slice pins s σ H x y v u Q I rx ry h hs
 obtain⟨z,i,c,rfl,rfl,hz,he,q⟩:=h
 obtain⟨t,rfl⟩:=rx
 obtain⟨t',rfl⟩:=ry
 obtain⟨j,h1,h2,h3,h4,h5⟩:=zdU he
 have hl:z.cps.toList.length=z.length:=by simp[Str.length]
 rw[hl]at h1 h4 h5
 have hn:=line63
 exact tail_any (typeIs_str s z t) slot_str_getitem.lookup (getItem_str (c:=c) (by
  have e1:decide (i < -(2 ^ 63:Int))=false:=decide_eq_false (by omega)
  have e2:decide (i≥2 ^ 63)=false:=decide_eq_false (by omega)
  rw[e1,e2,Bool.or_false]) (by rw[h1];simpa using h2) ⟨.str ⟨#[c]⟩,H,I.tok _,⟨_,rfl⟩,q⟩) hs
def rIx(K:Fg):R2:=fun x y H Q=>zcn K x y H Q\/zns K x y H Q\/zmn x y H Q
theorem zh:IxR X (rIx X.K):=ix_list.or (ix_tup.or zmI)
theorem zig(its:List Value)(n j:Nat)(u:Value):Obj.mapSeq (·.setIfInBounds j u) { cls:=.type "list",data:=.seq its.toArray n }={ cls:=.type "list",data:=.seq (its.set j u).toArray n }:=by
 simp[Obj.mapSeq]
theorem Inv.lst{pins:List (Addr × Obj)}{σ:St}{H:Hp}{s:Shared}{p:Addr}{xs:List V}(I:Inv X pins σ H s)(h:H p=some (.lst xs)) :
  ∃(its:List Value) (n:Nat),Vals xs its/\s.heap.get? p=some { cls:=.type "list",data:=.seq its.toArray n }/\xs.length<=sizeLine:=by
 obtain⟨z,its,n,r,e⟩:=I.hok p _ h
 exact⟨its,n,r,e,z⟩
theorem Inv.lstUpd{pins:List (Addr × Obj)}{σ:St}{H:Hp}{s:Shared}{p:Addr}{xs ys:List V}{its its':List Value}{n n':Nat}{f:Obj->Obj}(I:Inv X pins σ H s)(h:H p=some (.lst xs))
  (ho:s.heap.get? p=some { cls:=.type "list",data:=.seq its.toArray n }) (hf:f { cls:=.type "list",data:=.seq its.toArray n }={ cls:=.type "list",data:=.seq its'.toArray n' }) (r:Vals ys its') (hz:ys.length<=sizeLine) (t:Nat) :
  Inv X pins σ (upd H p (.lst ys)) { s with heap:=s.heap.update p f,toks:=t }:=by
 have e:(s.heap.update p f).get? p=some { cls:=.type "list",data:=.seq its'.toArray n' }:=by
  rw[Heap.get?_update_self f ho (by rw[hf]<;>rfl),hf]
 refine I.write (x:=p) (e:=p) (by rw[h];trivial) (.inl rfl) (fun b u hb q=>(Heap.get?_update_other _ _ (yaj hb)).trans q) ⟨_,e⟩ ?_
 exact⟨hz,its',n',r,e⟩
def zew:V->V->V->Hp->(Hp->Prop)->Prop:=fun o i v H Q=>∃p xs k j,o=.ref p/\i=.int k/\H p=some (.lst xs)/\ixN xs.length k=some j/\Q (upd H p (.lst (xs.set j v)))
theorem zY:zkO X zew:=by
 intro pins s σ H o i v ov iv u Q I ro ri rv h
 obtain⟨p,xs,k,j,rfl,rfl,hp,hj,q⟩:=h
 cases ro
 obtain⟨t,rfl⟩:=ri
 obtain⟨its,n,r,ho,hz⟩:=I.lst hp
 obtain⟨h1,h2,h3,h4⟩:=zg7 hj
 have hl:=r.length
 have hn:=line63
 have I':Inv X pins σ (upd H p (.lst (xs.set j v))) { s with heap:=s.heap.update p (Obj.mapSeq (·.setIfInBounds j u)) }:=
  I.lstUpd hp ho (zig its n j u) (r.set rv j) (by rw[yap];exact hz) s.toks
 by_cases h0:0<=k
 ·have hk:k.toNat=j:=by
   rw[seqIndex_of h0 h4]at h1
   exact yo h1
  exact PySem.W.ki_setAt ho h0 (by omega) (by rw[yj,<- hl];exact h4) (by rw[hk];exact⟨_,I',q⟩)
 ·have hk:(k+(its.toArray.size:Int)).toNat=j:=by
   rw[seqIndex_neg (by omega) h3]at h1
   rw[yj,<- hl]
   exact yo h1
  exact PySem.W.ki_setBack ho (by omega) (by rw[yj,<- hl];exact h3) (by omega) (by rw[hk];exact⟨_,I',q⟩)
theorem zgK(lo hi:Option Int)(n:Nat):(sliceBounds lo hi none n).1=((HT.sIx n 0 lo:Nat):Int)/\(sliceBounds lo hi none n).2.1=((HT.sIx n n hi:Nat):Int)/\(sliceBounds lo hi none n).2.2=1:=by
 refine⟨?_,?_,rfl⟩
 ·cases lo with
  | none=>simp[sliceBounds,HT.sIx]
  | some i=>
   simp only[sliceBounds,HT.sIx,Option.getD_none,show(1:Int)>0 by decide,if_true]
   by_cases h:i<0
   ·simp only[h,if_true]<;>omega
   ·simp only[h,if_false]<;>omega
 ·cases hi with
  | none=>simp[sliceBounds,HT.sIx]
  | some i=>
   simp only[sliceBounds,HT.sIx,Option.getD_none,show(1:Int)>0 by decide,if_true]
   by_cases h:i<0
   ·simp only[h,if_true]<;>omega
   ·simp only[h,if_false]<;>omega
theorem zfS(its:List Value)(lo hi:Option Int):slicePick its.toArray lo hi none=((its.drop (HT.sIx its.length 0 lo)).take (HT.sIx its.length its.length hi-HT.sIx its.length 0 lo)).toArray:=by
 obtain⟨h1,h2,h3⟩:=zgK lo hi its.toArray.size
 unfold slicePick
 rw[h1,h2,h3]
 simp only[sliceRange_one,pick_run,yj]<;>rfl
def zcU(K:Fg):V->Option Int->Option Int->Hp->VK->Prop:=fun x lo hi H Q=>∃a xs,x=.ref a/\SqL K H a xs/\∀p,H p=none->Q (.ref p) (upd H p (.lst (zcf xs lo hi)))
theorem zcD:SlR X (zcU X.K):=by
 intro pins s σ H x v vl vu lo hi sl Q I rx hs pl pu h
 obtain⟨a,xs,rfl,hx,q⟩:=h
 cases rx
 obtain⟨its,r,ht,hz⟩:=I.list hx
 have hlen:=r.length
 refine⟨"list",_,slot_list_getitem.lookup,ht.isList.typeIs,?_⟩
 refine wpAny_getItem_list_slice ht.isList hs pl pu .none (by simp) ?_ (by rw[yj]<;>omega)
 rw[zfS,<- hlen]
 refine⟨.ref s.heap.objs.size,_,I.laid (t':=s.toks) (o:=.lst (zcf xs lo hi)) (fun b ob q=>Heap.get?_push_of_some _ q) (yg _) ?_,rfl,q _ (I.hok.fresh (yg _))⟩
 exact⟨yb (zd7 xs lo hi) hz,_,0,(r.drop (HT.sIx xs.length 0 lo)).take (HT.sIx xs.length xs.length hi-HT.sIx xs.length 0 lo),Heap.get?_push_size _ rfl⟩
def zcE:V->Bool
 | .non=>true
 | .bl _=>true
 | .int _=>true
 | .str _=>true
 | _=>false
def eqV:V->V->Bool
 | .non,.non=>true
 | .bl a,.bl b=>a == b
 | .bl a,.int b=>(if a then 1 else 0) == b
 | .int a,.bl b=>a == (if b then 1 else 0)
 | .int a,.int b=>a == b
 | .str a,.str b=>a == b
 | _,_=>false
theorem zmx{A:Around}{s:Shared}{y x:V}{u v:Value}(ry:RelV y u)(rx:RelV x v)(fy:zcE y=true)(fx:zcE x=true):SeqAt.EqAt A s u v (eqV y x):=by
 cases y with
 | non=>
  cases ry
  cases x with
  | non=>cases rx;exact SeqAt.EqAt.same _
  | bl b=>cases rx;exact SeqAt.EqAt.none_bool b
  | int b=>obtain⟨t,rfl⟩:=rx;exact SeqAt.EqAt.none_int b t
  | str b=>obtain⟨t,rfl⟩:=rx;exact SeqAt.EqAt.none_str b t
  | _=>exact absurd (show false=true from fx) yk
 | bl a=>
  cases ry
  cases x with
  | non=>cases rx;exact SeqAt.EqAt.bool_none a
  | bl b=>cases rx;exact SeqAt.EqAt.bool_bool a b
  | int b=>obtain⟨t,rfl⟩:=rx;exact SeqAt.EqAt.bool_int a b t
  | str b=>obtain⟨t,rfl⟩:=rx;exact SeqAt.EqAt.bool_str a b t
  | _=>exact absurd (show false=true from fx) yk
 | int a=>
  obtain⟨t',rfl⟩:=ry
  cases x with
  | non=>cases rx;exact SeqAt.EqAt.int_none a t'
  | bl b=>cases rx;exact SeqAt.EqAt.int_bool a t' b
  | int b=>obtain⟨t,rfl⟩:=rx;exact SeqAt.EqAt.int_int a t' b t
  | str b=>obtain⟨t,rfl⟩:=rx;exact SeqAt.EqAt.int_str a t' b t
  | _=>exact absurd (show false=true from fx) yk
 | str a=>
  obtain⟨t',rfl⟩:=ry
  cases x with
  | non=>cases rx;exact SeqAt.EqAt.str_none a t'
  | bl b=>cases rx;exact SeqAt.EqAt.str_bool a t' b
  | int b=>obtain⟨t,rfl⟩:=rx;exact SeqAt.EqAt.str_int a t' b t
  | str b=>obtain⟨t,rfl⟩:=rx;exact SeqAt.EqAt.str_str a t' b t
  | _=>exact absurd (show false=true from fx) yk
 | _=>exact absurd (show false=true from fy) yk
def eqU(x:V)(u:Value):Bool:=match u with
 | .none=>eqV .non x
 | .bool b=>eqV (.bl b) x
 | .int i _=>eqV (.int i) x
 | .str z _=>eqV (.str z) x
 | _=>false
theorem zgG{x y:V}{u:Value}(r:RelV y u)(f:zcE y=true):eqU x u=eqV y x:=by
 cases y with
 | non=>cases r;rfl
 | bl b=>cases r;rfl
 | int i=>obtain⟨t,rfl⟩:=r;rfl
 | str z=>obtain⟨t,rfl⟩:=r;rfl
 | _=>exact absurd (show false=true from f) yk
theorem zdf{x:V}:∀{xs:List V} {us:List Value},Vals xs us->xs.all zcE=true->us.any (eqU x)=xs.any fun y=>eqV y x
 | _,_,.nil,_=>rfl
 | y :: xs,u :: us,.cons r t,f=>by
  rw[yav,yA]at f
  rw[List.any_cons,List.any_cons,zgG r f.1,zdf t f.2]
theorem zcB{A:Around}{s:Shared}{x:V}{v:Value}(rx:RelV x v)(fx:zcE x=true):∀{xs:List V} {us:List Value},Vals xs us->xs.all zcE=true->∀u∈us,SeqAt.EqAt A s u v (eqU x u)
 | _,_,.nil,_=>fun u hu=>by cases hu
 | y :: xs,u :: us,.cons r t,f=>fun u' hu=>by
  rw[yav,yA]at f
  rcases yf.mp hu with rfl | hu
  ·rw[zgG r f.1];exact zmx r rx f.1 fx
  ·exact zcB rx fx t f.2 u' hu
def inV(x:V)(xs:List V):Bool:=xs.any fun y=>eqV y x
def rIn(K:Fg)(neg:Bool):R2:=fun x y H Q=>∃p xs,y=.ref p/\(SqL K H p xs\/SqT K H p xs)/\zcE x=true/\xs.all zcE=true/\Q (.bl (if neg then !inV x xs else inV x xs)) H
theorem ziM:OpR X (compareOp .In) (rIn X.K false):=by
 intro pins s σ H x y v u Q I rx ry h
 obtain⟨p,xs,rfl,hq,fx,fs,q⟩:=h
 cases ry
 rcases hq with hq | hq
 ·obtain⟨its,r,pl,hz⟩:=I.list hq
  refine SeqAt.in_listAt (eqU x) pl.isList (fun w hw=>zcB rx fx r fs w (by simpa using hw)) ⟨.bl _,H,I,rfl,?_⟩
  rw[show its.toArray.any (eqU x)=its.any (eqU x) by simp,zdf r fs]
  exact q
 ·obtain⟨its,r,pl,hz⟩:=I.tuple hq
  refine SeqAt.in_tupleAt (eqU x) pl (fun w hw=>zcB rx fx r fs w (by simpa using hw)) ⟨.bl _,H,I,rfl,?_⟩
  rw[show its.toArray.any (eqU x)=its.any (eqU x) by simp,zdf r fs]
  exact q
theorem zdt:OpR X (compareOp .NotIn) (rIn X.K true):=by
 intro pins s σ H x y v u Q I rx ry h
 obtain⟨p,xs,rfl,hq,fx,fs,q⟩:=h
 cases ry
 rcases hq with hq | hq
 ·obtain⟨its,r,pl,hz⟩:=I.list hq
  refine SeqAt.notIn_listAt (eqU x) pl.isList (fun w hw=>zcB rx fx r fs w (by simpa using hw)) ⟨.bl _,H,I,rfl,?_⟩
  rw[show its.toArray.any (eqU x)=its.any (eqU x) by simp,zdf r fs]
  exact q
 ·obtain⟨its,r,pl,hz⟩:=I.tuple hq
  refine SeqAt.notIn_tupleAt (eqU x) pl (fun w hw=>zcB rx fx r fs w (by simpa using hw)) ⟨.bl _,H,I,rfl,?_⟩
  rw[show its.toArray.any (eqU x)=its.any (eqU x) by simp,zdf r fs]
  exact q
theorem zgd:CallR X (.builtin "len") (fun xs H Q=>∃p ys,xs=[.ref p]/\(SqL X.K H p ys\/SqT X.K H p ys)/\Q (.int ys.length) H):=by
 intro pins s σ H xs us Q I r h
 obtain⟨p,ys,rfl,hq,q⟩:=h
 obtain⟨u,rfl,rx⟩:=vals1 r
 cases rx
 have hn:=line63
 rcases hq with hq | hq
 ·obtain⟨its,r',pl,hz⟩:=I.list hq
  have hlen:=r'.length
  exact Calls.call_len_list pl.isList (by simp only[yj]<;>omega) ⟨.int ys.length,H,I.tok _,⟨s.toks+1,by rw[yj,hlen]⟩,q⟩
 ·obtain⟨its,r',pl,hz⟩:=I.tuple hq
  have hlen:=r'.length
  exact len_tuple pl (by simp only[yj]<;>omega) ⟨.int ys.length,H,I.tok _,⟨s.toks+1,by rw[yj,hlen]⟩,q⟩
theorem CallR.or{f:Value}{r r':List V->Hp->VK->Prop}(h:CallR X f r)(h':CallR X f r'):CallR X f (fun xs H Q=>r xs H Q\/r' xs H Q):=by
 intro pins s σ H xs us Q I rs q
 rcases q with q | q
 ·exact h pins s σ H xs us Q I rs q
 ·exact h' pins s σ H xs us Q I rs q
theorem zgu:CallR X (.type "list") (fun xs H Q=>∃p ys,xs=[.ref p]/\(SqL X.K H p ys\/SqT X.K H p ys)/\∀l,H l=none->Q (.ref l) (upd H l (.lst ys))):=by
 intro pins s σ H xs us Q I r h
 obtain⟨p,ys,rfl,hq,q⟩:=h
 obtain⟨u,rfl,rx⟩:=vals1 r
 cases rx
 have fin:∀(its:List Value),Vals ys its->ys.length<=sizeLine->∀(h':Heap) (c':Nat),(∀b o',s.heap.get? b=some o'->h'.get? b=some o') ->
   h'.get? s.heap.objs.size=some { cls:=.type "list",dict:=none,data:=.seq its.toArray c',slots:=#[] }->EP X pins σ Q (.ref s.heap.objs.size) { s with heap:=h' }:=fun its r' hz h' c' kp e=>
  ⟨.ref s.heap.objs.size,_,I.laid (t':=s.toks) kp (yg _) (show ObjOk X.prog X.w _ h' _ (.lst ys) from⟨hz,its,c',r',e⟩),rfl,q _ (I.hok.fresh (yg _))⟩
 rcases hq with hq | hq
 ·obtain⟨its,r',pl,hz⟩:=I.list hq
  have hlen:=r'.length
  obtain⟨o,ho,hc,n,hd⟩:=pl.isList
  exact call_list_seq p (.inl rfl) ho hc hd (fun h' c' kp e=>fin its r' hz h' c' kp e) (by simp only[yj]<;>omega)
 ·obtain⟨its,r',pl,hz⟩:=I.tuple hq
  have hlen:=r'.length
  obtain⟨o,ho,hc,n,hd⟩:=pl
  exact call_list_seq p (.inr rfl) ho hc hd (fun h' c' kp e=>fin its r' hz h' c' kp e) (by simp only[yj]<;>omega)
theorem zfK:CallR X (.type "tuple") (fun xs H Q=>∃p ys,xs=[.ref p]/\((SqL X.K H p ys/\∀l,H l=none->Q (.ref l) (upd H l (.tup ys)))\/(SqT X.K H p ys/\Q (.ref p) H))):=by
 intro pins s σ H xs us Q I r h
 obtain⟨p,ys,rfl,h⟩:=h
 obtain⟨u,rfl,rx⟩:=vals1 r
 cases rx
 rcases h with⟨hq,q⟩ | ⟨hq,q⟩
 ·obtain⟨its,r',pl,hz⟩:=I.list hq
  have hlen:=r'.length
  refine call_tuple_list pl.isList (fun h' kp=>?_) (by simp only[yj]<;>omega)
  have I1:Inv X pins σ H { s with heap:=h' }:=I.kept (t':=s.toks) kp
  have I2:Inv X pins σ (upd H h'.objs.size (.tup ys)) { s with heap:=h'.push { cls:=.type "tuple",data:=.seq its.toArray } }:=
   I1.laid (t':=s.toks) (fun b o e=>Heap.get?_push_of_some _ e) (yg _) (show ObjOk X.prog X.w _ _ _ (.tup ys) from⟨hz,its,r',IsTup.new _ _⟩)
  exact⟨.ref h'.objs.size,_,I2,rfl,q _ (I1.hok.fresh (yg _))⟩
 ·obtain⟨its,r',pl,hz⟩:=I.tuple hq
  exact call_tuple_same pl ⟨.ref p,H,I,rfl,q⟩
def tyV(K:Fg)(T:String)(x:V)(H:Hp):Prop:=match x with
 | .str _=>T = "str"
 | .int _=>T = "int"
 | .ref p=>(T = "list" /\ ∃xs,SqL K H p xs)\/(T = "tuple" /\ ∃o,K.lookup p=some o/\o.cls=.type "tuple" /\ o.dict=none) \/
   (T = "dict" /\ ((∃kvs,H p=some (.dK kvs))\/∃kvs,H p=some (.dT kvs)))\/(T = "set" /\ ∃S n,H p=some (.set S n))
 | _=>False
theorem zmE{pins:List (Addr × Obj)}{σ:St}{H:Hp}{s:Shared}{T:String}{x:V}{v:Value}(I:Inv X pins σ H s)(r:RelV x v)(ty:tyV X.K T x H) :
  s.TypeIs v T/\∀a,v=.ref a->∃ob,s.heap.get? a=some ob/\ob.dict=none:=by
 cases x with
 | str z=>
  obtain⟨t,rfl⟩:=r
  cases(show T = "str" from ty)
  exact⟨typeIs_str s z t,fun _ e=>nomatch e⟩
 | int i=>
  obtain⟨t,rfl⟩:=r
  cases(show T = "int" from ty)
  exact⟨typeIs_int s i t,fun _ e=>nomatch e⟩
 | ref p=>
  cases r
  rcases ty with⟨rfl,xs,hq⟩ | ⟨rfl,o,hk,hc,hd⟩ | ⟨rfl,hk⟩ | ⟨rfl,S,n,hk⟩
  ·obtain⟨its,_,pl,_⟩:=I.list hq
   refine⟨pl.isList.typeIs,fun a e=>?_⟩
   cases e
   obtain⟨o,n,e,c,hd,_⟩:=pl
   exact⟨o,e,hd⟩
  ·refine⟨⟨o,I.kIn p o hk,hc⟩,fun a e=>?_⟩
   cases e
   exact⟨o,I.kIn _ o hk,hd⟩
  ·have z:∃o,s.heap.get? p=some o/\o.ExactDict:=by
    rcases hk with⟨kvs,hk⟩ | ⟨kvs,hk⟩
    ·obtain⟨_,_,_,_,o,_,_,e,ex,_⟩:=I.hok p _ hk
     exact⟨o,e,ex⟩
    ·obtain⟨_,_,_,_,o,_,_,e,ex,_⟩:=I.hok p _ hk
     exact⟨o,e,ex⟩
   obtain⟨o,e,ex⟩:=z
   refine⟨⟨o,e,ex.1⟩,fun a e2=>?_⟩
   cases e2
   exact⟨o,e,ex.2.1⟩
  ·obtain⟨o,_,_,_,e,ex,_⟩:=I.hok p _ hk
   refine⟨⟨o,e,ex.1⟩,fun a e2=>?_⟩
   cases e2
   exact⟨o,e,ex.2.1⟩
 | _=>exact False.elim ty
def tBM(K:Fg)(T:String)(r:V->List V->Hp->VK->Prop)(to:TE)(t:TA):TE:=fun σ H Q=>to σ H fun x H1=>tyV K T x H1/\t σ H1 fun xs H2=>r x xs H2 Q
variable {o e:Expr}{es:List Expr}{to:TE}{t:TA}{name:Str}{apos cpos:Pos}{T id:String}{r:V->List V->Hp->VK->Prop}
theorem zcm(pa:PlainAttrs T)(slot:Slot T name id)(hty:typeOf (.builtin id)=pure (.type "method_descriptor"))(hm:MtR X id r)(ho:PE X o to)(ha:PA X (e :: es) t)
  (hbase:autoParam (attributeBase o name X.env (eval o X.env)=eval o X.env) Internal.aut2._auto_1)
  (hfew:autoParam (((backTo cpos (starEach (e :: es) X.env)).all (fun x=>!x.1)&&(backToKw cpos (keywordEach [] X.env)).all (fun x=>x.1.isSome)
   && decide ((e :: es).length+([]:List Keyword).length+(if([]:List Keyword).isEmpty then 0 else 1)<30))=true) Internal.aut2._auto_1)
  (hline:autoParam ((apos.endLine == cpos.line)=true) Internal.aut2._auto_1) (hs:autoParam (starEach (e :: es) X.env=(false,eval e X.env) :: starEach es X.env) Internal.aut2._auto_1) (hplain:autoParam ((backTo cpos (starEach es X.env)).any (·.1)=false) Internal.aut2._auto_1) :
  PE X (.Call (.Attribute o name apos) (e :: es) [] cpos) (tBM X.K T r to t):=by
 intro pins s σ H Q I h
 refine wpAny_Call_method_late hbase hfew hline rfl (thn (ho pins s σ H _ I h) fun v s1 zz=>?_)
 obtain⟨x,H1,I1,r1,ty,q1⟩:=zz
 obtain⟨h1,h2⟩:=zmE I1 r1 ty
 refine⟨T,id,pa,slot,hty,h1,h2,?_⟩
 have hA:=ha cpos pins s1 σ H1 _ I1 q1
 rw[hs]at hA ⊢
 refine Calls.callWith_builtin (by show(false || (backTo cpos (starEach es X.env)).any (·.1))=false;rw[hplain]<;>rfl) (Calls.evalArgs_plain ?_)
 exact thn hA fun us s2 ⟨vs,H2,I2,r2,q2⟩=>hm pins s2 σ H2 x vs v us Q I2 r1 r2 q2
/- xs.append(e),list.index on a module's tuple .. are MtR facts of 06m -/
end
def MtM(X:Cx)(id:String)(r:V->List V->Hp->VK->Prop):Prop:=
 ∀(pins:List (Addr × Obj)) (s:Shared) (σ:St) (H:Hp) (x:V) (xs:List V) (v:Value) (us:List Value) (Q:VK),Inv X pins σ H s->RelV x v->Vals xs us->r x xs H Q ->
  wpAny (model X.prog X.w) X.A (call (.builtin id) (v :: us)) (EP X pins σ Q) X.xe s
theorem Vals.one:∀{x:V} {us:List Value},Vals [x] us->∃u,us=[u]/\RelV x u
 | _,_,h=>by
  cases h with
  | cons r t=>cases t;exact⟨_,rfl,r⟩
theorem Vals.rep{xs:List V}{us:List Value}(h:Vals xs us):∀k:Nat,Vals (List.replicate k xs).flatten (List.replicate k us).flatten
 | 0=>.nil
 | k+1=>by
  rw[yS,yS,yag,yag]
  exact Vals.append h (Vals.rep h k)
theorem zfu(its:List Value):∀(k:Nat) (acc:List Value),
  List.foldl (fun x1 x2=>x1++x2) acc.toArray (List.replicate k its.toArray)=(acc++(List.replicate k its).flatten).toArray
 | 0,acc=>by simp
 | k+1,acc=>by
  have e:acc.toArray++its.toArray=(acc++its).toArray:=by simp
  have e2:(acc++its)++(List.replicate k its).flatten=acc++(List.replicate (k+1) its).flatten:=by
   rw[yS,yag,yaK]
  rw[<- e2,<- zfu its k (acc++its),<- e,yS,yaB]
section
variable {X:Cx}{pins:List (Addr × Obj)}{σ:St}{H:Hp}{s:Shared}{l b:Addr}{xs ys zs:List V}
theorem Inv.lset{its its':List Value}{n:Nat}{f:Array Value->Array Value}{t':Nat}(I:Inv X pins σ H s)(hH:H l=some (.lst xs))
  (e:s.heap.get? l=some { cls:=.type "list",data:=.seq its.toArray n }) (hf:f its.toArray=its'.toArray) (hv:Vals ys its') (hz:ys.length<=sizeLine) :
  Inv X pins σ (upd H l (.lst ys)) { s with heap:=s.heap.update l (Obj.mapSeq f),toks:=t' }:=by
 have q:=PySem.IsL.update e f
 rw[hf]at q
 refine I.write (x:=l) (e:=l) (by rw[hH];exact trivial) (.inl rfl) (fun b' u hb hu=>(Heap.get?_update_other s.heap (Obj.mapSeq f) (yaj hb)).trans hu) ⟨_,q⟩ ?_
 exact⟨hz,its',_,hv,q⟩
theorem Inv.lnew{its:List Value}{t':Nat}(I:Inv X pins σ H s)(hv:Vals ys its)(hz:ys.length<=sizeLine) :
  Inv X pins σ (upd H s.heap.objs.size (.lst ys)) { s with heap:=s.heap.push { cls:=.type "list",data:=.seq its.toArray },toks:=t' }:=
 I.laid (fun _ _ q=>Heap.get?_push_of_some _ q) (yg _) ⟨hz,its,0,hv,Heap.get?_push_size _ rfl⟩
theorem Inv.fresh(I:Inv X pins σ H s):H s.heap.objs.size=none:=I.hok.fresh (yg _)
theorem Inv.lstM(I:Inv X pins σ H s)(hH:H l=some (.lst xs)):xs.length<=sizeLine/\∃(its:List Value) (n:Nat),Vals xs its/\xs.length=its.length/\s.heap.get? l=some { cls:=.type "list",data:=.seq its.toArray n }:=by
 obtain⟨z,its,n,r,e⟩:=I.hok l _ hH
 exact⟨z,its,n,r,r.length,e⟩
theorem zkE{n:Nat}(h:n<=sizeLine):Builtin.List.listTooLong n=false:=by
 unfold Builtin.List.listTooLong
 exact decide_eq_false (by omega)
end
section
variable {X:Cx}
def zbQ:V->List V->Hp->VK->Prop:=fun x vs H Q=>∃l xs y,x=.ref l/\vs=[y]/\H l=some (.lst xs)/\xs.length<sizeLine/\Q .non (upd H l (.lst (xs++[y])))
theorem zaW:MtM X "list.append" zbQ:=by
 intro pins s σ H x vs v us Q I rx rv h
 obtain⟨l,xs,y,rfl,rfl,hH,hz,q⟩:=h
 cases rx
 obtain⟨u,rfl,ru⟩:=rv.one
 obtain⟨z,its,n,r,hl,e⟩:=I.lstM hH
 refine call_meets F.slot_list_append ⟨_,e,rfl⟩ F.entry_list_append (F.args_list_append_2 _ _) (PySem.list_append l its.toArray n u (by rw[yj];omega)) ⟨e,?_⟩
 refine⟨.non,_,I.lset (its':=its++[u]) hH e (by simp) (r.append (.cons ru .nil)) ?_,rfl,q⟩
 rw[yl,yax]
 omega
def zmu:R2:=fun x y H Q=>∃l b xs zs,x=.ref l/\y=.ref b/\H l=some (.lst xs)/\H b=some (.lst zs)/\xs.length+zs.length<=sizeLine/\∀p,H p=none->Q (.ref p) (upd H p (.lst (xs++zs)))
theorem op_cat:OpR X (binaryOp .Add) zmu:=by
 intro pins s σ H x y v u Q I rx ry h
 obtain⟨l,b,xs,zs,rfl,rfl,hH,hB,hz,q⟩:=h
 cases rx
 cases ry
 obtain⟨z,its,n,r,hl,e⟩:=I.lstM hH
 obtain⟨z2,its2,n2,r2,hl2,e2⟩:=I.lstM hB
 refine PySem.P.add_list e e2 ?_ (by rw[yj,yj];omega)
 have ea:its.toArray++its2.toArray=(its++its2).toArray:=by simp
 rw[ea]
 exact⟨.ref _,_,I.lnew (t':=s.toks) (r.append r2) (by rw[yl];omega),rfl,q _ I.fresh⟩
def zmv:R2:=fun x y H Q=>∃l k xs,x=.ref l/\y=.int k/\H l=some (.lst xs)/\-(2 ^ 63)<=k/\k<2 ^ 63/\xs.length*k.toNat<=sizeLine /\
 ∀p,H p=none->Q (.ref p) (upd H p (.lst (List.replicate k.toNat xs).flatten))
theorem zlL{α:Type}(xs:List α)(k:Nat):(List.replicate k xs).flatten.length=k*xs.length:=by
 induction k with
 | zero=>simp
 | succ k ih=>rw[yS,yag,yl,ih,Nat.succ_mul,Nat.add_comm]
theorem znv:OpR X (binaryOp .Mult) zmv:=by
 intro pins s σ H x y v u Q I rx ry h
 obtain⟨l,k,xs,rfl,rfl,hH,h1,h2,hz,q⟩:=h
 cases rx
 obtain⟨t,rfl⟩:=ry
 obtain⟨z,its,n,r,hl,e⟩:=I.lstM hH
 have hlen:its.toArray.size*k.toNat<=sizeLine:=by rw[yj,<- hl];exact hz
 have hcap:¬its.toArray.size*k.toNat>(2 ^ 63-1)/8:=by
  have:(sizeLine:Nat)<=(2 ^ 63-1)/8:=by decide
  omega
 have hfit:¬(!Builtin.List.listFitsIndex k)=true:=by
  rw[fitsIndex_both h1 h2]
  exact yk
 have hlong:¬Builtin.List.listTooLong (its.toArray.size*k.toNat)=true:=by
  rw[zkE hlen]
  exact yk
 have hnew:List.foldl (fun x1 x2=>x1++x2) #[] (List.replicate (if its.toArray.isEmpty=true then 0 else k.toNat) its.toArray)=(List.replicate k.toNat its).flatten.toArray:=by
  have f0:∀m:Nat,List.foldl (fun x1 x2=>x1++x2) #[] (List.replicate m its.toArray)=(List.replicate m its).flatten.toArray:=fun m=>by
   have:=zfu its m []
   rw[List.nil_append]at this
   exact this
  rw[f0]
  cases its with
  | nil=>simp
  | cons a r'=>rw[if_neg (by simp)]
 refine wpAny_binaryOp_repeat_ref (T := "list") (U := "int") (by decide) ⟨_,e,rfl⟩ (fun s'=>typeIs_int s' k t) noFill_list_mul F.fills_int_mul F.slot_int_rmul repeat_list F.slot_int_index.lookup
  (call_meets F.slot_int_rmul (typeIs_int s k t) F.entry_int_rmul (F.args_int_rmul_2 _ _) (int___rmul___int_list k t l its.toArray n)
   ⟨e,rfl,⟨_,e,rfl⟩,call_meets F.slot_list_mul ⟨_,e,rfl⟩ F.entry_list_mul (F.args_list_mul_2 _ _) (AutoListH.list___mul___list_int_3 l its.toArray n k t hfit hcap hlong) ⟨e,?_⟩⟩)
 rw[hnew]
 exact⟨.ref _,_,I.lnew (t':=s.toks) (r.rep k.toNat) (by rw[zlL,Nat.mul_comm];exact hz),rfl,q _ I.fresh⟩
end
section
variable {prog:Program}{w:World}{A:Around}{E:Value->Shared->Prop}{s:Shared}
end
section
variable {X:Cx}
end
end Internal
namespace Att
open PySem PySem.W PySem.Calls PyProof.Rows
theorem zeO{P:Params}{h:Heap}:∀(ns:List Int) (vs:List Value),WellAll P h vs (ns.map WData.int)->IntsAre vs ns:=by
 intro ns
 induction ns with
 | nil=>
  intro vs w
  rw[List.map_nil]at w
  cases w
  exact .nil
 | cons n ns ih=>
  intro vs w
  rw[yH]at w
  cases w with
  | cons a b=>
   cases a
   exact .cons _ _ (ih _ b)
theorem script_of{l:OpenLaw}{n:Nat}(hn:l.most=some n){P:Params}{h:Heap}{args:List WData}{vals:List Value}
  (hpre:l.row.toRowW.claim.pre args=true) (hwl:WellAll P h vals args) :
  ∃a vs ns,vals=[Value.ref a]/\args=[WData.list (ns.map WData.int)]/\h.get? a=some { cls:=.type "list",data:=.seq vs.toArray }/\IntsAre vs ns/\ns.length<=n:=by
 have hsh:WShape.hasAll [] args [.list .int]=true:=(pre_splitW hpre).1
 have hc:l.pre.holds [] { args:=args }=true:=(pre_splitW hpre).2
 obtain⟨d,r,rfl,h1,h2⟩:=hasAllW_cons hsh
 obtain rfl:=hasAllW_nil h2
 obtain⟨xs,rfl,h3⟩:=hasW_list h1
 obtain⟨ns,rfl⟩:=items_int h3
 have hlen:ns.length<=n:=by
  unfold OpenLaw.pre at hc
  have h4:(WTm.not (.lt (.lit (.int (n:Int))) (.len (.arg 0)))).holds [] { args:=[.list (ns.map .int)] }=true:=by
   have h4:=(holds_andW hc).1
   rw[hn]at h4
   exact h4
  have h5:=condW_of h4 (w_not (w_lt w_lit (w_len_list (w_arg rfl))))
  rw[ya]at h5
  refine Nat.le_of_not_lt fun q=>?_
  have q':(n:Int)<((ns.length:Nat):Int):=by omega
  first
   | (rw[decide_eq_true q']at h5;exact absurd h5 (by decide))
   | (simp at h5;omega)
 cases hwl with
 | cons w1 w2=>
  cases w2
  cases w1 with
  | list ho hall=>exact⟨_,_,ns,rfl,rfl,ho,zeO ns _ hall,hlen⟩
theorem post_true(l:OpenLaw)(args:List WData):l.row.toRowW.claim.post args (.bool true) args=true:=
 postW_of (r:=l.row.toRowW) (X:=(true == true))
  (show WShape.has [] (.bool true) .bool=true by first | rfl | decide | simp[WShape.has,WShape.arms,WShape.armsAll])
  (show(WTm.eq .res (.lit (.bool true))).value [] { args:=args,res:=some (.bool true),after:=args }=some (.bool (true == true))from w_eq_bool (w_res rfl) w_lit) rfl
section
variable {prog:Program}{w:World}{A:Around}{E:Value->Shared->Prop}{s:Shared}{K:Frag}
def ledger(h:Heap)(L d:Addr):List (Addr × Obj):=(List.range h.objs.size).filterMap fun a=>if a=L\/a=d then none else(h.get? a).map fun o=>(a,o)
end
end Att
namespace Internal
open PySem PySem.Spec PyProof.Rows
theorem zdH:∀{vs:List Value} {ns:List Int},IntsAre vs ns->Vals (ns.map V.int) vs
 | _,_,.nil=>.nil
 | _,_,.cons n t h=>.cons ⟨t,rfl⟩ (zdH h)
def zoj(H:Hp):Prop:=∀b,H b=none\/∃o xs,H b=some (.frz o (.lst xs))
abbrev KOf{K:Fg}{h:Heap}(_:K.In h):Fg:=K
def zab(s:Stmt)(j:Nat):Stmt:=match s with
 | .ClassDef _ _ _ body _ _ _ _ _ _ _=>body.getD j (.Pass ⟨0,0,0,0⟩)
 | _=>.Pass ⟨0,0,0,0⟩
def zD(s:Stmt):Arguments:=match s with
 | .FunctionDef _ a _ _ _ _ _ _ _ _=>a
 | _=>{ posonlyargs:=[],args:=[],vararg:=none,kwonlyargs:=[],kw_defaults:=[],kwarg:=none,defaults:=[] }
def zv(s:Stmt):List Stmt:=match s with
 | .FunctionDef _ _ b _ _ _ _ _ _ _=>b
 | _=>[]
def ze(s:Stmt):Scope:=match s with
 | .FunctionDef _ _ _ _ _ _ sc _ _ _=>sc
 | _=>{ kind:=.function,names:=[],isGenerator:=false,isCoroutine:=false }
abbrev CX0:CXT:=fun _ _ _ _ _ _=>False
abbrev E0:XK:=fun _ _ _=>False
set_option genInjectivity false in
set_option genSizeOf false in
structure Fun(K:Fg)(x qual:Str)(st:Stmt)(f:Addr)(fd:FuncData):Prop where
 ex:∃(oc:Value) (od:Option Addr) (kV doc pm:Value) (an:Option Addr) (cdv ct:Value) (osl:Array (Option Value)),
  fd=PySem.W.fnOf x qual (zD st) (zv st) (ze st) .none kV doc pm an cdv ct/\K.lookup f=some ⟨oc,od,.func fd,osl⟩/\PySem.W.codeIn K cdv qual=true
 kp:PySem.W.keepIn K (.ref f)=true
section
variable {P:Program}{w:World}{K:Fg}{mg:Str->Option Value}{base:Heap}
theorem Fun.binds{x qual:Str}{st:Stmt}{f:Addr}{fd:FuncData}{ps:List Str}(F:Fun K x qual st f fd)
  (h:∀(kV doc pm:Value) (an:Option Addr) (cdv ct:Value) (us:List Value),us.length=ps.length->bindArgs (PySem.W.fnOf x qual (zD st) (zv st) (ze st) .none kV doc pm an cdv ct) ⟨us,[]⟩=pure (ps.zip us)):Binds K fd ps []:=by
 obtain⟨oc,od,kV,doc,pm,an,cdv,ct,osl,rfl,lk,hcd⟩:=F.ex
 exact .all (h kV doc pm an cdv ct)
theorem zk{x qual:Str}{st:Stmt}{f:Addr}{oc:Value}{od an:Option Addr}{osl:Array (Option Value)}{kV doc pm cdv ct:Value}(l:K.lookup f=some ⟨oc,od,.func (PySem.W.fnOf x qual (zD st) (zv st) (ze st) .none kV doc pm an cdv ct),osl⟩)
  (c:PySem.W.codeIn K cdv qual=true) (k:PySem.W.keepIn K (.ref f)=true):Fun K x qual st f (PySem.W.fnOf x qual (zD st) (zv st) (ze st) .none kV doc pm an cdv ct):=⟨⟨oc,od,kV,doc,pm,an,cdv,ct,osl,rfl,l,c⟩,k⟩
end
section
variable {X:Cx}
theorem pv(i:Nat){x:Str}{pos:Pos}(hN:autoParam (X.N[i]?=some x) Internal.aut2._auto_1)(hv:Vis X.env.scope x:=by first | exact Or.inl rfl | exact Or.inr (Or.inl rfl) | exact Or.inr (Or.inr rfl))(hd:autoParam ((x == ("__debug__" : Str))=false) Internal.aut1._auto_1)
  (hcd:autoParam ((x == ("__classdict__" : Str))=false) Internal.aut1._auto_1):PE X (.Name x pos) (zhX i):=zmS hN hv hd hcd
end
def Same(H H':Hp):Prop:=∀b o,H b=some o->H' b=some o
theorem Same.refl(H:Hp):Same H H:=fun _ _ h=>h
theorem Same.trans{H H1 H2:Hp}(a:Same H H1)(b:Same H1 H2):Same H H2:=fun c o h=>b c o (a c o h)
theorem Same.seq{K:Fg}{H H':Hp}{a:Addr}{xs:List V}(e:Same H H')(h:SqL K H a xs):SqL K H' a xs:=by
 rcases h with(h | ⟨o,h⟩) | h
 ·exact .inl (.inl (e _ _ h))
 ·exact .inl (.inr ⟨o,e _ _ h⟩)
 ·exact .inr h
namespace BT
theorem abs:bootBuiltins "abs" = some (.builtin "abs"):=by decide +kernel
theorem len:bootBuiltins "len" = some (.builtin "len"):=by decide +kernel
theorem max:bootBuiltins "max" = some (.builtin "max"):=by decide +kernel
theorem min:bootBuiltins "min" = some (.builtin "min"):=by decide +kernel
theorem sum:bootBuiltins "sum" = some (.builtin "sum"):=by decide +kernel
theorem sorted:bootBuiltins "sorted" = some (.builtin "sorted"):=by decide +kernel
theorem isinstance:bootBuiltins "isinstance" = some (.builtin "isinstance"):=by decide +kernel
theorem int:bootBuiltins "int" = some (.type "int"):=by decide +kernel
theorem bool:bootBuiltins "bool" = some (.type "bool"):=by decide +kernel
theorem list:bootBuiltins "list" = some (.type "list"):=by decide +kernel
theorem tuple:bootBuiltins "tuple" = some (.type "tuple"):=by decide +kernel
theorem ValueError:bootBuiltins "ValueError" = some (.type "ValueError"):=by decide +kernel
end BT
def sz(i:Int):Nat:=Builtin.Int.intBits i
theorem sz_le{i:Int}{n:Nat}:sz i<=n↔i.natAbs<2 ^ n:=by
 unfold sz Builtin.Int.intBits
 by_cases h:i=0
 ·subst h;simp;exact Nat.two_pow_pos n
 ·have h':(i == 0)=false:=by simp[h]
  rw[h',if_neg (by decide)]
  have hn:i.natAbs≠0:=by omega
  rw[<- Nat.log2_lt hn];omega
theorem znI(i:Int):i.natAbs<2 ^ sz i:=sz_le.mp (yg _)
theorem ze5{i j:Int}(h:i.natAbs<=j.natAbs):sz i<=sz j:=sz_le.mpr (yD h (znI j))
theorem zmF(i:Int):sz (-i)<=sz i:=ze5 (by omega)
theorem zfa(i j:Int):(i/j).natAbs<=i.natAbs:=Int.natAbs_ediv_le_natAbs i j
theorem zjx(i j:Int):sz (i/j)<=sz i:=ze5 (zfa i j)
theorem zb3{i:Int}{n:Nat}(h:i.natAbs<2 ^ n):sz i<=n:=sz_le.mpr h
theorem sz200{i:Int}(h1:-1606938044258990275541962092341162602522202993782792835301376<i)(h2:i<1606938044258990275541962092341162602522202993782792835301376):sz i<=200:=zb3 (by
 have:(2:Nat) ^ 200=1606938044258990275541962092341162602522202993782792835301376:=by decide
 omega)
section
variable {X:Cx}
def CMulS(i j:Int):Prop:=sz i+sz j<=134217728
theorem CMulS.ok{i j:Int}(h:CMulS i j):IntMulOk i j:=by
 unfold IntMulOk
 have e:Builtin.Int.intTooBig (((Builtin.Int.intBits i:Nat):Int)+((Builtin.Int.intBits j:Nat):Int))=false:=by
  unfold Builtin.Int.intTooBig
  have hb:bitsLine=134217728:=by decide
  rw[decide_eq_false]
  rw[hb]
  unfold CMulS sz at h
  omega
 rw[e];simp
theorem CMulS.of{i j:Int}{n m:Nat}(h1:sz i<=n)(h2:sz j<=m)(h:n+m<=134217728):CMulS i j:=by unfold CMulS;omega
theorem op_mulS:OpR X (binaryOp .Mult) (rI CMulS fun i j=>.int (i*j)):=opI fun _ _ _ _ _ _ _ hc q=>mul_int q hc.ok
def zdR:R2:=fun x y H Q=>rI CMulS (fun i j=>.int (i*j)) x y H Q\/zmv x y H Q
theorem zaO:OpR X (binaryOp .Mult) zdR:=op_mulS.or znv
def zJ(K:Fg):R2:=fun x y H Q=>rI0 (fun i j=>.int (i+j)) x y H Q\/zmu x y H Q\/zkV K x y H Q
theorem zC:OpR X (binaryOp .Add) (zJ X.K):=op_add.or (op_cat.or zl4)
def znO(i j:Int):Prop:=j≠0/\(sz j<=9000\/sz i<=sz j+4500)
def zf2:R2:=rI znO fun i j=>.int (i.fdiv j)
theorem ziV{j:Int}(h:j≠0):sz j=j.natAbs.log2+1:=by
 have h0:j.natAbs≠0:=by omega
 have h1:sz j<=j.natAbs.log2+1:=sz_le.mpr (Nat.lt_log2_self)
 have h2:¬sz j<=j.natAbs.log2:=fun z=>by
  have:=sz_le.mp z
  have:=Nat.log2_self_le h0
  omega
 omega
theorem zfR{i j:Int}(hj:j≠0)(h:sz i<=sz j+4500):Builtin.divisionGoesByPylong i j=false:=by
 have hy:(j == 0)=false:=by simpa using hj
 have key:(if i == 0 then 0 else i.natAbs.log2/30+1)<=(if j == 0 then 0 else j.natAbs.log2/30+1)+150:=by
  rw[hy]
  by_cases hi:i=0
  ·have:(i == 0)=true:=by simpa using hi
   rw[this]
   exact yT _
  ·have hx:(i == 0)=false:=by simpa using hi
   rw[hx]
   rw[ziV hi,ziV hj]at h
   show i.natAbs.log2/30+1<=j.natAbs.log2/30+1+150
   omega
 show(decide (_>300)&&decide ((if i == 0 then 0 else i.natAbs.log2/30+1)>(if j == 0 then 0 else j.natAbs.log2/30+1)+150))=false
 rw[decide_eq_false (yaC.mpr key),Bool.and_false]
theorem zdV:OpR X (binaryOp .FloorDiv) zf2:=opI fun i j _ _ _ _ _ hc q=>floordiv_int hc.1 q (.inl (hc.2.elim (fun h=>PyProof.noPylong_of_log2 (by
 have h1:=sz_le.mp h
 by_cases h0:j.natAbs=0
 ·rw[h0];decide
 ·exact(Nat.log2_lt h0).mpr h1)) (zfR hc.1)))
def zij:R2:=rI (fun _ j=>j≠0) fun i j=>.int (i.fmod j)
theorem zbY:OpR X (binaryOp .Mod) zij:=zlA
mutual
inductive RepD(K:Fg)(H:Hp):V->PyData->Prop
 | non:RepD K H .non .none
 | bl (b:Bool):RepD K H (.bl b) (.bool b)
 | int (i:Int):RepD K H (.int i) (.int i)
 | str (x:Str) (ok:PyData.canLay0 (.str x)=true):RepD K H (.str x) (.str x)
 | lst {a:Addr} {vs:List V} {ds:List PyData}:SqL K H a vs->RepAll K H vs ds->RepD K H (.ref a) (.list ds)
 | tup {a:Addr} {vs:List V} {ds:List PyData}:SqT K H a vs->RepAll K H vs ds->RepD K H (.ref a) (.tuple ds)
inductive RepAll(K:Fg)(H:Hp):List V->List PyData->Prop
 | nil:RepAll K H [] []
 | cons {v:V} {d:PyData} {vs:List V} {ds:List PyData}:RepD K H v d->RepAll K H vs ds->RepAll K H (v :: vs) (d :: ds)
end
mutual
theorem RepD.reads{pins:List (Addr × Obj)}{σ:St}{H:Hp}{s:Shared}(I:Inv X pins σ H s):∀{v:V} {d:PyData} {u:Value},RepD X.K H v d->RelV v u->∃as,Reads s.heap u d as
 | _,_,_,.non,r=>by cases(show _=Value.none from r);exact⟨_,.none⟩
 | _,_,_,.bl b,r=>by cases(show _=Value.bool b from r);exact⟨_,.bool b⟩
 | _,_,_,.int i,r=>by obtain⟨t,rfl⟩:=(show ∃t,_=Value.int i t from r);exact⟨_,.int i t⟩
 | _,_,_,.str x _,r=>by obtain⟨t,rfl⟩:=(show ∃t,_=Value.str x t from r);exact⟨_,.str x t⟩
 | _,_,_,.lst h k,r=>by
  cases(show _=Value.ref _ from r)
  obtain⟨its,rv,⟨o,n,h1,h2,_,h3⟩,_⟩:=I.list h
  obtain⟨as,q⟩:=RepAll.reads I k rv
  exact⟨_,.list h1 h2 h3 (by simpa using q)⟩
 | _,_,_,.tup h k,r=>by
  cases(show _=Value.ref _ from r)
  obtain⟨its,rv,⟨o,h1,h2,n,h3⟩,_⟩:=I.tuple h
  obtain⟨as,q⟩:=RepAll.reads I k rv
  exact⟨_,.tuple h1 h2 h3 (by simpa using q)⟩
theorem RepAll.reads{pins:List (Addr × Obj)}{σ:St}{H:Hp}{s:Shared}(I:Inv X pins σ H s):∀{vs:List V} {ds:List PyData} {us:List Value},RepAll X.K H vs ds->Vals vs us->∃as,ReadsAll s.heap us ds as
 | _,_,_,.nil,.nil=>⟨_,.nil⟩
 | _,_,_,.cons h k,.cons r t=>by
  obtain⟨as,q⟩:=RepD.reads I h r
  obtain⟨bs,p⟩:=RepAll.reads I k t
  exact⟨_,.cons q p⟩
end
mutual
theorem RepD.lay{K:Fg}{H:Hp}:∀{v:V} {d:PyData},RepD K H v d->d.canLay0=true
 | _,_,.non=>rfl
 | _,_,.bl _=>rfl
 | _,_,.int _=>rfl
 | _,_,.str _ ok=>ok
 | _,_,.lst _ k=>by rw[PyData.canLay0];exact RepAll.lay k
 | _,_,.tup _ k=>by rw[PyData.canLay0];exact RepAll.lay k
theorem RepAll.lay{K:Fg}{H:Hp}:∀{vs:List V} {ds:List PyData},RepAll K H vs ds->PyData.canLayAll0 ds=true
 | _,_,.nil=>rfl
 | _,_,.cons h k=>by rw[PyData.canLayAll0,RepD.lay h,RepAll.lay k];rfl
end
theorem Same.seqT{K:Fg}{H H':Hp}{a:Addr}{xs:List V}(e:Same H H')(h:SqT K H a xs):SqT K H' a xs:=by
 rcases h with(h | ⟨o,h⟩) | h
 ·exact .inl (.inl (e _ _ h))
 ·exact .inl (.inr ⟨o,e _ _ h⟩)
 ·exact .inr h
mutual
theorem Same.rep{K:Fg}{H H':Hp}(e:Same H H'):∀{v:V} {d:PyData},RepD K H v d->RepD K H' v d
 | _,_,.non=>.non
 | _,_,.bl b=>.bl b
 | _,_,.int i=>.int i
 | _,_,.str x ok=>.str x ok
 | _,_,.lst h k=>.lst (e.seq h) (e.repAll k)
 | _,_,.tup h k=>.tup (e.seqT h) (e.repAll k)
theorem Same.repAll{K:Fg}{H H':Hp}(e:Same H H'):∀{vs:List V} {ds:List PyData},RepAll K H vs ds->RepAll K H' vs ds
 | _,_,.nil=>.nil
 | _,_,.cons h k=>.cons (e.rep h) (e.repAll k)
end
def z3(K:Fg):R2:=fun x y H Q=>(∃d e,RepD K H x d/\RepD K H y e/\min d.depth e.depth<=60/\Q (.bl (PyData.eqv d e)) H)\/rEq x y H Q
def zb6(K:Fg):R2:=fun x y H Q=>(∃d e,RepD K H x d/\RepD K H y e/\min d.depth e.depth<=60/\Q (.bl (!PyData.eqv d e)) H)\/rNe x y H Q
theorem zV(hu:X.A.units+64<cLine):OpR X (compareOp .Eq) (z3 X.K):=by
 refine OpR.or ?_ znY
 intro pins s σ H x y v u Q I rx ry h
 obtain⟨d,e,h1,h2,hd,q⟩:=h
 obtain⟨as,r1⟩:=h1.reads I rx
 obtain⟨bs,r2⟩:=h2.reads I ry
 exact PySem.SeqAt.compareEq_reads r1 r2 h1.lay h2.lay (by omega) ⟨.bl _,H,I,rfl,q⟩
theorem zcs(hu:X.A.units+64<cLine):OpR X (compareOp .NotEq) (zb6 X.K):=by
 refine OpR.or ?_ znQ
 intro pins s σ H x y v u Q I rx ry h
 obtain⟨d,e,h1,h2,hd,q⟩:=h
 obtain⟨as,r1⟩:=h1.reads I rx
 obtain⟨bs,r2⟩:=h2.reads I ry
 exact PySem.SeqAt.compareNe_reads r1 r2 h1.lay h2.lay (by omega) ⟨.bl _,H,I,rfl,q⟩
def zdx(K:Fg):List V->Hp->VK->Prop:=fun xs H Q=>∃x c t b cv,xs=[x,c]/\RelV c cv/\TyOf K H x t/\PySem.W.kitOne K t cv=some b/\Q (.bl b) H
theorem zg2:CallR X (.builtin "isinstance") (zdx X.K):=by
 intro pins s σ H xs us Q I r h
 obtain⟨x,c,t,b,cv,rfl,rc,ty,e,q⟩:=h
 obtain⟨u,w',rfl,r1,r2⟩:=vals2 r
 have ec:w'=cv:=by
  cases c with
  | ty n=>exact(show w'=_ from r2).trans (show cv=_ from rc).symm
  | ref a=>exact(show w'=_ from r2).trans (show cv=_ from rc).symm
  | non=>exact(show w'=_ from r2).trans (show cv=_ from rc).symm
  | bl b=>exact(show w'=_ from r2).trans (show cv=_ from rc).symm
  | _=>obtain⟨_,rfl⟩:=rc;simp[PySem.W.kitOne,PySem.W.kitCls]at e;cases ty<;>simp at e
 subst ec
 exact zjc I r1 ty e fun tk=>⟨.bl b,H,I.tok tk,rfl,q⟩
def zhA(K:Fg)(ta:TE):TE:=fun σ H Q=>ta σ H fun x H1=>∃k,ze7 K x H1 k/\Q (.bl (!k)) H1
theorem zlt{a:Expr}{ta:TE}{pos:Pos}(ha:PE X a ta):PE X (.UnaryOp .Not a pos) (zhA X.K ta):=by
 intro pins s σ H Q I h
 refine UnaryOp_ (thn (ha pins s σ H _ I h) fun v s1 zz=>?_)
 obtain⟨x,H1,I1,r1,k,hk,q1⟩:=zz
 exact not_of (thn (ziX pins s1 σ H1 x v (fun c H2=>Q (.bl (!c)) H2) I1 r1 ⟨k,hk,q1⟩) fun c s2 ⟨H2,I2,q2⟩=>⟨.bl (!c),H2,I2,rfl,q2⟩)
end
def znd:List V->Hp->VK->Prop:=fun xs H Q=>∃i,xs=[.int i]/\Q (.int (if i<0 then -i else i)) H
def zam(K:Fg):List V->Hp->VK->Prop:=fun xs H Q=>∃p ys,xs=[.ref p]/\(SqL K H p ys\/SqT K H p ys)/\Q (.int ys.length) H
def zkW:List V->Hp->VK->Prop:=fun xs H Q=>∃i j,xs=[.int i,.int j]/\Q (.int (if j>i then j else i)) H
def zkY:List V->Hp->VK->Prop:=fun xs H Q=>∃i j,xs=[.int i,.int j]/\Q (.int (if j<i then j else i)) H
def zcl(K:Fg):List V->Hp->VK->Prop:=fun xs H Q=>∃p ys,xs=[.ref p]/\(SqL K H p ys\/SqT K H p ys)/\∀l,H l=none->Q (.ref l) (upd H l (.lst ys))
def zet(K:Fg):List V->Hp->VK->Prop:=fun xs H Q=>∃p ys,xs=[.ref p]/\((SqL K H p ys/\∀l,H l=none->Q (.ref l) (upd H l (.tup ys)))\/(SqT K H p ys/\Q (.ref p) H))
section
variable {X:Cx}
theorem zfz:CallR X (.builtin "abs") znd:=zjz
theorem zN:CallR X (.builtin "len") (zam X.K):=zgd
theorem zcJ(hc:X.calm=true):CallR X (.builtin "max") zkW:=zjr hc
theorem ziH(hc:X.calm=true):CallR X (.builtin "min") zkY:=zi3 hc
theorem zdh:CallR X (.type "list") (zcl X.K):=zgu
theorem zgZ:CallR X (.type "tuple") (zet X.K):=zfK
abbrev zbN(K:Fg)(ta:TE):TT:=fun σ H Q=>ta σ H fun x H'=>∃k,ze7 K x H' k/\Q k H'
theorem zZ{a:Expr}{ta:TE}(ha:PE X a ta)(he:∀whole,isTrue a X.env whole=(do let v <- whole;standAt a.pos;holding [v] (truthy v))):PT X a (zbN X.K ta):=zj5 ha he
end
def zkg(t u:TS):TS:=fun D σ H=>∃M:St->Hp->Prop,t { D with nx:=M } σ H/\∀σ' H',M σ' H'->u D σ' H'
theorem zaS{X:Cx}{st:Stmt}{rest:List Stmt}{t u:TS}(h1:PS X st t)(h2:PSs X rest u):PSs X (st :: rest) (zkg t u):=by
 intro pins s σ H D I h
 obtain⟨M,ht,hM⟩:=h
 refine wpAny_execs_cons (thn (h1 pins s σ H _ I ht) fun f s1 q=>?_)
 cases f with
 | next=>
  obtain⟨σ',H',I',q'⟩:=q
  exact h2 pins s1 σ' H' D I' (hM σ' H' q')
 | brk=>exact q
 | cont=>exact q
 | ret u=>exact q
def NoX(CX:CXT):Prop:=∀(outer:List Env) (H:Hp) (s:Shared) (e:Value) (s':Shared),CX outer H s E0 e s'->False
theorem zy{CX:CXT}{X:Cx}(h:NoX CX):zcX CX X E0:=fun _ _ H s e s' _ q=>(h _ H s e s' q).elim
theorem Fun.okN{P:Program}{w:World}{K:Fg}{mg:Str->Option Value}{base:Heap}{CX:CXT}{x qual:Str}{st:Stmt}{f:Addr}{fd:FuncData}{N ps:List Str}{k:Nat}{sp:Sp}(F:Fun K x qual st f fd)(S:FnScope N ps (ze st))(len:∀vs H Q E,sp vs H Q E->vs.length=ps.length)
  (hbody:∀(cdv:Value) (A:Around) (outer:List Env) (s:Shared) (H:Hp) (vs:List V) (Q:VK) (E:XK),Room k (A.deeper (envOfC qual (ze st) s.heap.objs.size f cdv))->sp vs H Q E ->
   ∃t,PSs (zaJ CX P w K mg base N qual (ze st) f cdv A outer s H E).nox (zv st) t/\t { nx:=fun _ H'=>Q .non H',rt:=Q } (start N vs) H):FnOk P w K mg base CX (k+1) f fd ps sp:=by
 obtain⟨oc,od,kV,doc,pm,an,cdv,ct,osl,rfl,lk,hcd⟩:=F.ex
 refine zia lk hcd S len fun A outer s H vs Q E hr hsp=>?_
 obtain⟨t,h,q⟩:=hbody cdv A outer s H vs Q E hr hsp
 exact⟨t,h.nox,q⟩
section
variable {σ:St}{H:Hp}{Q:VK}{D:Ends}{ta tb tc te:TE}{t u:TS}{K:Fg}
theorem zn2{i:Nat}{v:V}(e:σ[i]?=some (some v))(q:Q v H):zhX i σ H Q:=⟨v,e,q⟩
theorem x_c{v:V}(q:Q v H):tC v σ H Q:=q
theorem zoq{g:Int->Int->V}{i j:Int}(q:Q (g i j) H):rI0 g (.int i) (.int j) H Q:=⟨i,j,rfl,rfl,q⟩
theorem zod{i j:Int}(q:Q (.int (i+j)) H):zJ K (.int i) (.int j) H Q:=.inl ⟨i,j,rfl,rfl,q⟩
theorem zik{i j:Int}(c:CMulS i j)(q:Q (.int (i*j)) H):zdR (.int i) (.int j) H Q:=.inl ⟨i,j,rfl,rfl,c,q⟩
theorem znH{i j:Int}(h0:0<j)(hs:sz j<=9000)(q:Q (.int (i/j)) H):zf2 (.int i) (.int j) H Q:=
 ⟨i,j,rfl,rfl,⟨by omega,.inl hs⟩,by show Q (.int (i.fdiv j)) H;rw[Int.fdiv_eq_ediv_of_nonneg _ (yak h0)];exact q⟩
theorem ziI{i j:Int}(h0:j≠0)(hs:sz j<=9000)(q:Q (.int (i.fdiv j)) H):zf2 (.int i) (.int j) H Q:=⟨i,j,rfl,rfl,⟨h0,.inl hs⟩,q⟩
theorem znJ{i j:Int}(h0:0<j)(q:Q (.int (i%j)) H):zij (.int i) (.int j) H Q:=
 ⟨i,j,rfl,rfl,by omega,by show Q (.int (i.fmod j)) H;rw[Int.fmod_eq_emod_of_nonneg _ (yak h0)];exact q⟩
theorem znT{i j k:Int}(c:zii i j)(e:i ^ j.toNat=k)(q:Q (.int k) H):rI zii (fun i j=>.int (i ^ j.toNat)) (.int i) (.int j) H Q:=⟨i,j,rfl,rfl,c,by show Q (.int (i ^ j.toNat)) H;rw[e];exact q⟩
theorem zob{i:Int}(q:Q (.int (-i)) H):rU (fun i=>.int (-i)) (.int i) H Q:=⟨i,rfl,q⟩
theorem dI{i j:Int}:decide (V.int i=V.int j)=decide (i=j):=by simp
theorem zof{i j:Int}(q:Q (.bl (decide (i=j))) H):z3 K (.int i) (.int j) H Q:=.inr ⟨rfl,by rw[dI];exact q⟩
theorem zn0{i j:Int}(q:Q (.bl (!decide (i=j))) H):zb6 K (.int i) (.int j) H Q:=.inr ⟨rfl,by rw[dI];exact q⟩
theorem zic{x y:V}{d e:PyData}(h1:RepD K H x d)(h2:RepD K H y e)(hd:min d.depth e.depth<=60)(q:Q (.bl (PyData.eqv d e)) H):z3 K x y H Q:=.inl ⟨d,e,h1,h2,hd,q⟩
theorem zh0{x y:V}{d e:PyData}(h1:RepD K H x d)(h2:RepD K H y e)(hd:min d.depth e.depth<=60)(q:Q (.bl (!PyData.eqv d e)) H):zb6 K x y H Q:=.inl ⟨d,e,h1,h2,hd,q⟩
theorem zhD{a:Addr}{xs:List V}{i:Int}{v:V}(h:SqL K H a xs)(e:atI xs i=some v)(q:Q v H):rIx K (.ref a) (.int i) H Q:=.inl ⟨a,xs,i,v,rfl,rfl,h,e,q⟩
theorem zn7{a:Addr}{xs:List V}{i:Int}{v:V}(h:SqT K H a xs)(e:atI xs i=some v)(q:Q v H):rIx K (.ref a) (.int i) H Q:=.inr (.inl ⟨a,xs,i,v,rfl,rfl,h,e,q⟩)
theorem zoo{T:Bool->Prop}{b:Bool}(q:T b):∃k,V.bl b=.bl k/\T k:=⟨b,rfl,q⟩
theorem zml{T:Bool->Prop}{b:Bool}(q:T b):∃k,ze7 K (.bl b) H k/\T k:=⟨b,rfl,q⟩
theorem zmm(q:ta σ H fun x H1=>∃c,x=.bl c/\if c=true then tb σ H1 Q else Q (.bl false) H1):zk6 ta tb σ H Q:=q
theorem zmB(q:ta σ H fun x H1=>∃k,ze7 K x H1 k/\Q (.bl (!k)) H1):zhA K ta σ H Q:=q
theorem znW{p:Prop}[Decidable p]{A B:Prop}(h1:p->A)(h2:¬p->B):if decide p=true then A else B:=by
 by_cases h:p
 ·rw[if_pos (decide_eq_true h)];exact h1 h
 ·rw[if_neg (by rw[decide_eq_false h];exact yk)];exact h2 h
theorem zmQ{p:Prop}[Decidable p]{A B:Prop}(h1:¬p->A)(h2:p->B):if(!decide p)=true then A else B:=by
 by_cases h:p
 ·rw[if_neg (by rw[decide_eq_true h];exact yk)];exact h2 h
 ·rw[if_pos (by rw[decide_eq_false h];rfl)];exact h1 h
theorem zdJ{A B:Prop}(h:A):if true=true then A else B:=by rw[if_pos rfl];exact h
theorem zeF{A B:Prop}(h:B):if false=true then A else B:=by rw[if_neg yk];exact h
theorem zlT{A B:Prop}(h:B):if(!true)=true then A else B:=zeF h
theorem zly{A B:Prop}(h:A):if(!false)=true then A else B:=zdJ h
theorem zb0(M:St->Hp->Prop)(q:t { D with nx:=M } σ H)(r:∀σ' H',M σ' H'->u D σ' H'):zkg t u D σ H:=⟨M,q,r⟩
theorem zn6(q:te σ H D.rt):zmP te D σ H:=q
theorem zP{R:List V->Hp->Prop}(q:R [] H):zfl σ H R:=q
theorem zmC{sp:Sp}{E:XK}{tr:TA}(q:tr σ H fun vs H1=>sp vs H1 Q E):zeN sp [] E tr σ H Q:=by unfold zeN;simp only[yQ];exact q
def zdI(Q:VK)(xs:List V)(H:Hp):Prop:=xs.length<=sizeLine/\∀p,H p=none->Q (.ref p) (upd H p (.tup xs))
def zkd(Q:VK)(xs:List V)(H:Hp):Prop:=xs.length<=sizeLine/\∀p,H p=none->Q (.ref p) (upd H p (.lst xs))
theorem znE{tr:TA}(q:tr σ H (zdI Q)):zni tr σ H Q:=q
theorem znG{tr:TA}(q:tr σ H (zkd Q)):zm2 tr σ H Q:=q
theorem zn5{i:Int}(q:Q (.int (if i<0 then -i else i)) H):znd [.int i] H Q:=⟨i,rfl,q⟩
theorem zm3{a:Addr}{xs:List V}(h:SqL K H a xs)(q:Q (.int xs.length) H):zam K [.ref a] H Q:=⟨a,xs,rfl,.inl h,q⟩
theorem zmh{a:Addr}{xs:List V}(h:SqT K H a xs)(q:Q (.int xs.length) H):zam K [.ref a] H Q:=⟨a,xs,rfl,.inr h,q⟩
theorem znK{i j:Int}(q:Q (.int (if j>i then j else i)) H):zkW [.int i,.int j] H Q:=⟨i,j,rfl,q⟩
theorem zog{i j:Int}(q:Q (.int (if j<i then j else i)) H):zkY [.int i,.int j] H Q:=⟨i,j,rfl,q⟩
theorem zF{N:List Str}{vs:List V}{σ0:St}(e:start N vs=σ0)(q:t D σ0 H):t D (start N vs) H:=by rw[e];exact q
theorem zh1{x c:V}{t' cv:Value}{b:Bool}(rc:RelV c cv)(ty:TyOf K H x t')(e:PySem.W.kitOne K t' cv=some b)(q:Q (.bl b) H):zdx K [x,c] H Q:=⟨x,c,t',b,cv,rfl,rc,ty,e,q⟩
end
theorem Same.new{H:Hp}{p:Addr}(h:H p=none)(o:HO):Same H (upd H p o):=fun b u q=>by rw[zK (zG q h)];exact q
open PySem PySem.Spec PyProof.Rows
theorem zfm{env:Env}{scope:Scope}(h:∀y∈scope.names,y.2=.free->∃c,env.cells.lookup y.1=some c) :
  ∃cl,closureFor scope env=pure cl/\(∀x c,cl.lookup x=some c->env.cells.lookup x=some c)/\∀y∈scope.names,y.2=.free->cl.lookup y.1=env.cells.lookup y.1:=by
 unfold closureFor
 have key:∀(names:List (Str × NameKind)) (acc:List (Str × Addr)),(∀y∈names,y.2=.free->∃c,env.cells.lookup y.1=some c)->(∀x c,acc.lookup x=some c->env.cells.lookup x=some c) ->
   ∃cl,(forIn (m:=Sem) names acc fun(x:Str × NameKind) r=>if(x.2 == .free)=true then(do let a <- cellOf env x.1;pure (ForInStep.yield ((x.1,a) :: r)))else pure (ForInStep.yield r))=pure cl /\
    (∀x c,cl.lookup x=some c->env.cells.lookup x=some c)/\(∀y∈names,y.2=.free->cl.lookup y.1=env.cells.lookup y.1)/\(∀x,(∃c,acc.lookup x=some c)->cl.lookup x=env.cells.lookup x):=by
  intro names
  induction names with
  | nil=>intro acc _ ha;exact⟨acc,rfl,ha,fun _ hy=>(nomatch hy),fun x ⟨c,e⟩=>by rw[e,ha x c e]⟩
  | cons y r ih=>
   intro acc hn ha
   obtain⟨n,k⟩:=y
   have hr:∀y∈r,y.2=.free->∃c,env.cells.lookup y.1=some c:=fun y hy=>hn y (yE _ hy)
   by_cases hk:k=.free
   ·subst hk
    obtain⟨c,hc⟩:=hn (n,.free) yV rfl
    have ha':∀x c',List.lookup x ((n,c) :: acc)=some c'->env.cells.lookup x=some c':=fun x c' e=>by
     rw[yt]at e
     cases hb:x == n with
     | true=>rw[hb]at e;cases e;rw[beq_iff_eq.mp hb];exact hc
     | false=>rw[hb]at e;exact ha x c' e
    obtain⟨cl,e,h1,h2,h3⟩:=ih ((n,c) :: acc) hr ha'
    refine⟨cl,?_,h1,fun y hy hf=>?_,fun x hx=>?_⟩
    ·rw[yaR]
     simp only[cellOf,hc,beq_self_eq_true,if_true]
     exact e
    ·rcases yf.mp hy with rfl | hy
     ·exact h3 n ⟨c,by rw[yt];simp⟩
     ·exact h2 y hy hf
    ·refine h3 x ?_
     obtain⟨c',e'⟩:=hx
     rw[yt]
     cases hb:x == n with
     | true=>exact⟨c,rfl⟩
     | false=>exact⟨c',e'⟩
   ·obtain⟨cl,e,h1,h2,h3⟩:=ih acc hr ha
    refine⟨cl,?_,h1,fun y hy hf=>?_,h3⟩
    ·rw[yaR]
     have hb:(k == NameKind.free)=false:=by simpa using hk
     simp only[hb,yar,if_false]
     exact e
    ·rcases yf.mp hy with rfl | hy
     ·exact absurd hf hk
     ·exact h2 y hy hf
 obtain⟨cl,e,h1,h2,_⟩:=key scope.names [] h (fun _ _ z=>by simp at z)
 refine⟨cl,?_,h1,h2⟩
 show(forIn scope.names [] _ >>= fun r=>pure r)=pure cl
 have e':(forIn (m:=Sem) scope.names [] fun(x:Str × NameKind) (r:List (Str × Addr))=>match x with | (name,kind)=>if(kind == .free)=true then(do let a <- cellOf env name;pure (ForInStep.yield ((name,a) :: r)))else pure (ForInStep.yield r))=pure cl:=e
 first
  | (rw[e'];rfl)
  | (simp only[e'];rfl)
theorem zb8:∀(names:List (Str × NameKind)) (n:Nat) (acc:List (Str × Addr)),cellsFrom n names acc=cellsFrom n names []++acc
 | [],_,_=>rfl
 | (name,kind) :: r,n,acc=>by
  unfold cellsFrom
  split
  ·rw[zb8 r (n+1) ((name,n) :: acc),zb8 r (n+1) [(name,n)],yaK];rfl
  ·exact zb8 r n acc
theorem zct{α:Type}{x:Str}:∀{l r:List (Str × α)},(l++r).lookup x=match l.lookup x with | some c=>some c | none=>r.lookup x
 | [],_=>rfl
 | (k,v) :: l,r=>by
  rw[List.cons_append,yt,yt]
  cases x == k with
  | true=>rfl
  | false=>exact zct (l:=l)
def zlz(scope:Scope)(cs:List (Str × Addr))(C:Addr)(env:Env):Env:=
 { scope:=relabel scope env,locals:=C,globals:=env.globals,cells:=cs,qual:=env.qual,func:=none,code:=env.code,frame:=env.frame,builtins:=env.builtins }
theorem zfU{M:Model}{A:Around}{E:Value->Shared->Prop}{s:Shared}{scope:Scope}{globals:Addr}{cl:List (Str × Addr)}{qual:Str}{env:Env}{Q:Env->Shared->Prop}
  (hQ:∀(own:List (Str × Addr)) (s':Shared),own=cellsFrom (s.heap.objs.size+1) scope.names []->s'={ s with heap:=s'.heap }->(∀b o,s.heap.get? b=some o->s'.heap.get? b=some o) ->
   s'.heap.Ns s.heap.objs.size (fun _=>none)->(∀n c,(n,c)∈own->s'.heap.IsCell c none/\s.heap.objs.size+1<=c)->(own.Pairwise fun x y=>x.2≠y.2) ->
   Q { scope:=scope,locals:=s.heap.objs.size,globals:=globals,cells:=own++cl,qual:=qual,func:=none,code:=env.code,frame:=env.frame,builtins:=env.builtins } s') :
  wpAny M A (newFunctionEnv scope globals cl [] qual none .none (some env)) Q E s:=by
 simp only[newFunctionEnv,Option.isSome_some,if_true]
 refine wpAny_bind (wpAny_alloc ?_)
 refine wpAny_bind (wpAny_layCells _ (fun name kind cells=>by cases hkc:kind == NameKind.cell<;>simp[hkc]) _ _ _ _ ?_)
 have ok:=cellsFrom_ok scope.names (s.heap.push { cls:=.type "dict",data:=.dict #[] }) (s.heap.objs.size+1) [] ⟨fun _ _ hm=>(nomatch hm),List.Pairwise.nil⟩ (by rw[Heap.size_push];exact yg _)
 rw[Heap.size_push]at ok
 rw[show({ s with heap:=s.heap.push { cls:=.type "dict",data:=.dict #[] } }:Shared).heap.objs.size=s.heap.objs.size+1 from Heap.size_push ..]
 rw[zb8]
 have fin:=hQ _ { s with heap:=pushCells (s.heap.push { cls:=.type "dict",data:=.dict #[] }) scope.names } rfl rfl (fun b o e=>pushCells_keeps _ _ b o (Heap.get?_push_of_some _ e))
  ((Heap.Ns.new s.heap (.type "dict")).keeps (pushCells_keeps _ _)) ok.empty ok.apart
 exact wpAny_bind (wpAny_pure (wpAny_pure fin))
theorem zcv{env:Env}:∀{names:List (Str × NameKind)} {x:Str},names.lookup x=some .free ->
  (names.map fun(n,k)=>if(k == NameKind.free&&env.scope.kind == .function&&env.kindOf n == some .cell) then(n,NameKind.cell) else(n,k)).lookup x=some .cell \/
  (names.map fun(n,k)=>if(k == NameKind.free&&env.scope.kind == .function&&env.kindOf n == some .cell) then(n,NameKind.cell) else(n,k)).lookup x=some .free
 | [],_,h=>by simp at h
 | (n,k) :: r,x,h=>by
  have ih:=@zcv env r x
  show List.lookup x ((if(k == NameKind.free&&env.scope.kind == .function&&env.kindOf n == some .cell)=true then(n,NameKind.cell) else(n,k)) :: _)=_\/List.lookup x ((if(k == NameKind.free&&env.scope.kind == .function&&env.kindOf n == some .cell)=true then(n,NameKind.cell) else(n,k)) :: _)=_
  by_cases hc:(k == NameKind.free&&env.scope.kind == .function&&env.kindOf n == some .cell)=true
  ·rw[if_pos hc]
   cases hx:x == n with
   | true=>left;simp[yt,hx]
   | false=>simp only[yt,hx]at h ⊢;exact ih h
  ·rw[if_neg hc]
   cases hx:x == n with
   | true=>simp only[yt,hx]at h ⊢;exact .inr h
   | false=>simp only[yt,hx]at h ⊢;exact ih h
theorem zcu{env:Env}:∀{names:List (Str × NameKind)} {x:Str},(names.map fun(n,k)=>if(k == NameKind.free&&env.scope.kind == .function&&env.kindOf n == some .cell) then(n,NameKind.cell) else(n,k)).lookup x=some .cell \/
  (names.map fun(n,k)=>if(k == NameKind.free&&env.scope.kind == .function&&env.kindOf n == some .cell) then(n,NameKind.cell) else(n,k)).lookup x=some .free->names.lookup x=some .cell\/names.lookup x=some .free
 | [],_,h=>by simp at h
 | (n,k) :: r,x,h=>by
  have ih:=@zcu env r x
  have h':List.lookup x ((if(k == NameKind.free&&env.scope.kind == .function&&env.kindOf n == some .cell)=true then(n,NameKind.cell) else(n,k)) :: (r.map fun(n,k)=>if(k == NameKind.free&&env.scope.kind == .function&&env.kindOf n == some .cell) then(n,NameKind.cell) else(n,k)))=some .cell \/
   List.lookup x ((if(k == NameKind.free&&env.scope.kind == .function&&env.kindOf n == some .cell)=true then(n,NameKind.cell) else(n,k)) :: (r.map fun(n,k)=>if(k == NameKind.free&&env.scope.kind == .function&&env.kindOf n == some .cell) then(n,NameKind.cell) else(n,k)))=some .free:=h
  clear h
  by_cases hc:(k == NameKind.free&&env.scope.kind == .function&&env.kindOf n == some .cell)=true
  ·have hk:k=.free:=by
    rw[yA,yA]at hc
    exact beq_iff_eq.mp hc.1.1
   subst hk
   rw[if_pos hc]at h'
   cases hx:x == n with
   | true=>right;simp[yt,hx]
   | false=>simp only[yt,hx]at h' ⊢;exact ih h'
  ·rw[if_neg hc]at h'
   cases hx:x == n with
   | true=>simp only[yt,hx]at h' ⊢;exact h'
   | false=>simp only[yt,hx]at h' ⊢;exact ih h'
theorem zcF{env:Env}:∀{names:List (Str × NameKind)} {x:Str},names.lookup x=some .cell ->
  (names.map fun(n,k)=>if(k == NameKind.free&&env.scope.kind == .function&&env.kindOf n == some .cell) then(n,NameKind.cell) else(n,k)).lookup x=some .cell
 | [],_,h=>by simp at h
 | (n,k) :: r,x,h=>by
  have ih:=@zcF env r x
  show List.lookup x ((if(k == NameKind.free&&env.scope.kind == .function&&env.kindOf n == some .cell)=true then(n,NameKind.cell) else(n,k)) :: _)=_
  by_cases hc:(k == NameKind.free&&env.scope.kind == .function&&env.kindOf n == some .cell)=true
  ·rw[if_pos hc]
   cases hx:x == n with
   | true=>simp[yt,hx]
   | false=>simp only[yt,hx]at h ⊢;exact ih h
  ·rw[if_neg hc]
   cases hx:x == n with
   | true=>simp only[yt,hx]at h ⊢;exact h
   | false=>simp only[yt,hx]at h ⊢;exact ih h
theorem zli{names:List (Str × NameKind)}:∀{n:Nat} {acc:List (Str × Addr)} {x:Str} {c:Addr},(x,c)∈cellsFrom n names acc->(x,.cell)∈names\/(x,c)∈acc:=by
 induction names with
 | nil=>intro n acc x c h;exact .inr h
 | cons y r ih=>
  intro n acc x c h
  obtain⟨nm,k⟩:=y
  unfold cellsFrom at h
  split at h
  ·rename_i hk
   rcases ih h with h | h
   ·exact .inl (yE _ h)
   ·rcases yf.mp h with e | h
    ·cases e
     rw[beq_iff_eq.mp hk];exact .inl yV
    ·exact .inr h
  ·rcases ih h with h | h
   ·exact .inl (yE _ h)
   ·exact .inr h
theorem zdA{names:List (Str × NameKind)}(nd:(names.map (·.1)).Nodup){x:Str}{k:NameKind}(h:(x,k)∈names):names.lookup x=some k:=by
 induction names with
 | nil=>cases h
 | cons y r ih=>
  obtain⟨n,k'⟩:=y
  rw[yH,yJ]at nd
  rw[yt]
  rcases yf.mp h with e | hm
  ·cases e;simp
  ·have hne:x≠n:=fun e=>nd.1 (yas.mpr ⟨(x,k),hm,e⟩)
   have hb:(x == n)=false:=by simpa using hne
   rw[hb];exact ih nd.2 hm
def zbp(X:Cx)(scope:Scope)(Ni:List Str)(cs:List (Str × Addr))(s₃:Shared)(H₃:Hp)(fp:List Addr)(pins:List (Addr × Obj)):Cx:=
 { X with N:=Ni,s₀:=s₃,H₀:=H₃,env:=zlz scope cs s₃.heap.objs.size X.env,outer:=X.stack,stack:=X.stack,ex:=fp,fn:=fun y=>decide (scope.names.lookup y=some .cell),pn:=X.pn++pins,xe:=fun _ _=>False }
set_option genInjectivity false in
set_option genSizeOf false in
structure CompScope(X:Cx)(scope:Scope)(Ni:List Str)(caps:List (Option Nat)):Prop where
 kind:scope.kind=.function
 ndn:(scope.names.map (·.1)).Nodup
 free:∀y∈scope.names,y.2=.free->X.env.kindOf y.1=some .cell\/X.env.kindOf y.1=some .free
 nd:Ni.Nodup
 len:caps.length=Ni.length
 cap:∀(i:Nat) (y:Str) (j:Nat),Ni[i]?=some y->caps[i]?=some (some j)->X.N[j]?=some y/\scope.names.lookup y=some .free
def zhn(so:Scope)(No:List Str)(scope:Scope)(Ni:List Str)(caps:List (Option Nat)):Bool:=
 (scope.kind == .function)&&decide ((scope.names.map (·.1)).Nodup)&&(scope.names.all fun y=>y.2 != .free || so.names.lookup y.1 == some .cell || so.names.lookup y.1 == some .free) &&
 decide Ni.Nodup&&(caps.length == Ni.length)&&((Ni.zip caps).all fun p=>match p.2 with | none=>true | some j=>No[j]? == some p.1&&scope.names.lookup p.1 == some .free)
theorem zS{X:Cx}{scope:Scope}{Ni:List Str}{caps:List (Option Nat)}(h:zhn X.env.scope X.N scope Ni caps=true):CompScope X scope Ni caps:=by
 unfold zhn at h
 simp only[yA]at h
 obtain⟨⟨⟨⟨⟨h1,h2⟩,h3⟩,h4⟩,h5⟩,h6⟩:=h
 refine⟨beq_iff_eq.mp h1,of_decide_eq_true h2,fun y hy hf=>?_,of_decide_eq_true h4,beq_iff_eq.mp h5,fun i y j e1 e2=>?_⟩
 ·have q:=yaQ.mp h3 y hy
  rw[Bool.or_eq_true,Bool.or_eq_true]at q
  rcases q with(q | q) | q
  ·rw[hf]at q;simp at q
  ·exact .inl (beq_iff_eq.mp q)
  ·exact .inr (beq_iff_eq.mp q)
 ·have hm:(y,some j)∈Ni.zip caps:=by
   refine yq (i:=i) ?_
   rw[List.getElem?_zip_eq_some];exact⟨e1,e2⟩
  have q:=yaQ.mp h6 _ hm
  simp only[yA]at q
  exact⟨beq_iff_eq.mp q.1,beq_iff_eq.mp q.2⟩
def zb2(caps:List (Option Nat))(σ:St):St:=caps.map fun o=>match o with | some j=>(σ[j]?).getD none | none=>none
section
variable {X:Cx}
set_option genInjectivity false in
set_option genSizeOf false in
structure CompAt(X:Cx)(scope:Scope)(own cl:List (Str × Addr))(s₃:Shared):Prop where
 oeq:own=cellsFrom (s₃.heap.objs.size+1) scope.names []
 apart:own.Pairwise fun x y=>x.2≠y.2
 above:∀n c,(n,c)∈own->s₃.heap.objs.size+1<=c
 sub:∀x c,cl.lookup x=some c->X.env.cells.lookup x=some c
 all:∀y∈scope.names,y.2=.free->cl.lookup y.1=X.env.cells.lookup y.1
theorem CompAt.look{scope:Scope}{own cl:List (Str × Addr)}{s₃:Shared}(T:CompAt X scope own cl s₃){x:Str}{c:Addr}(h:(own++cl).lookup x=some c):(x,c)∈own\/X.env.cells.lookup x=some c:=by
 rw[zct]at h
 cases e:own.lookup x with
 | some c'=>rw[e]at h;cases h;exact .inl (mem_of_lookup e)
 | none=>rw[e]at h;exact .inr (T.sub x c h)
theorem zem{pins:List (Addr × Obj)}{σ:St}{H:Hp}{s:Shared}(I:Inv X pins σ H s){x:Str}{c:Addr}(h:X.env.cells.lookup x=some c):c<s.heap.objs.size:=by
 obtain⟨v,o,ho,_⟩:=I.cell x c h
 exact Heap.lt_size ho
theorem zll{scope:Scope}{Ni:List Str}{caps:List (Option Nat)}{own cl:List (Str × Addr)}{pins:List (Addr × Obj)}{σ:St}{H₃:Hp}{s₃:Shared}{fp:List Addr}
  (S:CompScope X scope Ni caps) (T:CompAt X scope own cl s₃) (I:Inv X pins σ H₃ s₃) (f:∀b∈fp,zco X pins H₃ b) (hf:∀b∈fp,b<s₃.heap.objs.size):(zbp X scope Ni (own++cl) s₃ H₃ fp pins).Ok where
 mod:=I.ok.mod
 kind:=S.kind
 glob:=I.ok.glob
 blt:=I.ok.blt
 above:=yg _
 inj:=fun x y c h1 h2=>by
  rcases T.look h1 with a | a
  ·rcases T.look h2 with b | b
   ·exact name_of_addr T.apart a b
   ·exact absurd (yp (zem I b) (yaL (T.above x c a))) (yN _)
  ·rcases T.look h2 with b | b
   ·exact absurd (yp (zem I a) (yaL (T.above y c b))) (yN _)
   ·exact I.ok.inj x y c a b
 has:=fun x h=>by
  have h':=zcu (env:=X.env) (names:=scope.names) (x:=x) h
  show ∃c,(own++cl).lookup x=some c
  rw[zct]
  cases e:own.lookup x with
  | some c=>exact⟨c,rfl⟩
  | none=>
   rcases h' with h' | h'
   ·obtain⟨c,ec⟩:=zdm (n:=s₃.heap.objs.size+1) h'
    rw[<- T.oeq,e]at ec;cases ec
   ·have hm:=mem_of_lookup h'
    obtain⟨c,ec⟩:=I.ok.has x (S.free _ hm rfl)
    exact⟨c,(T.all _ hm rfl).trans ec⟩
 cab:=fun x c h1 h2=>by
  have hk:scope.names.lookup x=some .cell:=of_decide_eq_true h1
  obtain⟨c',ec⟩:=zdm (n:=s₃.heap.objs.size+1) hk
  rw[<- T.oeq]at ec
  have h2':(own++cl).lookup x=some c:=h2
  rw[zct,ec]at h2'
  cases h2'
  have:=T.above x _ (mem_of_lookup ec)
  show s₃.heap.objs.size<=_
  omega
 hd:=I.ok.hd
 frames:=I.ok.frames
 stk:=.inl rfl
 exf:=fun b hb=>⟨yn (hf b hb),fun x c h=>by
  rcases T.look h with a | a
  ·exact fun e=>absurd (yp (hf b hb) (yaL (e▸T.above x c a))) (yN _)
  ·exact(f b hb).2.2.2.2.1 x c a⟩
 bs:=I.bs
 bsz:=yb I.ok.bsz I.sz
 noex:=fun b o e hb=>by
  rcases(f b hb).2.2.2.1 with z | z
  ·exact I.ok.noex b o e z
  ·have h1:b<X.base.objs.size:=Heap.lt_size e
   have h2:=I.ok.bsz
   exact absurd (yp h1 (yb h2 z)) (yN _)
 exfs:=fun b hb hm=>by
  rcases yf.mp (I.stkSub b hm)with z | z
  ·exact(f b hb).2.1 z
  ·exact(f b hb).2.2.1 z
 funs:=I.stack
 frf:=I.stkFree
theorem zh7{scope:Scope}{Ni:List Str}{caps:List (Option Nat)}{own cl:List (Str × Addr)}{pins:List (Addr × Obj)}{σ:St}{H₃:Hp}{s₃ s₄:Shared}{fp:List Addr}
  (S:CompScope X scope Ni caps) (T:CompAt X scope own cl s₃) (I:Inv X pins σ H₃ s₃) (f:∀b∈fp,zco X pins H₃ b) (hf:∀b∈fp,b<s₃.heap.objs.size)
  (e4:s₄={ s₃ with heap:=s₄.heap }) (k:∀b o,s₃.heap.get? b=some o->s₄.heap.get? b=some o) (ns:s₄.heap.Ns s₃.heap.objs.size fun _=>none) (oc:∀n c,(n,c)∈own->s₄.heap.IsCell c none) :
  Inv (zbp X scope Ni (own++cl) s₃ H₃ fp pins) [] (zb2 caps σ) H₃ s₄ where
 ok:=zll S T I f hf
 os:=by rw[e4];rfl
 bare:=by rw[e4];exact I.bare
 base:=Un.kept k
 loc:=by
  refine⟨_,ns,fun i x v h1 h2 h3=>?_⟩
  have h2':(zb2 caps σ)[i]?=some (some v):=h2
  unfold zb2 at h2'
  rw[yh]at h2'
  cases ec:caps[i]? with
  | none=>rw[ec]at h2';cases h2'
  | some o=>
   cases o with
   | none=>rw[ec]at h2';cases h2'
   | some j=>
    rw[ec]at h2'
    have h2'':(σ[j]?).getD none=some v:=yo h2'
    have hj:σ[j]?=some (some v):=by
     cases e:σ[j]? with
     | none=>rw[e]at h2'';cases h2''
     | some z=>rw[e]at h2'';exact congrArg some h2''
    obtain⟨hN,hfr⟩:=S.cap i x j h1 ec
    have hm:=mem_of_lookup hfr
    have hk:=S.free _ hm rfl
    obtain⟨m,_,hl⟩:=I.loc
    obtain⟨u,r,l⟩:=hl j x v hN hj (by rcases hk with z | z;exact .inr (.inl z);exact .inr (.inr z))
    refine⟨u,r,.inr ⟨zcv hfr,?_⟩⟩
    rcases l with⟨z,_⟩ | ⟨_,c,hc,q⟩
    ·have z':X.env.kindOf x=some .local:=z
     rcases hk with y | y<;>(have y':X.env.kindOf x=_:=y;rw[z']at y';cases y')
    ·refine⟨c,?_,q.keeps k⟩
     show(own++cl).lookup x=some c
     rw[zct]
     cases eo:own.lookup x with
     | some c'=>
      rw[T.oeq]at eo
      rcases zli (mem_of_lookup eo)with y | y
      ·have:=zdA S.ndn y
       rw[hfr]at this;cases this
      ·cases y
     | none=>exact(T.all _ hm rfl).trans hc
 cell:=fun x c h=>by
  rcases T.look h with a | a
  ·exact⟨_,oc x c a⟩
  ·obtain⟨v,q⟩:=I.cell x c a
   exact⟨v,q.keeps k⟩
 free:=I.hok.fresh (yg _)
 freeC:=fun x c h=>by
  rcases T.look h with a | a
  ·exact I.hok.fresh (by have:=T.above x c a;omega)
  ·exact I.freeC x c a
 pin:=fun p hp=>by
  have hp':p∈X.pn++pins:=by
   have:p∈(X.pn++pins)++[]:=hp
   simpa using this
  obtain⟨h1,h2,h3,h4,h5⟩:=I.pin p hp'
  refine⟨k _ _ h1,h2,yn (Heap.lt_size h1),fun z=>?_,h5⟩
  rcases yf.mp (I.stkSub _ z)with y | y
  ·exact h3 y
  ·exact h4 y
 hok:=I.hok.kept k
 len:=by
  show(zb2 caps σ).length=Ni.length
  unfold zb2;rw[ya];exact S.len
theorem zjH{scope:Scope}{Ni:List Str}{cs:List (Str × Addr)}{pins:List (Addr × Obj)}{σ σ':St}{H₃ H':Hp}{s₃ s':Shared}{fp:List Addr}(I:Inv X pins σ H₃ s₃)(f:∀b∈fp,zco X pins H₃ b)
  (J:Inv (zbp X scope Ni cs s₃ H₃ fp pins) [] σ' H' s'):Inv X pins σ H' s':=by
 have u:Un (frs X.stack) fp H₃ H' s₃.heap s'.heap:=J.base
 have q:=I.call (g':=s'.gens) (t':=s'.toks) (d':=s'.drawn) (ch:=fp) u J.hok J.bare fun b hb=>⟨(f b hb).2.2.2.1,(f b hb).2.1,(f b hb).2.2.2.2.1,(f b hb).2.2.2.2.2⟩
 have e:({ s₃ with heap:=s'.heap,gens:=s'.gens,drawn:=s'.drawn,toks:=s'.toks }:Shared)=s':=by
  have h1:s'.os=s₃.os:=J.os
  cases s';cases s₃
  simp only at h1
  subst h1;rfl
 rw[e]at q
 exact q
def PF(Y:Cx)(ifs:List Expr)(t:TT):Prop:=∀(pins:List (Addr × Obj)) (s:Shared) (σ:St) (H:Hp) (Q:Bool->Hp->Prop),Inv Y pins σ H s->t σ H Q ->
 wpAny (model Y.prog Y.w) Y.A (forIn ifs true fun c r=>if r=true then do let ok <- isTrue c Y.env (eval c Y.env);pure (ForInStep.yield ok)else pure (ForInStep.yield r)) (TP Y pins σ Q) Y.xe s
abbrev zej:TT:=fun _ H T=>T true H
theorem zaM{Y:Cx}:PF Y [] zej:=fun pins s σ H Q I h=>wpAny_tests_nil ⟨H,I,h⟩
def zfZ(wi:TI)(caps:List (Option Nat))(g:TG)(tf:TT)(te:TE):TE:=fun σ H Q=>wi σ H fun J H1=>∀D,H1 D=none ->
 ∃W:Nat->Nat->St->Hp->Prop,(∃m,W 0 m (zb2 caps σ) (upd H1 D (.lst [])))/\∀i m σ' H',W i m σ' H' ->
  (J.stop i H'/\Q (.ref D) H')\/(J.go i H'/\∃N:St->Hp->Prop,(∀σ2 H2,N σ2 H2->∃m',m'<m/\W (i+1) m' σ2 H2) /\
   ∀x H2,J.yld i H' x H2->g x σ' H2 fun σ1 H3=>tf σ1 H3 fun b H4=>if b=true then te σ1 H4 fun v H5=>zbQ (.ref D) [v] H5 fun _ H6=>N σ1 H6 else N σ1 H4)
theorem zgn{P:Program}{w:World}{A:Around}{R:Result->Shared->Prop}{s0:Shared}{elt tg iter:Expr}{tests:List Expr}{sc:Scope}{ps:Pos}{itv acc:Value}{en:Env}(J:Nat->Shared->Prop)
  (turn:∀n s,J n s->wpAny (model P w) A (pyNext itv) (fun r s1=>match r with | none=>R (.ok .next) s1 | some v=>wpAny (model P w) A (letOwnedTupleGo tg itv v) (fun _ s1'=>wpAny (model P w) A (assign tg en v) (fun _ s2=>
   wpAny (model P w) A (forIn tests true fun c r=>if r=true then do let ok <- isTrue c en (eval c en);pure (ForInStep.yield ok)else pure (ForInStep.yield r)) (fun ok s3=>if ok=true then wpAny (model P w) A (eval elt en) (fun x s4=>
    wpAny (model P w) A (call (.builtin "list.append") [acc,x]) (fun _ s5=>∃m,m<n/\J m s5) (notedBy (model P w) A en fun e s'=>R (.error e) s') s4) (notedBy (model P w) A en fun e s'=>R (.error e) s') s3
     else ∃m,m<n/\J m s3) (notedBy (model P w) A en fun e s'=>R (.error e) s') s2) (notedBy (model P w) A en fun e s'=>R (.error e) s') s1') (notedBy (model P w) A en fun e s'=>R (.error e) s') s1) (notedBy (model P w) A en fun e s'=>R (.error e) s') s)
  (n0:Nat) (j0:J n0 s0):codeAny (model P w) A (.compLoop (.ListComp elt [⟨tg,iter,tests,0⟩] sc ps) 0 itv acc en) R s0:=by
 refine codeAny_loop rfl J (fun n s hJ=>?_) n0 j0
 show wpAny _ A ((compTurn (.ListComp elt [⟨tg,iter,tests,0⟩] sc ps) 0 itv acc en).onRaise (fun x=>do noteFrame x en;theTreesLotGoes x)) _ _ s
 refine wpAny_noted ?_
 rw[compTurn_list]
 refine wpAny_bind (wpAny_standAt (wpAny_bind (wpAny_mono (turn n s hJ) (fun r s1 h1=>?_) fun _ _ z=>z)))
 cases r with
 | none=>exact wpAny_pure h1
 | some v=>
  refine wpAny_bind (wpAny_mono h1 (fun _ s1' h1'=>wpAny_bind (wpAny_mono h1' (fun _ s2 h2=>wpAny_bind (wpAny_mono h2 (fun ok s3 h3=>?_) fun _ _ z=>z)) fun _ _ z=>z)) fun _ _ z=>z)
  cases ok with
  | false=>exact wpAny_pure ⟨rfl,h3⟩
  | true=>
   exact wpAny_bind (wpAny_bind (wpAny_mono h3 (fun x s4 h4=>wpAny_bind (wpAny_mono h4 (fun _ s5 h5=>wpAny_pure (wpAny_pure ⟨rfl,h5⟩)) fun _ _ z=>z)) fun _ _ z=>z))
theorem ziF{Y:Cx}{elt iter:Expr}{tg:Expr}{ifs:List Expr}{scope:Scope}{pos:Pos}{it D:Addr}{fp:List Addr}{tn:Nat->Heap->Prop}{J:It}{g:TG}{tf:TT}{te:TE}{Q:VK}{R:Result->Shared->Prop}
  (T:Turn Y.prog Y.w Y.K tg J fp it tn) (hc:Y.calm=true) (gY:PG Y tg g) (hF:PF Y ifs tf) (hE:PE Y elt te) (fpY:∀{H':Hp},(∀b∈fp,H' b=none)->∀b∈fp,zco Y [] H' b) (hx:∀e s,¬Y.xe e s)
  {W:Nat->Nat->St->Hp->Prop} (turn:∀i m σ' H',W i m σ' H' ->
   (J.stop i H'/\Q (.ref D) H')\/(J.go i H'/\∃N:St->Hp->Prop,(∀σ2 H2,N σ2 H2->∃m',m'<m/\W (i+1) m' σ2 H2) /\
    ∀x H2,J.yld i H' x H2->g x σ' H2 fun σ1 H3=>tf σ1 H3 fun b H4=>if b=true then te σ1 H4 fun v H5=>zbQ (.ref D) [v] H5 fun _ H6=>N σ1 H6 else N σ1 H4))
  (fin:∀σ' H' s',Inv Y [] σ' H' s'->Q (.ref D) H'->R (.ok .next) s') {m0:Nat} {σ0:St} {H0:Hp} {s0:Shared} (I0:Inv Y [] σ0 H0 s0) (st0:tn 0 s0.heap) (fr0:∀b∈fp,H0 b=none) (w0:W 0 m0 σ0 H0) :
  codeAny (model Y.prog Y.w) Y.A (.compLoop (.ListComp elt [⟨tg,iter,ifs,0⟩] scope pos) 0 (.ref it) (.ref D) Y.env) R s0:=by
 refine zgn (fun n s'=>∃i σ' H',Inv Y [] σ' H' s'/\tn i s'.heap/\(∀b∈fp,H' b=none)/\W i n σ' H') ?_ m0 ⟨0,_,_,I0,st0,fr0,w0⟩
 rintro n s5 ⟨i,σ5,H5,I5,st5,fr5,w5⟩
 have noE:∀{α:Type} {t:Sem α} {Q1:α->Shared->Prop} {E2:Value->Shared->Prop} {s1:Shared},wpAny (model Y.prog Y.w) Y.A t Q1 Y.xe s1->wpAny (model Y.prog Y.w) Y.A t Q1 E2 s1:=
  fun h=>wpAny_mono h (fun _ _ q=>q) fun e s z=>(hx e s z).elim
 rcases turn i n σ5 H5 w5 with⟨stop,qn⟩ | ⟨go,N,hN,step⟩
 ·refine thn (T.done Y rfl rfl rfl hc i [] s5 σ5 H5 _ I5 (fpY fr5) st5 stop) fun r s6 ⟨hr,I6⟩=>?_
  subst hr
  exact fin σ5 H5 s6 I6 qn
 ·refine thn (T.item Y rfl rfl rfl hc i [] s5 σ5 H5 _ I5 (fpY fr5) st5 go) fun r s6 ⟨u,hr,h6⟩=>?_
  subst hr
  refine thn h6 fun _ s7 zz=>?_
  obtain⟨x7,H7,I7,r7,y7,st7,fr7⟩:=zz
  have I7':=I7.pinned (fpY fr7) (T.obj _ _ st7)
  have again:∀{σ9:St} {H9:Hp} {s9:Shared},Inv Y ([]++zdC fp s7.heap) σ9 H9 s9->N σ9 H9->∃m,m<n/\∃i σ' H',Inv Y [] σ' H' s9/\tn i s9.heap/\(∀b∈fp,H' b=none)/\W i m σ' H':=fun {σ9 H9 s9} I9 n9=>by
   obtain⟨m',hm,w9⟩:=hN σ9 H9 n9
   refine⟨m',hm,i+1,σ9,H9,I9.unpinned,T.keep _ _ _ st7 fun b hb o e=>(I9.pin (b,o) (yw _ (yw _ (zcO hb e)))).1,fun b hb=>?_,w9⟩
   obtain⟨o,e,d⟩:=T.obj _ _ st7 b hb
   exact(I9.pin (b,o) (yw _ (yw _ (zcO hb e)))).2.1
  refine noE (thn (gY _ s7 σ5 H7 x7 u _ I7' r7 (step x7 _ y7)) fun _ s8 zz=>?_)
  obtain⟨σ8,H8,I8,q8⟩:=zz
  refine noE (thn (hF _ s8 _ _ _ I8 q8) fun b s9 ⟨H9,I9,q9⟩=>?_)
  cases b with
  | false=>exact again I9 q9
  | true=>
   refine noE (thn (hE _ s9 _ _ _ I9 q9) fun y s10 zz=>?_)
   obtain⟨v10,H10,I10,r10,q10⟩:=zz
   refine noE (thn (zaW (X:=Y) _ s10 _ _ (.ref D) [v10] (.ref D) [y] _ I10 rfl (.cons r10 .nil) q10) fun _ s11 zz=>?_)
   obtain⟨v11,H11,I11,_,q11⟩:=zz
   exact again I11 q11
theorem z8{scope:Scope}{Ni:List Str}{caps:List (Option Nat)}{x:Str}{px:Pos}{gi:Nat}{cs:List (Str × Addr)}{s₃:Shared}{H₃:Hp}{fp:List Addr}{pins:List (Addr × Obj)}
  (S:CompScope X scope Ni caps) (hx:scope.names.lookup x=some .local\/scope.names.lookup x=some .cell) (hgi:Ni[gi]?=some x):PG (zbp X scope Ni cs s₃ H₃ fp pins) (.Name x px) (zc5 gi):=by
 rcases hx with hx | hx
 ·exact zay S.nd hgi (.inl (lookup_relabel_local hx)) (.inr (lookup_relabel_local hx))
 ·refine zay S.nd hgi ?_ (.inl (decide_eq_true hx))
  have:(relabel scope X.env).names.lookup x=some .cell:=zcF hx
  exact .inr this
theorem zfs{elt iter:Expr}{tg:Expr}{ifs:List Expr}{scope:Scope}{pos pos':Pos}{wi:TI}{Ni:List Str}{caps:List (Option Nat)}{g:TG}{tf:TT}{te:TE}
  (hc:X.calm=true) (hi:PI X tg iter wi) (S:CompScope X scope Ni caps) (hG:CompScope X scope Ni caps->∀cs s₃ H₃ fp pins,PG (zbp X scope Ni cs s₃ H₃ fp pins) tg g)
  (hF:∀cs s₃ H₃ fp pins,PF (zbp X scope Ni cs s₃ H₃ fp pins) ifs tf) (hE:∀cs s₃ H₃ fp pins,PE (zbp X scope Ni cs s₃ H₃ fp pins) elt te)
  (hs:∀x,foldedSetIterable iter X.env x=pure x)
  {pins:List (Addr × Obj)} {s:Shared} {σ:St} {H:Hp} {Q:VK} (I:Inv X pins σ H s) (h:zfZ wi caps g tf te σ H Q) {use:Option (Value->Sem Unit)} {R:Value->Shared->Prop}
  (fin:∀(D C:Addr) (H':Hp) (s':Shared) (m:Str->Option Value),Inv X pins σ H' s'->Q (.ref D) H'->s'.heap.Ns C m->H' C=none->X.s₀.heap.objs.size<=C->C≠X.env.locals->(∀y c,X.env.cells.lookup y=some c->c≠C)->(∀p∈X.pn++pins,p.1≠C) ->
   compPost (model X.prog X.w) X.A X.xe use R (.ref D) C (.ok .next) s') :
  wpAny (model X.prog X.w) X.A (comprehension (.ListComp elt [⟨tg,iter,ifs,0⟩] scope pos) scope X.env pos' (newList []) false (eval iter X.env) use) R X.xe s:=by
 obtain⟨cl,hcl,hsub,hall⟩:=zfm (env:=X.env) (scope:=scope) fun y hy hf=>I.ok.has y.1 (S.free y hy hf)
 refine wpAny_comprehension_free rfl hs hcl S.kind (fun y hy hl=>by obtain⟨n,k⟩:=y;cases hl;exact zdA S.ndn hy) (thn (hi pins s σ H _ I h) fun v s1 h1=>thn h1 fun itv s2 h2=>?_)
 obtain⟨it,fp,tn,J,H2,e,I2,T,st2,f2,hW⟩:=h2
 subst e
 have I3:Inv X pins σ (upd H2 s2.heap.objs.size (.lst [])) { s2 with heap:=s2.heap.push { cls:=.type "list",dict:=none,data:=.seq ([]:List Value).toArray },toks:=s2.toks }:=
  I2.laid (fun b u e=>Heap.get?_push_of_some _ e) (yg _) ⟨yT _,[],_,.nil,Heap.get?_push_size _ rfl⟩
 have hD:H2 s2.heap.objs.size=none:=I2.hok.fresh (yg _)
 obtain⟨W,⟨m0,w0⟩,turn⟩:=hW s2.heap.objs.size hD
 have st3:tn 0 (s2.heap.push { cls:=.type "list",dict:=none,data:=.seq ([]:List Value).toArray }):=T.keep _ _ _ st2 fun b _ o e=>Heap.get?_push_of_some _ e
 have f3:∀b∈fp,zco X pins (upd H2 s2.heap.objs.size (.lst [])) b:=fun b hb=>by
  obtain⟨o,e,_⟩:=T.obj _ _ st2 b hb
  exact⟨by rw[zK (yn (Heap.lt_size e))];exact(f2 b hb).1,(f2 b hb).2⟩
 refine wpAny_newObj_type ?_
 generalize hs3:({ s2 with heap:=s2.heap.push { cls:=.type "list",dict:=none,data:=.seq ([]:List Value).toArray },toks:=s2.toks }:Shared)=s3 at I3
 have eh:s2.heap.push { cls:=.type "list",dict:=none,data:=.seq ([]:List Value).toArray }=s3.heap:=by rw[<- hs3]
 rw[eh]at st3
 have hf3:∀b∈fp,b<s3.heap.objs.size:=fun b hb=>by
  obtain⟨o,e,_⟩:=T.obj _ _ st3 b hb
  exact Heap.lt_size e
 refine zfU fun own s4 eo e4 k4 ns4 oc4 ap4=>?_
 have T4:CompAt X scope own cl s3:=⟨eo,ap4,fun n c hm=>(oc4 n c hm).2,hsub,hall⟩
 have I4:=zh7 (Ni:=Ni) (caps:=caps) S T4 I3 f3 hf3 e4 k4 ns4 fun n c hm=>(oc4 n c hm).1
 have st4:tn 0 s4.heap:=T.keep _ _ _ st3 fun b _ o e=>k4 b o e
 have fpY:∀{H':Hp},(∀b∈fp,H' b=none)->∀b∈fp,zco (zbp X scope Ni (own++cl) s3 (upd H2 s2.heap.objs.size (.lst [])) fp pins) [] H' b:=fun hn b hb=>
  ⟨hn b hb,yn (hf3 b hb),I4.ok.exfs b hb,.inl hb,(I4.ok.exf b hb).2,fun p hp=>by
   have hp':p∈X.pn++pins:=by
    have:p∈(X.pn++pins)++[]:=hp
    simpa using this
   exact(f3 b hb).2.2.2.2.2 p hp'⟩
 have loop:=ziF (Q:=Q) (elt:=elt) (iter:=iter) (scope:=scope) (pos:=pos) (R:=compPost (model X.prog X.w) X.A X.xe use R (.ref s2.heap.objs.size) s3.heap.objs.size) (Y:=zbp X scope Ni (own++cl) s3 (upd H2 s2.heap.objs.size (.lst [])) fp pins)
  T hc (hG S _ _ _ _ _) (hF _ _ _ _ _) (hE _ _ _ _ _) fpY (fun _ _ z=>z) turn (fun σ' H' s' I6 qn=>by
   have I6':=zjH I3 f3 I6
   obtain⟨m6,ns6,_⟩:=I6.loc
   exact fin _ _ H' s' m6 I6' qn ns6 I6.free I3.sz (Nat.ne_of_gt I3.lt) (fun y c hc'=>yn (zem I3 hc')) fun p hp=>yn (Heap.lt_size (I3.pin p hp).1)) I4 st4 (fun b hb=>(f3 b hb).1) w0
 exact codeAny_compStart_list loop (T.self _ _ _ _ _ st4 loop)
theorem zbt{elt iter:Expr}{tg:Expr}{ifs:List Expr}{scope:Scope}{pos:Pos}{wi:TI}{Ni:List Str}{caps:List (Option Nat)}{g:TG}{tf:TT}{te:TE}
  (hc:X.calm=true) (hi:PI X tg iter wi) (S:CompScope X scope Ni caps) (hG:CompScope X scope Ni caps->∀cs s₃ H₃ fp pins,PG (zbp X scope Ni cs s₃ H₃ fp pins) tg g)
  (hF:∀cs s₃ H₃ fp pins,PF (zbp X scope Ni cs s₃ H₃ fp pins) ifs tf) (hE:∀cs s₃ H₃ fp pins,PE (zbp X scope Ni cs s₃ H₃ fp pins) elt te)
  (hs:autoParam (∀x,foldedSetIterable iter X.env x=pure x) Internal.aut3._auto_1):PE X (.ListComp elt [⟨tg,iter,ifs,0⟩] scope pos) (zfZ wi caps g tf te):=by
 intro pins s σ H Q I h
 rw[eval_ListComp]
 refine zfs hc hi S hG hF hE hs I h fun D C H' s' m I' q ns hn hC h1 h2 h3=>?_
 refine⟨m,ns,fun h' sb=>?_⟩
 exact⟨.ref D,H',I'.turned (t':=s'.toks) (it:=C) (fun b o hb e=>(sb.2 b hb).trans e) hn h1 (.inr hC) h2 h3,rfl,q⟩
theorem zcQ{i:Nat}{y:Str}{py:Pos}{elt iter:Expr}{tg:Expr}{ifs:List Expr}{scope:Scope}{pos spos:Pos}{wi:TI}{Ni:List Str}{caps:List (Option Nat)}{g:TG}{tf:TT}{te:TE}
  (hN:X.N.Nodup) (hyi:X.N[i]?=some y) (hy:X.env.scope.names.lookup y=some .local) (hc:X.calm=true) (hi:PI X tg iter wi) (S:CompScope X scope Ni caps) (hG:CompScope X scope Ni caps->∀cs s₃ H₃ fp pins,PG (zbp X scope Ni cs s₃ H₃ fp pins) tg g)
  (hF:∀cs s₃ H₃ fp pins,PF (zbp X scope Ni cs s₃ H₃ fp pins) ifs tf) (hE:∀cs s₃ H₃ fp pins,PE (zbp X scope Ni cs s₃ H₃ fp pins) elt te)
  (hsw:autoParam (swapsWith (.ListComp elt [⟨tg,iter,ifs,0⟩] scope pos) (some (.Name y py)) spos.line X.env=pure true) Internal.aut2._auto_1)
  (hs:autoParam (∀x,foldedSetIterable iter X.env x=pure x) Internal.aut3._auto_1):PS X (.Assign [.Name y py] (.ListComp elt [⟨tg,iter,ifs,0⟩] scope pos) spos) (zkG (zfZ wi caps g tf te) (zc5 i)):=by
 intro pins s σ H D I h
 rw[exec_Assign_Name_used _ _ _ _ hsw]
 refine wpAny_bind (wpAny_standAt (wpAny_bind ?_))
 show wpAny _ X.A (do let _ <- comprehension (.ListComp elt [⟨tg,iter,ifs,0⟩] scope pos) scope X.env _ (newList []) false (eval iter X.env) (some (assign (.Name y py) X.env))) _ _ s
 refine wpAny_bind (wpAny_mono (zfs (R:=fun _ s'=>SP X pins D .next s') hc hi S hG hF hE hs I h fun L C H' s' m I' q ns hn hC h1 h2 h3=>?_) (fun _ s' hq=>wpAny_pure (wpAny_pure hq)) fun _ _ e=>e)
 show wpAny _ X.A (assign (.Name y py) X.env (.ref L)) _ _ _
 refine wpAny_assign_Name (zfA (v:=.ref L) I' hN hyi (.inl hy) rfl (fun s2 I2 sb2=>?_) (.inr hy))
 obtain⟨a,sb,ha⟩:=sb2
 have hCa:C≠a:=by
  rcases ha with z | z
  ·rw[z];exact h1
  ·exact fun w'=>h2 y a z w'.symm
 refine⟨m,ns.sameBut sb hCa,fun h' sb'=>?_⟩
 exact⟨_,H',I2.turned (t':=s2.toks) (it:=C) (fun b o hb e=>(sb'.2 b hb).trans e) hn h1 (.inr hC) h2 h3,q⟩
end
end Internal
namespace My
def gc(a b:Int):Int:=(Int.gcd a b:Int)
theorem zfv(a b:Int):0<=gc a b:=Int.natCast_nonneg _
theorem gc_comm(a b:Int):gc a b=gc b a:=by unfold gc;rw[Int.gcd_comm]
theorem zbe(a b:Int):gc a b∣a:=Int.gcd_dvd_left a b
theorem gc_dvd_right(a b:Int):gc a b∣b:=Int.gcd_dvd_right a b
theorem ziT{k a b:Int}(h1:k∣a)(h2:k∣b):k∣gc a b:=Int.dvd_coe_gcd h1 h2
theorem gc_pos_right{a b:Int}(h:b≠0):0<gc a b:=by
 have:=Int.gcd_pos_of_ne_zero_right a h
 unfold gc;omega
theorem gc_zero_right{a:Int}(h:0<=a):gc a 0=a:=by unfold gc;rw[Int.gcd_zero_right];omega
theorem gc_abs(a b:Int):gc (if a<0 then -a else a) (if b<0 then -b else b)=gc a b:=by
 unfold gc;split<;>split<;>simp[Int.gcd]
theorem gc_step{a b:Int}:gc b (a%b)=gc a b:=by
 rw[gc_comm a b]
 refine Int.dvd_antisymm (zfv _ _) (zfv _ _) ?_ ?_
 ·refine ziT (zbe b (a%b)) ?_
  have e:a=b*(a/b)+a%b:=(yal a b).symm
  have:=Int.dvd_add (Int.dvd_mul_of_dvd_left (c:=a/b) (zbe b (a%b))) (gc_dvd_right b (a%b))
  rwa [<- e]at this
 ·refine ziT (zbe b a) ?_
  rw[Int.emod_def]
  exact Int.dvd_sub (gc_dvd_right b a) (Int.dvd_mul_of_dvd_left (zbe b a))
theorem zhw{a b:Int}(h:gc a b=1):a.gcd b=1:=by unfold gc at h;omega
theorem zhT{x y:Int}{q:Rat}(hy:0<y)(hg:gc x y=1)(e:Rat.divInt x y=q):x=q.num/\y=(q.den:Int):=by
 obtain⟨d,rfl⟩:=Int.eq_ofNat_of_zero_le (yak hy)
 have hc:x.natAbs.Coprime d:=by
  have:=zhw hg
  rw[Int.gcd_eq_natAbs_gcd_natAbs]at this
  exact this
 have hd:d≠0:=by omega
 have:Rat.mk' x d hd hc=q:=by rw[Rat.mk_eq_divInt];exact e
 subst this
 exact⟨rfl,rfl⟩
theorem rat_den_pos(q:Rat):0<(q.den:Int):=by have:=q.den_nz;omega
theorem zmN{a b:Int}(h:b≠0):gc (a/gc a b) (b/gc a b)=1:=by
 have hp:=gc_pos_right (a:=a) h
 unfold gc
 have:=Int.gcd_ediv (a:=a) (b:=b) (c:=(a.gcd b:Int)) (zbe a b) (gc_dvd_right a b)
 rw[this]
 have hp':0<a.gcd b:=by unfold gc at hp;omega
 rw[Int.natAbs_natCast,Nat.div_self hp'];rfl
theorem zfP{a b c:Int}(hb:b≠0)(ha:c∣a)(hc:c∣b):Rat.divInt (a/c) (b/c)=Rat.divInt a b:=by
 obtain⟨x,rfl⟩:=ha
 obtain⟨y,rfl⟩:=hc
 have hc0:c≠0:=by rintro rfl;simp at hb
 rw[Int.mul_ediv_cancel_left _ hc0,Int.mul_ediv_cancel_left _ hc0,Rat.divInt_mul_left hc0]
theorem part_pos{t b:Int}(hb:0<b):t/gc t b=(Rat.divInt t b).num/\b/gc t b=((Rat.divInt t b).den:Int):=by
 have hp:=gc_pos_right (a:=t) (b:=b) (by omega)
 refine zhT ?_ (zmN (by omega)) (zfP (by omega) (zbe _ _) (gc_dvd_right _ _))
 exact Int.ediv_pos_of_pos_of_dvd hb (by omega) (gc_dvd_right _ _)
theorem part_neg{t b:Int}(hb:b<0):t.fdiv (-gc t b)=(Rat.divInt t b).num/\b.fdiv (-gc t b)=((Rat.divInt t b).den:Int):=by
 have d1:-gc t b∣t:=Int.neg_dvd.mpr (zbe _ _)
 have d2:-gc t b∣b:=Int.neg_dvd.mpr (gc_dvd_right _ _)
 rw[Int.fdiv_eq_ediv_of_dvd d1,Int.fdiv_eq_ediv_of_dvd d2]
 have e:=part_pos (t:=-t) (b:=-b) (by omega)
 have g:gc (-t) (-b)=gc t b:=by unfold gc;simp[Int.gcd]
 rw[g,Rat.neg_divInt_neg]at e
 rw[Int.ediv_neg,Int.ediv_neg]
 rw[Int.neg_ediv_of_dvd (zbe _ _),Int.neg_ediv_of_dvd (gc_dvd_right _ _)]at e
 exact e
end My
namespace Internal
open PySem PySem.Spec PyProof.Rows
section
variable {K:Fg}{H:Hp}{Q:VK}
theorem znz{i:Int}(q:Q (.bl true) H):zdx K [.int i,.ty "int"] H Q:=zh1 (t':=.type "int") (cv:=.type "int") (b:=true) rfl (.int i) (by with_unfolding_all rfl) q
theorem zm5{i:Int}(q:Q (.bl false) H):zdx K [.int i,.ty "bool"] H Q:=zh1 (t':=.type "int") (cv:=.type "bool") (b:=false) rfl (.int i) (by with_unfolding_all rfl) q
theorem ziZ{a:Addr}{xs:List V}(h:H a=some (.tup xs))(q:Q (.bl true) H):zdx K [.ref a,.ty "tuple"] H Q:=zh1 (t':=.type "tuple") (cv:=.type "tuple") (b:=true) rfl (.tup h) (by with_unfolding_all rfl) q
end
def zkQ:Sp:=fun vs H Q _=>∃a b:Int,vs=[.int a,.int b]/\Q (.int (My.gc a b)) H
theorem zlm{a b:Int}{H:Hp}{Q:VK}{E:XK}(q:Q (.int (My.gc a b)) H):zkQ [.int a,.int b] H Q E:=⟨a,b,rfl,q⟩
theorem zjs(a:Int):0<=if a<0 then -a else a:=by split<;>omega
theorem zgW{a b:Int}{n:Nat}(h:b≠0)(hs:sz b<=n):sz (My.gc a b)<=n:=by
 refine yb (ze5 ?_) hs
 have h1:=My.gc_pos_right (a:=a) h
 obtain⟨c,hc⟩:=My.gc_dvd_right a b
 have hc0:c≠0:=by rintro rfl;rw[Int.mul_zero]at hc;exact h hc
 have e:b.natAbs=(My.gc a b).natAbs*c.natAbs:=by rw[<- Int.natAbs_mul,<- hc]
 rw[e]
 exact Nat.le_mul_of_pos_right _ (by omega)
def cell(ns:List Int)(k:Int):Int:=ns.getD k.toNat 0
def IsQ(H:Hp)(a:Addr)(q:Rat):Prop:=H a=some (.tup [.int q.num,.int (q.den:Int)])
theorem IsQ.sq{K:Fg}{H:Hp}{a:Addr}{q:Rat}(h:IsQ H a q):SqT K H a [.int q.num,.int (q.den:Int)]:=SqT.of h
theorem IsQ.len{K:Fg}{H:Hp}{a:Addr}{q:Rat}{Q:VK}(h:IsQ H a q)(k:Q (.int 2) H):zam K [.ref a] H Q:=zmh h.sq k
theorem IsQ.isT{K:Fg}{H:Hp}{a:Addr}{q:Rat}{Q:VK}(h:IsQ H a q)(k:Q (.bl true) H):zdx K [.ref a,.ty "tuple"] H Q:=ziZ h k
theorem IsQ.same{H H':Hp}{a:Addr}{q:Rat}(h:IsQ H a q)(e:Same H H'):IsQ H' a q:=e _ _ h
theorem zha(q:Rat):0<(q.den:Int):=My.rat_den_pos q
def NewQ(H:Hp)(Q:VK)(q:Rat):Prop:=∀p H',Same H H'->IsQ H' p q->Q (.ref p) H'
theorem NewQ.mk{H:Hp}{Q:VK}{q:Rat}{x y:Int}(k:NewQ H Q q)(e:x=q.num/\y=(q.den:Int)):zdI Q [.int x,.int y] H:=by
 refine⟨by show 2<=sizeLine;decide,fun p hp=>k p _ (Same.new hp _) ?_⟩
 rw[e.1,e.2];exact zL
def SzQ(q:Rat)(n m:Nat):Prop:=sz q.num<=n/\sz (q.den:Int)<=m
theorem SzQ.mono{q:Rat}{n m n' m':Nat}(h:SzQ q n m)(h1:n<=n')(h2:m<=m'):SzQ q n' m':=⟨yb h.1 h1,yb h.2 h2⟩
theorem zlf{t b:Int}{n m:Nat}(hb:0<b)(h1:sz t<=n)(h2:sz b<=m):SzQ (Rat.divInt t b) n m:=by
 have e:=My.part_pos (t:=t) hb
 unfold SzQ
 rw[<- e.1,<- e.2]
 exact⟨yb (zjx _ _) h1,yb (zjx _ _) h2⟩
def zfb(n:Nat):Sp:=fun vs H Q _=>∃(a b:Addr) (q r:Rat),vs=[.ref a,.ref b]/\IsQ H a q/\IsQ H b r/\SzQ q n n/\SzQ r n n/\Q (.bl (decide (q<r))) H
def ziW:=fun {n:Nat} {a b:Addr} {q r:Rat} {H:Hp} {Q:VK} {E:XK} h1 h2 s1 s2 k=>@id (zfb n [.ref a,.ref b] H Q E) ⟨a,b,q,r,rfl,h1,h2,s1,s2,k⟩
section
variable {σ:St}{H:Hp}{Q:VK}{D:Ends}{ta tb tc te to:TE}{t u:TS}{K:Fg}
def zh5(J:It)(g:TG)(tb:TS):TS:=fun D σ H=>∃W:Nat->Nat->St->Hp->Prop,(∃m,W 0 m σ H)/\∀i m σ H,W i m σ H ->
 (J.stop i H/\D.nx σ H)\/(J.go i H/\∃N:St->Hp->Prop,(∀σ' H',N σ' H'->∃m',m'<m/\W (i+1) m' σ' H')/\∀x H',J.yld i H x H'->g x σ H' fun σ2 H2=>tb { D with nx:=N,ct:=N,bk:=D.nx } σ2 H2)
theorem zoa{wi:TI}{g:TG}{tb:TS}(q:wi σ H fun J H1=>zh5 J g tb D σ H1):zl9 wi g tb D σ H:=q
def zhY(R:It->Hp->Prop)(vs:List V)(H:Hp):Prop:=∃j:Int,vs=[.int j]/\-(2 ^ 62)<=j/\j<2 ^ 62/\R (Itr 0 j.toNat) H
def zjJ(K:Fg)(R:It->Hp->Prop)(x:V)(H:Hp):Prop:=∃a,x=.ref a/\(∃xs,SqL K H a xs)/\R (Itl K a) H
theorem zmW{tr:TA}{R:It->Hp->Prop}(q:tr σ H (zhY R)):zkU tr σ H R:=q
theorem zn9{R:It->Hp->Prop}(q:te σ H (zjJ K R)):zbc K te σ H R:=q
theorem zlv{R:It->Hp->Prop}{j:Int}(h1:-4611686018427387904<=j)(h2:j<4611686018427387904)(q:R (Itr 0 j.toNat) H):zhY R [.int j] H:=⟨j,rfl,h1,h2,q⟩
theorem zn8{R:It->Hp->Prop}{a:Addr}{xs:List V}(h:SqL K H a xs)(q:R (Itl K a) H):zjJ K R (.ref a) H:=⟨a,rfl,⟨xs,h⟩,q⟩
theorem zhb{i:Nat}{v:V}{R:St->Hp->Prop}(q:R (σ.set i (some v)) H):zc5 i v σ H R:=q
theorem zdb{lo:Int}{n:Nat}{g:TG}{tb:TS}(Pv:Nat->St->Hp->Prop)(h0:Pv 0 σ H)
  (hs:∀i σ H,i<n->Pv i σ H->g (.int (lo+i)) σ H fun σ2 H2=>tb { D with nx:=Pv (i+1),ct:=Pv (i+1),bk:=D.nx } σ2 H2) (hd:∀σ H,Pv n σ H->D.nx σ H):zh5 (Itr lo n) g tb D σ H:=ziR Pv h0 hs hd
theorem zdP{a:Addr}{xs:List V}{g:TG}{tb:TS}(Pv:Nat->St->Hp->Prop)(h0:Pv 0 σ H)(hl:∀i σ H,i<=xs.length->Pv i σ H->SqL K H a xs)
  (hs:∀i x σ H,xs[i]?=some x->Pv i σ H->g x σ H fun σ2 H2=>tb { D with nx:=Pv (i+1),ct:=Pv (i+1),bk:=D.nx } σ2 H2) (hd:∀σ H,Pv xs.length σ H->D.nx σ H):zh5 (Itl K a) g tb D σ H:=zj0 Pv h0 hl hs hd
theorem zop{T:String}{r:V->List V->Hp->VK->Prop}{tr:TA}(q:to σ H fun x H1=>tyV K T x H1/\tr σ H1 fun xs H2=>r x xs H2 Q):tBM K T r to tr σ H Q:=q
theorem zoe{l:Addr}{xs:List V}{A:Prop}(h:H l=some (.lst xs))(q:A):tyV K "list" (.ref l) H/\A:=⟨.inl ⟨rfl,xs,SqL.of h⟩,q⟩
theorem zkl{l:Addr}{xs:List V}{y:V}(h:H l=some (.lst xs))(hl:xs.length<sizeLine)(q:Q .non (upd H l (.lst (xs++[y])))):zbQ (.ref l) [y] H Q:=⟨l,xs,y,rfl,rfl,h,hl,q⟩
theorem znh{l:Addr}{xs:List V}{k:Int}{j:Nat}{v:V}{R:Hp->Prop}(h:H l=some (.lst xs))(e:ixN xs.length k=some j)(q:R (upd H l (.lst (xs.set j v)))):zew (.ref l) (.int k) v H R:=⟨l,xs,k,j,rfl,rfl,h,e,q⟩
theorem zjF{a:Addr}{xs:List V}(h:SqL K H a xs)(q:∀l,H l=none->Q (.ref l) (upd H l (.lst xs))):zcl K [.ref a] H Q:=⟨a,xs,rfl,.inl h,q⟩
theorem zeK{a:Addr}{xs:List V}{i:Int}{v:V}(h:H a=some (.lst xs))(e:atI xs i=some v)(q:Q v H):rIx K (.ref a) (.int i) H Q:=zhD (.of h) e q
theorem zov{r:V->Option Int->Option Int->Hp->VK->Prop}{tl th:TO}(q:te σ H fun x H1=>tl σ H1 fun l H2=>th σ H2 fun u H3=>r x l u H3 Q):tSl r te tl th σ H Q:=q
def zkT(R:Option Int->Hp->Prop)(x:V)(H:Hp):Prop:=∃i,x=.int i/\R (some i) H
theorem zne{R:Option Int->Hp->Prop}(q:te σ H (zkT R)):zkP te σ H R:=q
theorem zlB{R:Option Int->Hp->Prop}{i:Int}(q:R (some i) H):zkT R (.int i) H:=⟨i,rfl,q⟩
theorem zn3{a:Addr}{xs:List V}{lo hi:Option Int}(h:SqL K H a xs)(q:∀p,H p=none->Q (.ref p) (upd H p (.lst (zcf xs lo hi)))):zcU K (.ref a) lo hi H Q:=⟨a,xs,rfl,h,q⟩
end
theorem Same.fresh{H H':Hp}{l:Addr}(g:Same H H')(h:H' l=none):H l=none:=by
 cases e:H l with
 | none=>rfl
 | some o=>rw[g l o e]at h;cases h
theorem zgx{n:Nat}(h:n<=100000):n<sizeLine:=yD h (by decide)
theorem zbV{n:Nat}(h:n<=100000):n<=sizeLine:=y9 (zgx h)
def But(l:Addr)(H H':Hp):Prop:=∀b,b≠l->H' b=H b
theorem But.upd{H:Hp}{l:Addr}{o:HO}:But l H (Internal.upd H l o):=fun _ h=>zK h
theorem But.at{l:Addr}{H H':Hp}(g:But l H H'){a:Addr}{o:HO}(h:H a=some o)(n:a≠l):H' a=some o:=by rw[g a n];exact h
theorem But.same{l:Addr}{H0 H H':Hp}(g:But l H H')(e:Same H0 H)(h:H0 l=none):Same H0 H':=fun b o q=>by rw[g b (zG q h)];exact e b o q
def LBut(l:Addr)(H H':Hp):Prop:=But l H H'/\∃xs,H l=some (.lst xs)
theorem LBut.tup{l:Addr}{H H':Hp}(g:LBut l H H'){a:Addr}{xs:List V}(h:H a=some (.tup xs)):H' a=some (.tup xs):=by
 obtain⟨ys,e⟩:=g.2
 exact g.1.at h (za0 h e (by intro z;cases z))
theorem LBut.lst{l:Addr}{H H':Hp}(g:LBut l H H'){a:Addr}{o:HO}(h:H a=some o)(n:a≠l):H' a=some o:=g.1.at h n
theorem LBut.same{l:Addr}{H0 H H':Hp}(g:LBut l H H')(e:Same H0 H)(h:H0 l=none):Same H0 H':=g.1.same e h
theorem Same.at{H H':Hp}(e:Same H H'){a:Addr}{o:HO}(h:H a=some o):H' a=some o:=e a o h
theorem Same.isQ{H H':Hp}(e:Same H H'){a:Addr}{q:Rat}(h:IsQ H a q):IsQ H' a q:=h.same e
theorem SqL.keep{K:Fg}{H H':Hp}{a:Addr}{xs:List V}(h:SqL K H a xs)(e:Same H H'):SqL K H' a xs:=e.seq h
theorem Same.after{H H1 H2:Hp}(b:Same H1 H2)(a:Same H H1):Same H H2:=a.trans b
theorem Same.none{H H':Hp}{l:Addr}(h:H' l=none)(g:Same H H'):H l=none:=g.fresh h
theorem zmy{H:Hp}{a b:Addr}{o:HO}(h':H b=none)(h:H a=some o):a≠b:=zG h h'
theorem zcy{H:Hp}{a b:Addr}{o:HO}(h':H b=none)(h:H a=some o):b≠a:=(zG h h').symm
section
variable {σ:St}{H:Hp}{Q:VK}{D:Ends}{t u:TS}{K:Fg}
theorem zan{xs:List V}(hl:xs.length<=100000)(q:∀p H',H p=none->Same H H'->H' p=some (.tup xs)->Q (.ref p) H'):zdI Q xs H:=⟨zbV hl,fun p hp=>q p _ hp (Same.new hp _) zL⟩
theorem zmq{xs:List V}(hl:xs.length<=100000)(q:∀p H',H p=none->Same H H'->H' p=some (.lst xs)->Q (.ref p) H'):zkd Q xs H:=⟨zbV hl,fun p hp=>q p _ hp (Same.new hp _) zL⟩
theorem zgw{q:Rat}{x y:Int}(e:x=q.num/\y=(q.den:Int))(k:NewQ H Q q):zdI Q [.int x,.int y] H:=NewQ.mk k e
theorem zcq{l:Addr}{xs:List V}{y:V}(h:H l=some (.lst xs))(hl:xs.length<=100000)(q:∀H',LBut l H H'->H' l=some (.lst (xs++[y]))->Q .non H'):zbQ (.ref l) [y] H Q:=
 zkl h (zgx hl) (q _ ⟨But.upd,xs,h⟩ zL)
theorem zbi{l:Addr}{xs:List V}{k:Int}{j:Nat}{v:V}{R:Hp->Prop}(h:H l=some (.lst xs))(e:ixN xs.length k=some j)(q:∀H',LBut l H H'->H' l=some (.lst (xs.set j v))->R H'):zew (.ref l) (.int k) v H R:=
 znh h e (q _ ⟨But.upd,xs,h⟩ zL)
theorem zjb{a:Addr}{xs:List V}(h:SqL K H a xs)(q:∀p H',H p=none->Same H H'->H' p=some (.lst xs)->Q (.ref p) H'):zcl K [.ref a] H Q:=zjF h fun p hp=>q p _ hp (Same.new hp _) zL
theorem zmA{a:Addr}{xs:List V}{lo hi:Option Int}(h:SqL K H a xs)(q:∀p H',H p=none->Same H H'->H' p=some (.lst (zcf xs lo hi))->Q (.ref p) H'):zcU K (.ref a) lo hi H Q:=zn3 h fun p hp=>q p _ hp (Same.new hp _) zL
theorem zi7(i:Nat)(P:V->Hp->Prop)(q:t { D with nx:=fun σ' H'=>∃v,σ'=σ.set i (some v)/\P v H' } σ H)(r:∀v H',P v H'->u D (σ.set i (some v)) H'):zkg t u D σ H:=
 ⟨_,q,fun σ' H' ⟨v,e,p⟩=>by subst e;exact r v H' p⟩
end
theorem zjw{n:Nat}{k:Int}(h0:0<=k)(h:k<n):ixN n k=some k.toNat:=by unfold ixN;rw[if_pos h0,if_pos h]
theorem zaY{α:Type}{xs:List α}{k:Int}{v:α}(h0:0<=k)(h:xs[k.toNat]?=some v):atI xs k=some v:=by
 have e:k=(k.toNat:Int):=by omega
 rw[e];exact zcA h
section
variable {X:Cx}{pins:List (Addr × Obj)}{σ:St}{H:Hp}{s:Shared}{h':Heap}
theorem Inv.turnedL{t':Nat}{fp:List Addr}(I:Inv X pins σ H s)(k:∀b o,b∉fp->s.heap.get? b=some o->h'.get? b=some o)(f:∀b∈fp,zco X pins H b):Inv X pins σ H { s with heap:=h',toks:=t' }:=by
 have nit:∀b u,H b=some u->b∉fp:=fun b u e z=>by rw[(f b z).1]at e;cases e
 refine I.step (g':=s.gens) (d':=s.drawn) (ch:=fp) (fun b hb=>⟨(f b hb).2.2.2.1,(f b hb).2.1,(f b hb).2.2.2.2.1,(f b hb).2.2.2.2.2⟩) (fun b o _ _ hc e _=>k b o hc e) (fun b o _ _ hc e _=>⟨o.slots,k b o hc e⟩) (fun _ _ _ _ n=>n)
  (fun b o hc e=>⟨o,k b o hc e⟩) (fun _ _ e=>e) (fun _ _ _ e=>e) (fun b ps e=>⟨#[],by rw[e];simp⟩) (fun m hm=>?_) (fun b u e=>?_) I.bare
 ·obtain⟨o,es,ep,ho,r⟩:=hm
  exact⟨o,es,ep,k _ o (fun z=>(f _ z).2.1 rfl) ho,r⟩
 ·refine(I.hok b u e).stay (fun c v hc q=>k c v ?_ q) (fun _ q=>q) fun _ _ q=>q
  rcases hc with z | z
  ·rw[z];exact nit b u e
  ·exact nit c _ z
theorem Inv.turnedNew{t':Nat}{fp:List Addr}{p:Addr}{o:HO}(I:Inv X pins σ H s)(k:∀b o,b∉fp->s.heap.get? b=some o->h'.get? b=some o)(f:∀b∈fp,zco X pins H b)(hp:s.heap.objs.size<=p)(new:ObjOk X.prog X.w (upd H p o) h' p o) :
  Inv X pins σ (upd H p o) { s with heap:=h',toks:=t' }:=by
 have nit:∀b u,H b=some u->b∉fp:=fun b u e z=>by rw[(f b z).1]at e;cases e
 have hn:H p=none:=I.hok.fresh hp
 refine I.step (g':=s.gens) (d':=s.drawn) (ch:=fp) (fun b hb=>⟨(f b hb).2.2.2.1,(f b hb).2.1,(f b hb).2.2.2.2.1,(f b hb).2.2.2.2.2⟩) (fun b o _ _ hc e _=>k b o hc e) (fun b o _ _ hc e _=>⟨o.slots,k b o hc e⟩) (fun b u _ e n=>?_)
  (fun b o hc e=>⟨o,k b o hc e⟩) (fun b xs e=>by rw[zK (zG e hn)];exact e) (fun b u v e=>by rw[zK (zG e hn)];exact e) (fun b ps e=>⟨#[],by rw[zK (zG e hn),e];simp⟩) (fun m hm=>?_) (fun b u e=>?_) I.bare
 ·rw[zK (yn (yp (Heap.lt_size e) hp))];exact n
 ·obtain⟨o,es,ep,ho,r⟩:=hm
  exact⟨o,es,ep,k _ o (fun z=>(f _ z).2.1 rfl) ho,r⟩
 ·by_cases hb:b=p
  ·subst hb;rw[zL]at e;cases e;exact new
  ·rw[zK hb]at e
   refine(I.hok b u e).stay (fun c v hc q=>k c v ?_ q) (fun c q=>by rw[zK (zG q hn)];exact q) fun c xs q=>by rw[zK (zG q hn)];exact q
   rcases hc with z | z
   ·rw[z];exact nit b u e
   ·exact nit c _ z
end
theorem zbI{h:Heap}{a b:Addr}{o o':Obj}{m n:String}(e:h.get? a=some o)(c:o.cls=.type m)(e':h.get? b=some o')(c':o'.cls=.type n)(hc:(m == n)=false):a≠b:=by
 rintro rfl
 rw[e]at e'
 cases e'
 rw[c]at c'
 cases c'
 rw[beq_self_eq_true]at hc
 cases hc
theorem tup2{P:Program}{w:World}{H:Hp}{h:Heap}{p:Addr}{x y:V}{u v:Value}(e:h.get? p=some { cls:=.type "tuple",data:=.seq #[u,v] })(r1:RelV x u)(r2:RelV y v):ObjOk P w H h p (.tup [x,y]):=
 ⟨zbV (by simp),[u,v],.cons r1 (.cons r2 .nil),_,e,rfl,_,rfl⟩
def Itn(K:Fg)(a:Addr):It:=
 ⟨fun i H=>∃xs x,SqL K H a xs/\xs[i]?=some x,fun i H v H'=>∃p x,H p=none/\v=.ref p/\(∀xs,SqL K H a xs->xs[i]?=some x)/\H'=upd H p (.tup [.int i,x]),fun i H=>∃xs,SqL K H a xs/\xs.length<=i⟩
theorem ziY{P:Program}{w:World}{K:Fg}{es:List Expr}{kx:Nat}{tp:Pos}(a e it:Addr)(hne:e≠it):Turn P w K (.Tuple es kx tp) (Itn K a) [e,it] e (fun i h=>(∃old,IsEnum h e it i old)/\h.IsListIter it a i) where
 mem:=by simp
 obj:=fun i h st b hb=>by
  obtain⟨⟨old,h1⟩,o,h2,c,d⟩:=st
  rcases yf.mp hb with z | z
  ·subst z;exact⟨_,h1,fun v z=>by cases z⟩
  ·have e:b=it:=by simpa using z
   subst e
   exact⟨o,h2,fun v z=>by rw[d]at z;cases z⟩
 keep:=fun i h h' st k=>by
  obtain⟨⟨old,h1⟩,h2⟩:=st
  exact⟨⟨old,k e (by simp) _ h1⟩,h2.at fun o q=>k it (by simp) o q⟩
 item:=by
  intro X hP hw hK hc i pins s σ H E I hf st hg
  subst hP hw hK
  obtain⟨⟨old,he⟩,hit⟩:=st
  obtain⟨xs,x,hq,hx⟩:=hg
  obtain⟨its,rv,p,hz⟩:=I.list hq
  obtain⟨u,hu,ru⟩:=rv.get hx
  refine wpAny_pyNext_enum_item he hit p.isList (x:=u) (by simpa using hu) hne fun h1 eo it1 tp1 sz1 k1=>?_
  refine⟨_,rfl,wpAny_letOwnedTupleGo_enum eo fun h2 e2 sb2=>?_⟩
  have hes:e≠s.heap.objs.size:=yn (Heap.lt_size he)
  have sb2':Heap.SameBut e h1 h2:=sb2
  have t2:h2.get? s.heap.objs.size=some { cls:=.type "tuple",data:=.seq #[.int i s.toks,u] }:=(sb2'.2 _ (yaj hes)).trans tp1
  have k2:∀b o,b∉[e,it]->s.heap.get? b=some o->h2.get? b=some o:=fun b o hb q=>by
   have n1:b≠e:=fun z=>hb (by simp[z])
   have n2:b≠it:=fun z=>hb (by simp[z])
   exact(sb2'.2 b n1).trans (k1 b o n1 n2 q)
  have I2:Inv X pins σ (upd H s.heap.objs.size (.tup [.int i,x])) { s with heap:=h2,toks:=s.toks+1 }:=I.turnedNew k2 hf (yg _) (tup2 t2 ⟨_,rfl⟩ ru)
  have hn:H s.heap.objs.size=none:=I.hok.fresh (yg _)
  refine⟨.ref s.heap.objs.size,_,I2,rfl,⟨_,x,hn,rfl,fun ys hy=>by rw[I.list_inj hy hq];exact hx,rfl⟩,⟨⟨_,e2⟩,it1.at fun o q=>(sb2'.2 it (yaj hne)).trans q⟩,fun b hb=>?_⟩
  have hbs:b≠s.heap.objs.size:=by
   rcases yf.mp hb with z | z
   ·rw[z];exact hes
   ·have e:b=it:=by simpa using z
    subst e
    obtain⟨o,q,_⟩:=hit
    exact yn (Heap.lt_size q)
  rw[zK hbs]
  exact(hf b hb).1
 done:=by
  intro X hP hw hK hc i pins s σ H E I hf st hg
  subst hP hw hK
  obtain⟨⟨old,he⟩,hit⟩:=st
  obtain⟨xs,hq,hx⟩:=hg
  obtain⟨its,rv,p,hz⟩:=I.list hq
  have hl:=rv.length
  refine wpAny_pyNext_enum_end (I.ok.hd hc) he hit p.isList (by simp;omega) fun h1 eb=>⟨rfl,I.turnedL (t':=s.toks) (fp:=[e,it]) (fun b o hb q=>eb b o (fun z=>hb (by simp[z])) q) hf⟩
 self:=fun _ _ _ _ _ st h=>by
  obtain⟨⟨old,he⟩,_⟩:=st
  exact wpAny_pyIter_enum he h
def Itz(K:Fg)(a b:Addr):It:=
 ⟨fun i H=>∃xs ys x y,SqL K H a xs/\SqL K H b ys/\xs[i]?=some x/\ys[i]?=some y,fun i H v H'=>∃p x y,H p=none/\v=.ref p/\(∀xs,SqL K H a xs->xs[i]?=some x)/\(∀ys,SqL K H b ys->ys[i]?=some y)/\H'=upd H p (.tup [x,y]),
  fun i H=>∃xs ys,SqL K H a xs/\SqL K H b ys/\(xs.length<=i\/ys.length<=i)⟩
theorem zgD{h:Heap}{z TI TO i1 i2 a b:Addr}{f0 x1 y1 x2 y2:Value}{k1 k2:Nat}{xs ys:Array Value}(hz:IsZip h z TI TO f0)(hTI:IsPair h TI x1 y1)(hTO:IsPair h TO x2 y2)(h1:h.IsListIter i1 a k1)(h2:h.IsListIter i2 b k2)
  (l1:h.IsList a xs) (l2:h.IsList b ys) (nT:TI≠TO) (ni:i1≠i2):ZipApart z TI TO i1 i2 a b:=by
 obtain⟨o1,e1,c1,_⟩:=h1
 obtain⟨o2,e2,c2,_⟩:=h2
 obtain⟨m1,g1,d1,_⟩:=l1
 obtain⟨m2,g2,d2,_⟩:=l2
 exact⟨zbI hTI rfl hz rfl (by decide),zbI hTO rfl hz rfl (by decide),zbI e1 c1 hz rfl (by decide),zbI e2 c2 hz rfl (by decide),nT,zbI hTI rfl e1 c1 (by decide),zbI hTI rfl e2 c2 (by decide),zbI hTO rfl e1 c1 (by decide),zbI hTO rfl e2 c2 (by decide),ni,zbI g1 d1 hz rfl (by decide),zbI g1 d1 hTO rfl (by decide),zbI g1 d1 e1 c1 (by decide),zbI g1 d1 e2 c2 (by decide),zbI g2 d2 hz rfl (by decide),zbI g2 d2 hTO rfl (by decide),zbI g2 d2 e1 c1 (by decide),zbI g2 d2 e2 c2 (by decide)⟩
theorem zjW{P:Program}{w:World}{K:Fg}{es:List Expr}{kx:Nat}{tp:Pos}(a b z TI TO i1 i2:Addr)(nT:TI≠TO)(ni:i1≠i2):Turn P w K (.Tuple es kx tp) (Itz K a b) [z,TI,TO,i1,i2] z
  (fun i h=>IsZip h z TI TO .none/\IsPair h TI (.ref i1) (.ref i2)/\(∃x y,IsPair h TO x y)/\h.IsListIter i1 a i/\h.IsListIter i2 b i) where
 mem:=by simp
 obj:=fun i h st c hb=>by
  obtain⟨hz,hTI,⟨x,y,hTO⟩,⟨o1,e1,c1,d1⟩,⟨o2,e2,c2,d2⟩⟩:=st
  simp only[yf,yz,or_false]at hb
  rcases hb with rfl | rfl | rfl | rfl | rfl
  ·exact⟨_,hz,fun v q=>by cases q⟩
  ·exact⟨_,hTI,fun v q=>by cases q⟩
  ·exact⟨_,hTO,fun v q=>by cases q⟩
  ·exact⟨_,e1,fun v q=>by rw[d1]at q;cases q⟩
  ·exact⟨_,e2,fun v q=>by rw[d2]at q;cases q⟩
 keep:=fun i h h' st k=>by
  obtain⟨hz,hTI,⟨x,y,hTO⟩,h1,h2⟩:=st
  exact⟨k z (by simp) _ hz,k TI (by simp) _ hTI,⟨x,y,k TO (by simp) _ hTO⟩,h1.at fun o q=>k i1 (by simp) o q,h2.at fun o q=>k i2 (by simp) o q⟩
 item:=by
  intro X hP hw hK hc i pins s σ H E I hf st hg
  subst hP hw hK
  obtain⟨hz,hTI,⟨x0,y0,hTO⟩,h1,h2⟩:=st
  obtain⟨xs,ys,x,y,hq,hq',hx,hy⟩:=hg
  obtain⟨its,rv,p,hsz⟩:=I.list hq
  obtain⟨jts,rv',p',hsz'⟩:=I.list hq'
  obtain⟨u,hu,ru⟩:=rv.get hx
  obtain⟨u',hu',ru'⟩:=rv'.get hy
  have A:=zgD hz hTI hTO h1 h2 p.isList p'.isList nT ni
  refine wpAny_pyNext_zip_item A hz hTI hTO h1 h2 p.isList p'.isList (x:=u) (y:=u') (by simpa using hu) (by simpa using hu') fun g1 z1 to1 j1 j2 t1 sz1 k1=>?_
  refine⟨_,rfl,wpAny_letOwnedTupleGo_zip z1 fun g2 z2 sb2=>?_⟩
  have sb2':Heap.SameBut z g1 g2:=sb2
  have hzs:z≠s.heap.objs.size:=yn (Heap.lt_size hz)
  have t2:g2.get? s.heap.objs.size=some { cls:=.type "tuple",data:=.seq #[u,u'] }:=(sb2'.2 _ (yaj hzs)).trans t1
  have k2:∀c o,c∉[z,TI,TO,i1,i2]->s.heap.get? c=some o->g2.get? c=some o:=fun c o hb q=>by
   have n1:c≠z:=fun z=>hb (by simp[z])
   exact(sb2'.2 c n1).trans (k1 c o n1 (fun z=>hb (by simp[z])) (fun z=>hb (by simp[z])) (fun z=>hb (by simp[z])) q)
  have I2:Inv X pins σ (upd H s.heap.objs.size (.tup [x,y])) { s with heap:=g2,toks:=s.toks }:=I.turnedNew k2 hf (yg _) (tup2 t2 ru ru')
  have hn:H s.heap.objs.size=none:=I.hok.fresh (yg _)
  refine⟨.ref s.heap.objs.size,_,I2,rfl,⟨_,x,y,hn,rfl,fun ys hy'=>by rw[I.list_inj hy' hq];exact hx,fun ys hy'=>by rw[I.list_inj hy' hq'];exact hy,rfl⟩,
   ⟨z2,(sb2'.2 TI A.TIz).trans (k1 TI _ A.TIz A.TITO A.TIi1 A.TIi2 hTI),⟨_,_,(sb2'.2 TO A.TOz).trans to1⟩,j1.at fun o q=>(sb2'.2 i1 A.i1z).trans q,j2.at fun o q=>(sb2'.2 i2 A.i2z).trans q⟩,fun c hb=>?_⟩
  have hbs:c≠s.heap.objs.size:=by
   simp only[yf,yz,or_false]at hb
   obtain⟨o1,e1,_⟩:=h1
   obtain⟨o2,e2,_⟩:=h2
   rcases hb with rfl | rfl | rfl | rfl | rfl
   ·exact hzs
   ·exact yn (Heap.lt_size hTI)
   ·exact yn (Heap.lt_size hTO)
   ·exact yn (Heap.lt_size e1)
   ·exact yn (Heap.lt_size e2)
  rw[zK hbs]
  exact(hf c hb).1
 done:=by
  intro X hP hw hK hc i pins s σ H E I hf st hg
  subst hP hw hK
  obtain⟨hz,hTI,⟨x0,y0,hTO⟩,h1,h2⟩:=st
  obtain⟨xs,ys,hq,hq',hx⟩:=hg
  obtain⟨its,rv,p,hsz⟩:=I.list hq
  obtain⟨jts,rv',p',hsz'⟩:=I.list hq'
  have hl:=rv.length
  have hl':=rv'.length
  have A:=zgD hz hTI hTO h1 h2 p.isList p'.isList nT ni
  refine wpAny_pyNext_zip_end (I.ok.hd hc) A hz hTI hTO h1 h2 p.isList p'.isList ?_ fun g1 k1=>⟨rfl,I.turnedL (t':=s.toks) (fp:=[z,TI,TO,i1,i2]) (fun c o hb q=>k1 c o (fun z=>hb (by simp[z])) (fun z=>hb (by simp[z])) (fun z=>hb (by simp[z])) (fun z=>hb (by simp[z])) q) hf⟩
  rcases hx with q | q
  ·exact .inl (by simp;omega)
  ·exact .inr (by simp;omega)
 self:=fun _ _ _ _ _ st h=>wpAny_pyIter_zip st.1 h
section
variable {X:Cx}{es:List Expr}{kx:Nat}{tp:Pos}
def zhz(K:Fg)(R:It->Hp->Prop)(vs:List V)(H:Hp):Prop:=∃a,vs=[.ref a]/\(∃xs,SqL K H a xs)/\R (Itn K a) H
def zkb(K:Fg)(R:It->Hp->Prop)(vs:List V)(H:Hp):Prop:=∃a b,vs=[.ref a,.ref b]/\(∃xs,SqL K H a xs)/\(∃ys,SqL K H b ys)/\R (Itz K a b) H
abbrev zk4(K:Fg)(ta:TA):TI:=fun σ H R=>ta σ H (zhz K R)
abbrev zmd(K:Fg)(ta:TA):TI:=fun σ H R=>ta σ H (zkb K R)
theorem zln{a:Expr}{ta:TA}{p pos:Pos}(hg:Gl X "enumerate")(hm:X.mg "enumerate" = none)(ha:PA X [a] ta)(hs:autoParam (starEach [a] X.env=[(false,eval a X.env)]) Internal.aut2._auto_1):PI X (.Tuple es kx tp) (.Call (.Name "enumerate" p) [a] [] pos) (zk4 X.K ta):=by
 intro pins s σ H R I h
 refine Call_ (zcI I hg hm boot_enumerate (y4 (thn (ha pos pins s σ H _ I h) fun us s1 ⟨vs,H1,I1,r1,q1⟩=>?_) hs rfl))
 obtain⟨l,e,⟨xs,hq⟩,q⟩:=q1
 subst e
 obtain⟨u,rfl,r⟩:=vals1 r1
 cases r
 obtain⟨its,rv,pl,hz⟩:=I1.list hq
 refine call_enumerate_list pl.isList fun h1 e1 i1 sz1 k1=>?_
 refine wpAny_pyIter_enum e1 ?_
 have I2:Inv X pins σ H1 { s1 with heap:=h1,toks:=s1.toks }:=I1.kept k1
 refine⟨s1.heap.objs.size+1,[s1.heap.objs.size+1,s1.heap.objs.size],_,_,H1,rfl,I2,ziY l _ _ (Nat.succ_ne_self _),⟨⟨_,e1⟩,i1⟩,fun b hb=>?_,q⟩
 have hb':s1.heap.objs.size<=b:=by
  simp only[yf,yz,or_false]at hb
  rcases hb with rfl | rfl<;>omega
 exact I1.fpOk hb' (I1.hok.fresh hb')
theorem zm0{a b:Expr}{ta:TA}{p pos:Pos}(hg:Gl X "zip")(hm:X.mg "zip" = none)(ha:PA X [a,b] ta)(hs:autoParam (starEach [a,b] X.env=[(false,eval a X.env),(false,eval b X.env)]) Internal.aut2._auto_1)(hs2:autoParam (starEach [b] X.env=[(false,eval b X.env)]) Internal.aut2._auto_1) :
  PI X (.Tuple es kx tp) (.Call (.Name "zip" p) [a,b] [] pos) (zmd X.K ta):=by
 intro pins s σ H R I h
 refine Call_ (zcI I hg hm boot_zip (y4 (thn (ha pos pins s σ H _ I h) fun us s1 ⟨vs,H1,I1,r1,q1⟩=>?_) (by rw[hs,hs2]) (by rw[hs2];rfl)))
 obtain⟨l,m,e,⟨xs,hq⟩,⟨ys,hq'⟩,q⟩:=q1
 subst e
 obtain⟨u,u',rfl,r,r'⟩:=vals2 r1
 cases r
 cases r'
 obtain⟨its,rv,pl,hz⟩:=I1.list hq
 obtain⟨jts,rv',pl',hz'⟩:=I1.list hq'
 refine call_zip_2 pl.isList pl'.isList fun h1 z1 ti to i1 i2 sz1 k1=>?_
 refine wpAny_pyIter_zip z1 ?_
 have I2:Inv X pins σ H1 { s1 with heap:=h1,toks:=s1.toks }:=I1.kept k1
 refine⟨s1.heap.objs.size+4,[s1.heap.objs.size+4,s1.heap.objs.size+2,s1.heap.objs.size+3,s1.heap.objs.size,s1.heap.objs.size+1],_,_,H1,rfl,I2,zjW l m _ _ _ _ _ (yn (y3 _)) (yn (y3 _)),⟨z1,ti,⟨_,_,to⟩,i1,i2⟩,fun b hb=>?_,q⟩
 have hb':s1.heap.objs.size<=b:=by
  simp only[yf,yz,or_false]at hb
  rcases hb with rfl | rfl | rfl | rfl | rfl<;>omega
 exact I1.fpOk hb' (I1.hok.fresh hb')
end
section
variable {X:Cx}
theorem Inv.walk{pins:List (Addr × Obj)}{σ:St}{H:Hp}{s:Shared}{a:Addr}{xs:List V}(I:Inv X pins σ H s)(hq:SqL X.K H a xs):∃its:List Value,Vals xs its/\s.heap.IsList a its.toArray/\its.length=xs.length/\a<s.heap.objs.size:=by
 obtain⟨its,rv,pl,hz⟩:=I.list hq
 obtain⟨o,e,_⟩:=id pl.isList
 exact⟨its,rv,pl.isList,rv.length.symm,Heap.lt_size e⟩
def zcc(ns:List Int):Int:=ns.foldl (·+·) 0
theorem zc4(ns:List Int)(n:Int):zcc (ns++[n])=zcc ns+n:=by unfold zcc;rw[List.foldl_append];rfl
theorem zd8(ns:List Int):∀j,j<=ns.length->preSum (fun i=>ns.getD i 0) j=zcc (ns.take j)
 | 0,_=>rfl
 | j+1,h=>by
  have hj:j<ns.length:=by omega
  rw[preSum,zd8 ns j (by omega),List.take_succ_eq_append_getElem hj,zc4]
  simp[List.getD,hj]
def zes(K:Fg):List V->Hp->VK->Prop:=fun xs H Q=>∃a ns,xs=[.ref a]/\SqL K H a (List.map V.int ns)/\Q (.int (zcc ns)) H
theorem zdD{ns:List Int}{its:List Value}{i:Nat}{v:Value}(rv:Vals (ns.map V.int) its)(h:its.toArray[i]?=some v):∃t,v=.int (ns.getD i 0) t:=by
 have hl:=rv.length
 rw[ya]at hl
 have hi:i<ns.length:=by
  have:=(Array.getElem?_eq_some_iff.mp h).1
  simp at this;omega
 obtain⟨u,hu,r⟩:=rv.get (show(ns.map V.int)[i]?=some (.int (ns.getD i 0)) by simp[List.getD,hi])
 have:v=u:=by
  have h':its[i]?=some v:=by simpa using h
  rw[hu]at h';exact(yo h').symm
 obtain⟨t,rfl⟩:=r
 exact⟨t,this⟩
theorem zc0(hc:X.calm=true):CallR X (.builtin "sum") (zes X.K):=by
 intro pins s σ H xs us Q I r h
 obtain⟨a,ns,rfl,hq,q⟩:=h
 obtain⟨u,rfl,r1⟩:=vals1 r
 cases r1
 obtain⟨its,rv,pl,hl,hlt⟩:=I.walk hq
 refine call_sum_walkAnyS (wpAny_pyIter_list pl ?_)
 have hne:a≠s.heap.objs.size:=yn hlt
 refine⟨_,_,_,_,_,_,_,fun i=>ns.getD i 0,rfl,(Walks.list (prog:=X.prog) (w:=X.w) (A:=X.A.in1) (I.ok.hd hc) s.heap.objs.size a hne its.toArray).toS,⟨⟨_,Heap.get?_push_size _ rfl,rfl,rfl⟩,pl.at fun o e=>Heap.get?_push_of_some _ e⟩,fun b hb=>?_,fun i v hv=>zdD rv hv,fun s' t' hm=>?_⟩
 ·rw[Heap.size_push]
  simp only[yf,yz,or_false]at hb
  rcases hb with rfl | rfl
  ·exact y3 _
  ·exact yaM hlt
 ·have hn:(its.toArray).size=ns.length:=by rw[ya]at hl;simpa using hl
  rw[hn,zd8 ns _ (yg _),yaw]
  have hg:s'.gens=s.gens:=by have:=hm.gens;first | exact this | exact this.symm
  have hd:=hm.drawn
  have ho:=hm.os
  have I1:Inv X pins σ H { s with heap:=s'.heap,toks:=s'.toks }:=I.kept fun b o e=>hm.heap b o (fun z=>by
   simp only[yf,yz,or_false]at z
   subst z
   exact absurd (Heap.lt_size e) (yN _)) (Heap.get?_push_of_some _ e)
  have e:({ s with heap:=s'.heap,toks:=s'.toks }:Shared)=s':=by
   cases s';cases s
   simp only at hg hd ho
   subst hg hd ho;rfl
  rw[e]at I1
  exact⟨.int (zcc ns),H,I1,⟨t',rfl⟩,q⟩
end
theorem ObjOk.obj{P:Program}{w:World}{H:Hp}{h:Heap}{a:Addr}{o:HO}(x:ObjOk P w H h a o):∃u,h.get? a=some u:=by
 cases o with
 | lst xs=>exact⟨_,x.2.choose_spec.choose_spec.2⟩
 | tup xs=>obtain⟨_,_,_,ob,e,_⟩:=x;exact⟨ob,e⟩
 | dK kvs=>obtain⟨_,_,_,_,ob,_,_,e,_⟩:=x;exact⟨ob,e⟩
 | dT kvs=>obtain⟨_,_,_,_,ob,_,_,e,_⟩:=x;exact⟨ob,e⟩
 | set S n=>obtain⟨ob,_,_,_,e,_⟩:=x;exact⟨ob,e⟩
 | ins C dx fs=>exact⟨_,x.2.2.2.1⟩
 | own y=>exact x
 | xd fs=>obtain⟨_,⟨ob,_,_,e,_⟩,_⟩:=x;exact⟨ob,e⟩
 | rng lo hi=>obtain⟨_,_,_,e⟩:=x;exact⟨_,e⟩
 | frz ob u=>exact⟨ob,x.1⟩
 | tbl ps=>exact⟨_,show h.get? a=some _ from x⟩
 | met f y=>exact⟨_,show h.get? a=some _ from x⟩
 | ext φ=>exact x.2.1
def DK{α:Type}:Sem α->Prop
 | .pure _=>True
 | .raise _=>True
 | .unsupported _=>True
 | .finish _=>True
 | .rule _ k=>DK (k ())
 | .at _ k=>DK (k ())
 | .load _ _ k=>∀o,DK (k o)
 | .update _ _ f k=>(∀o,(f o).dict=o.dict)/\DK (k ())
 | .alloc _ k=>∀a,DK (k a)
 | .loadIfAlive _ k=>∀o,DK (k o)
 | .point _ k=>DK (k ())
 | .fresh k=>∀t,DK (k t)
 | .ask k=>∀t,DK (k t)
 | .handled _ k=>∀t,DK (k t)
 | .stack k=>∀t,DK (k t)
 | .thread k=>∀t,DK (k t)
 | _=>False
theorem DK.bind{α β:Type}{m:Sem α}{f:α->Sem β}(hm:DK m)(hf:∀a,DK (f a)):DK (m >>= f):=by
 show DK (Sem.bind m f)
 induction m with
 | pure a=>exact hf a
 | raise e=>trivial
 | unsupported w=>trivial
 | finish e=>trivial
 | rule t k ih=>exact ih () hm
 | «at» p k ih=>exact ih () hm
 | load a p k ih=>exact fun o=>ih o (hm o)
 | update a p g k ih=>exact⟨hm.1,ih () hm.2⟩
 | alloc o k ih=>exact fun a=>ih a (hm a)
 | loadIfAlive a k ih=>exact fun a=>ih a (hm a)
 | point l k ih=>exact ih () hm
 | fresh k ih=>exact fun a=>ih a (hm a)
 | ask k ih=>exact fun a=>ih a (hm a)
 | handled o k ih=>exact fun a=>ih a (hm a)
 | stack k ih=>exact fun a=>ih a (hm a)
 | thread k ih=>exact fun a=>ih a (hm a)
 | _=>exact hm.elim
def Bare(er:Addr)(s:Shared):Prop:=∃o,s.heap.objs[er]?=some o/\o.dict=none
theorem DK.wp{α:Type}{M:Model}{Γ:PySem.Ctx}{er:Addr}{t:Sem α}(h:DK t):∀{Q:α->Pos->Shared->Prop} {E:Value->Pos->Shared->Prop} {p:Pos} {s:Shared},Bare er s->Sem.wp M Γ t Q E p s ->
  Sem.wp M Γ t (fun a p s'=>Q a p s'/\Bare er s') (fun e p s'=>E e p s'/\Bare er s') p s:=by
 induction t with
 | pure a=>intro Q E p s b w;rw[Sem.wp]at *;exact⟨w,b⟩
 | raise e=>intro Q E p s b w;rw[Sem.wp]at *;exact⟨w,b⟩
 | unsupported _=>intro Q E p s b w;rw[Sem.wp]at *;exact w
 | finish _=>intro Q E p s b w;rw[Sem.wp]at *;exact w
 | rule t k ih=>intro Q E p s b w;rw[Sem.wp]at *;exact ih () h b w
 | «at» q k ih=>intro Q E p s b w;rw[Sem.wp]at *;exact ih () h b w
 | load a q k ih=>
  intro Q E p s b w;rw[Sem.wp]at *
  obtain⟨o,e,w⟩:=w
  exact⟨o,e,ih o (h o) b w⟩
 | update a q g k ih=>
  intro Q E p s b w;rw[Sem.wp]at *
  refine⟨w.1,ih () h.2 ?_ w.2⟩
  obtain⟨o,e,d⟩:=b
  by_cases c:a=er
  ·subst c
   exact⟨g o,by simp[Heap.update,Array.getElem?_modify,e],by rw[h.1];exact d⟩
  ·exact⟨o,by simp[Heap.update,Array.getElem?_modify,c,e],d⟩
 | alloc o k ih=>
  intro Q E p s b w;rw[Sem.wp]at *
  refine ih _ (h _) ?_ w
  obtain⟨o',e,d⟩:=b
  refine⟨o',?_,d⟩
  have hl:er<s.heap.objs.size:=(Array.getElem?_eq_some_iff.mp e).1
  show(s.heap.objs.push o)[er]?=some o'
  rw[Array.getElem?_push]
  rw[if_neg (yn hl)];exact e
 | loadIfAlive a k ih=>intro Q E p s b w;rw[Sem.wp]at *;exact ih _ (h _) b w
 | point l k ih=>intro Q E p s b w;rw[Sem.wp]at *;exact ih () h b w
 | fresh k ih=>intro Q E p s b w;rw[Sem.wp]at *;exact ih _ (h _) b w
 | ask k ih=>intro Q E p s b w;rw[Sem.wp]at *;exact ih _ (h _) b w
 | handled o k ih=>intro Q E p s b w;rw[Sem.wp]at *;exact ih _ (h _) b w
 | stack k ih=>intro Q E p s b w;rw[Sem.wp]at *;exact ih _ (h _) b w
 | thread k ih=>intro Q E p s b w;rw[Sem.wp]at *;exact ih _ (h _) b w
 | _=>exact h.elim
theorem DK.any{α:Type}{M:Model}{A:Around}{er:Addr}{t:Sem α}{Q:α->Shared->Prop}{E:Value->Shared->Prop}{s:Shared}(h:DK t)(b:Bare er s)(w:wpAny M A t Q E s):wpAny M A t (fun a s'=>Q a s'/\Bare er s') (fun e s'=>E e s'/\Bare er s') s:=
 fun Γ p hΓ=>h.wp b (w Γ p hΓ)
theorem Bare.get{er:Addr}{s:Shared}{o:Obj}(b:Bare er s)(e:s.heap.get? er=some o):o.dict=none:=by
 obtain⟨o',e',d⟩:=b
 obtain⟨e1,_⟩:=Heap.get?_some_iff.mp e
 rw[e']at e1;cases e1;exact d
theorem ze9(f:Array Value->Array Value)(o:Obj):(o.mapFields f).dict=o.dict:=by
 obtain⟨c,d,dt,sl⟩:=o;cases dt<;>rfl
theorem zfe{a:Addr}:DK (load a):=fun _=>trivial
theorem zdi(v:Value)(i:Nat):DK (field v i):=by
 unfold field fieldsOf
 refine DK.bind ?_ fun x=>?_
 ·cases v<;>try trivial
  refine DK.bind zfe fun o=>?_
  split<;>trivial
 ·split<;>trivial
theorem zc7(v:Value)(i:Nat)(x:Value):DK (setField v i x):=by
 unfold setField updateField
 cases v<;>try trivial
 refine DK.bind zfe fun o=>?_
 split
 ·split
  ·exact⟨fun o=>ze9 _ o,trivial⟩
  ·trivial
 ·trivial
theorem zcT(e:Value)(f:Option Addr):DK (setFlight e f):=by
 unfold setFlight
 refine DK.bind (zdi _ _) fun tb=>?_
 split
 ·exact zc7 _ _ _
 ·trivial
theorem zlb(env:Env)(i:Bool)(l:List Env):DK (keptBack env i l):=by
 unfold keptBack
 cases l with
 | nil=>
  simp only
  split
  ·trivial
  ·refine DK.bind ?_ fun _=>trivial
   unfold underTheClaimsCaller
   exact fun _=>trivial
 | cons c r=>trivial
theorem zjj(env:Env)(l:List Env):DK (behindIsImport env l):=by
 unfold behindIsImport
 split
 ·trivial
 ·split
  ·trivial
  ·exact DK.bind (zdi _ _) fun _=>trivial
theorem zge:∀l:List Env,DK (readyFrames l)
 | []=>trivial
 | env :: outer=>by
  unfold readyFrames
  split
  ·refine DK.bind zfe fun o=>?_
   split
   ·trivial
   ·refine DK.bind (zjj _ _) fun _=>DK.bind (zlb _ _ _) fun _=>DK.bind ⟨fun _=>rfl,trivial⟩ fun _=>zge outer
  ·trivial
theorem ze3(l:List Env):DK (frameObject l):=by
 cases l with
 | nil=>trivial
 | cons env outer=>exact DK.bind (zge _) fun _=>trivial
theorem zif(env:Env):DK (PySem.frameOf env):=by
 unfold PySem.frameOf frameEnvs
 refine DK.bind (DK.bind (fun _=>trivial) fun _=>trivial) fun _=>DK.bind (ze3 _) fun o=>?_
 split<;>trivial
theorem zki(f:Addr)(b:Bool):DK (entryPlaceOf f b):=by
 unfold entryPlaceOf
 refine DK.bind (fun _=>trivial) fun acts=>?_
 split<;>trivial
theorem zhg(T:String)(d:Data):DK (newObjAsIs (.type T) d):=by
 unfold newObjAsIs
 exact fun _=>trivial
theorem zmU(T:String)(vs:Array Value):DK (newObj (.type T) (.fields vs)):=by
 unfold newObj
 simp only
 split
 ·exact DK.bind (m:=unsupported "record:memory") trivial fun _=>zhg _ _
 ·exact zhg _ _
theorem zj8(a b c d e:Value)(pl:List Value):DK (EntryCells.newEntry a b c d e pl):=zmU _ _
theorem zg8(e:Value)(env:Env):DK (noteFrame e env):=by
 unfold noteFrame
 have fin:∀(head:Value) (f:Addr),DK (do setField e 1 (<- EntryCells.newEntry head (<- frameOf env) .none (rawInt f) .none (<- entryPlaceOf f (head != .none)))):=fun head f=>
  DK.bind (zif _) fun _=>DK.bind (zki _ _) fun _=>DK.bind (zj8 _ _ _ _ _ _) fun _=>zc7 _ _ _
 split
 ·refine DK.bind (zdi _ _) fun head=>?_
  split
  ·refine DK.bind (zdi _ _) fun x=>?_
   split
   ·trivial
   ·exact DK.bind (zc7 _ _ _) fun _=>fin _ _
  ·exact fin _ _
 ·trivial
theorem zeV(env:Env)(e:Value):DK (leaving env e):=DK.bind (zg8 _ _) fun _=>zcT _ _
set_option genInjectivity false in
set_option genSizeOf false in
structure Fly(P:Program)(w:World)(outer:List Env)(H:Hp)(s:Shared)(H':Hp)(er C t:Addr)(B:Heap)(s':Shared):Prop where
 os:s'.os=s.os
 bare:AllBare s'.gens
 un:Un (frs outer) [] H H' s.heap s'.heap
 hok:HOk P w H' s'.heap
 fly:Heap.FlyingW B outer er (.ref C) (.ref t) s'.heap
 old:∀b o,s.heap.get? b=some o->H b=none->b∉frs outer->B.get? b=some o
 has:∀b o,s.heap.get? b=some o->b∉frs outer->∃u,B.get? b=some u
 trk:∀b o u,H' b=some o->s'.heap.get? b=some u->B.get? b=some u
 nod:Bare er s'
def CXF(P:Program)(w:World):CXT:=fun outer H s E e s'=>∃er C t B H',e=.ref er/\Fly P w outer H s H' er C t B s'/\E (.ref C) none H'
theorem zw{P:Program}{w:World}:NoX (CXF P w):=fun _ _ _ _ _ ⟨_,_,_,_,_,_,_,h⟩=>h
section
variable {P:Program}{w:World}{outer:List Env}{H H':Hp}{s s':Shared}{er C t:Addr}{B h:Heap}
theorem Fly.noTrk(F:Fly P w outer H s H' er C t B s'):H' er=none:=by
 cases e:H' er with
 | none=>rfl
 | some o=>
  obtain⟨ob,q,_⟩:=F.fly.there
  have z:=F.trk er o ob e q
  rw[F.fly.2.1]at z;cases z
theorem Fly.unAt(F:Fly P w outer H s H' er C t B s')(fr:s.heap.FunFrames base outer)(st:B.StaysIn h)(up:s'.heap.UpToSlots h):Un (frs outer) [] H H' s.heap h where
 keep:=fun b o q n hb _=>st b o (F.old b o q n hb)
 slot:=fun b o q n hb _=>by
  obtain⟨sl,e1⟩:=F.un.slot b o q n hb (by simp)
  obtain⟨_,o',e',nf⟩:=fr.mem hb
  rw[q]at e';cases e'
  obtain⟨sl',e2⟩:=up b _ e1 nf
  exact⟨sl',e2⟩
 free:=F.un.free
 there:=fun b o q _=>by
  by_cases hb:b∈frs outer
  ·obtain⟨_,o',e',nf⟩:=fr.mem hb
   rw[q]at e';cases e'
   cases hn:H b with
   | none=>
    obtain⟨sl,e1⟩:=F.un.slot b o q hn hb (by simp)
    obtain⟨sl',e2⟩:=up b _ e1 nf
    exact⟨_,e2⟩
   | some x=>
    obtain⟨_,o1,e1,nf1⟩:=F.fly.2.2.1.mem hb
    obtain⟨sl',e2⟩:=up b _ e1 nf1
    exact⟨_,e2⟩
  ·obtain⟨u,e⟩:=F.has b o q hb
   exact⟨u,st b u e⟩
 tups:=F.un.tups
 frzs:=F.un.frzs
 tbls:=F.un.tbls
theorem Fly.hokAt(F:Fly P w outer H s H' er C t B s')(st:B.StaysIn h):HOk P w H' h:=fun a o e=>
 (F.hok a o e).stay (fun b u hb q=>st b u (by
  rcases hb with rfl | hb
  ·exact F.trk b o u e q
  ·exact F.trk b _ u hb q)) (fun _ q=>q) fun _ _ q=>q
def zeR(er C:Addr)(h:Heap):Prop:=∃oe:Obj,PySem.W.InstAt h er oe C none
def zca(er C:Addr):HO:=.ext (zeR er C)
theorem zkc{l:List Env}{a0:Value}{B h:Heap}{s:Shared}{er C:Addr}(f:Heap.FlyingW B l er (.ref C) a0 h)(b:Bare er { s with heap:=h }):zeR er C h:=by
 obtain⟨oe,vs,e,c,d,_⟩:=f.first
 have nd:oe.dict=none:=b.get e
 exact⟨oe,e,c,by unfold PySem.W.notCls;rw[d],by rw[nd];trivial⟩
theorem Fly.unEr(F:Fly P w outer H s H' er C t B s')(u:Un (frs outer) [] H H' s.heap h):Un (frs outer) [] H (upd H' er (zca er C)) s.heap h:=by
 have ne:∀b o,s.heap.get? b=some o->b≠er:=fun b o q z=>by
  subst z
  by_cases hb:b∈frs outer
  ·obtain⟨_,o1,e1,nf1⟩:=F.fly.2.2.1.mem hb
   obtain⟨oe,vs,e2,_,d,_⟩:=F.fly.first
   rw[e1]at e2;cases e2
   exact nf1 vs d
  ·obtain⟨u,e⟩:=F.has b o q hb
   rw[F.fly.2.1]at e;cases e
 have nt:=F.noTrk
 exact⟨u.keep,u.slot,fun b o q n hx=>by rw[zK (ne b o q)];exact u.free b o q n hx,u.there,fun b xs q=>by
   rw[zK (zG (u.tups b xs q) nt)];exact u.tups b xs q,fun b o v q=>by
   rw[zK (zG (u.frzs b o v q) nt)];exact u.frzs b o v q,fun b ps q=>by
   obtain⟨m,e⟩:=u.tbls b ps q
   exact⟨m,by rw[zK (zG e nt)];exact e⟩⟩
theorem zmt(hk:HOk P w H' h)(nt:H' er=none)(he:zeR er C h):HOk P w (upd H' er (zca er C)) h:=fun a o e=>by
 by_cases ha:a=er
 ·subst ha
  rw[zL]at e;cases e
  obtain⟨oe,i⟩:=he
  refine⟨⟨oe,i⟩,⟨oe,i.at_⟩,fun h1 h2 ⟨o1,i1⟩ k=>⟨o1,k o1 i1.at_,i1.cls,i1.no,?_⟩⟩
  have z:=i1.dict
  cases hd:o1.dict with
  | none=>trivial
  | some dx=>rw[hd]at z;exact z.elim
 ·rw[zK ha]at e
  exact(hk a o e).stay (fun _ _ _ q=>q) (fun b q=>by rw[zK (zG q nt)];exact q) fun b xs q=>by rw[zK (zG q nt)];exact q
end
def bmV:List Value:=[.type "ValueError",.type "Exception",.type "BaseException",.type "object"]
def OwnErr(K:Fg)(C:Addr):Prop:=PySem.W.excIn K C bmV "ValueError.__new__" = true
theorem OwnErr.obj{K:Fg}{h:Heap}{C:Addr}(q:OwnErr K C)(X:K.In h):∃bm N nm qn bs hd sn sub ab col dd k0 k1 k2 k3 k5 mN,
  h.get? C=some (excClassObj nm qn C N bs bm hd sn sub ab col dd k0 k1 k2 k3 k5 "ValueError.__new__")/\h.Ns N mN/\mN "__init__" = none/\OwnTail h bmV bm:=by
 have q':PySem.W.excIn K C bmV "ValueError.__new__" = true:=q
 unfold PySem.W.excIn at q'
 split at q'
 ·rename_i dd cd sl lk
  split at q'
  ·rename_i C' bm k0 k1 k2 k3 nid k5 em es
   rw[yA,yA,yA,yA,yA]at q'
   obtain⟨⟨⟨⟨⟨a1,a2⟩,a3⟩,a4⟩,a5⟩,a6⟩:=q'
   have b1:C'=C:=eq_of_beq a1
   have b2:nid = "ValueError.__new__" := eq_of_beq a2
   have b3:cd.hasDel=false:=by simpa using a3
   have b6:=eq_of_beq a6
   have g:=X C _ lk
   obtain⟨nm,bs,mro,ns,qn,hd,sn,sub,ab,col,del⟩:=cd
   simp only at em b3 a5 b6
   subst em b3 b1 b2
   have hsl:sl=#[k0,k1,k2,k3,some (.builtin "ValueError.__new__"),k5]:=by
    rw[<- Array.toList_inj];exact es
   subst hsl
   exact⟨bm,ns,nm,qn,bs,hd,sn,sub,ab,col,dd,k0,k1,k2,k3,k5,_,g,Heap.Ns.of_isNs (PySem.W.isNs_of_in X a5),PySem.W.nsMap_none_of_in X a5 b6,PySem.W.tail_of_in X a4⟩
  ·cases q'
 ·cases q'
theorem ziQ{prog:Program}{w:World}{A:Around}{E:Value->Shared->Prop}{s:Shared}{K:Fg}{er C:Addr}{oe:Obj}{Q:Option Value->Shared->Prop}
  (ga:PySem.W.findIn K (.ref C) "__getattribute__" = some (some (.builtin "BaseException.__getattribute__"))) (gn:PySem.W.findIn K (.ref C) "__getattr__" = some none)
  (hf:PySem.W.findObj K C none "__class__" = some (.bind (.builtin "getset_descriptor.__get__") (.builtin "object.__class__"))) (mo:PySem.W.mroIn K C (.type "object")=some true) (be:PySem.W.mroIn K C (.type "BaseException")=some true)
  (X:K.In s.heap) (i:PySem.W.InstAt s.heap er oe C none) (q:Q (some (.ref C)) { s with toks:=s.toks+1 }):wpAny (model prog w) A (getAttr? (.ref er) "__class__") Q E s:=by
 obtain⟨hh,g,d,t,os⟩:=s
 have L0:=i.type (M:=model prog w)
 have L1:=yaz (M:=model prog w) X ga
 have Internal':=yaz (M:=model prog w) X gn
 have L3:=PySem.W.looks_find (M:=model prog w) X i hf
 have L4:=PySem.W.looks_mroIn (M:=model prog w) X be
 have f3:=PySem.F.attr_ValueError.ga.bind (.ref er)
 unfold getAttr? getAttrBy? getAttrBy
 refine wpAny_bind (wpAny_mkText (wpAny_bind (wpAny_attempt (wpAny_holding (wpAny_bind (L0.at (wpAny_bind (L1.at ?_))))))))
 show wpAny _ _ (getAttrByItsOwn _ _ _ _ _ _) _ _ _
 unfold getAttrByItsOwn hookBefore
 refine wpAny_bind (Internal'.at ?_)
 refine wpAny_bind (wpAny_attempt (wpAny_holding ?_))
 show wpAny _ _ (boundAndCalled _ _ _) _ _ _
 unfold boundAndCalled
 rw[f3]
 refine wpAny_bind (wpAny_pure ?_)
 refine wpAny_call (codeAny_call_builtin PySem.F.attr_ValueError.ga.plain PySem.F.entry_bexc_ga ?_)
 have hk:builtinKind "BaseException.__getattribute__" = some .slot:=by decide +kernel
 have hsp:splitId "BaseException.__getattribute__" = some ("BaseException", "__getattribute__"):=by decide +kernel
 simp only[checkBuiltinCall,hk,hsp]
 unfold isInstance
 refine wpAny_bind (wpAny_bind (L0.at (L4.at ?_)))
 simp only[Bool.not_true,yar,if_false]
 have ha:=PySem.F.args_bexc_ga (.ref er) (.str "__class__" t)
 unfold argsOk at ha
 refine wpAny_of_eq (a:=()) ha ?_
 show wpAny _ _ (Builtin.«object.__getattribute__» _) _ _ _
 unfold Builtin.«object.__getattribute__»
 refine wpAny_bind (wpAny_pure ?_)
 refine wpAny_bind (wpAny_pure ?_)
 refine wpAny_bind (L0.at ?_)
 refine wpAny_bind (L3.at ?_)
 show wpAny _ _ (Builtin.ObjectAttr.bindTo _ _ _ _) _ _ _
 unfold Builtin.ObjectAttr.bindTo
 refine wpAny_bind (wpAny_holding (wpAny_call (PySem.W.class_get X i mo ?_)))
 exact wpAny_pure (PySem.W.handed_on rfl (wpAny_pure q))
def errOk(K:Fg)(C:Addr):Bool:=PySem.W.excIn K C bmV "ValueError.__new__" && (PySem.W.findIn K (.ref C) "__getattribute__" == some (some (.builtin "BaseException.__getattribute__")))&&(PySem.W.findIn K (.ref C) "__getattr__" == some none)&&(PySem.W.mroIn K C (.type "BaseException") == some true)&&(PySem.W.clsIn K C).isSome&&(PySem.W.findIn K (.ref C) "__class__" == some (some (.builtin "object.__class__"))) &&
 (PySem.W.specialIn K (.builtin "object.__class__") "__get__" == some (some (.builtin "getset_descriptor.__get__")))&&(PySem.W.takesIn K (.builtin "object.__class__") == some true)&&(PySem.W.mroIn K C (.type "object") == some true)
theorem errOk.own{K:Fg}{C:Addr}(h:errOk K C=true):OwnErr K C:=by
 unfold errOk at h
 simp only[yA]at h
 exact h.1.1.1.1.1.1.1.1
theorem zkr{K:Fg}{er C:Addr}(h:errOk K C=true):PySem.W.KitX K (.ref er) (.ref C) (zeR er C):=by
 unfold errOk at h
 simp only[yA,beq_iff_eq]at h
 obtain⟨⟨⟨⟨⟨⟨⟨⟨_,ga⟩,gn⟩,be⟩,cl⟩,fa⟩,sn⟩,tk⟩,mo⟩:=h
 obtain⟨cd,hc⟩:=Option.isSome_iff_exists.mp cl
 have there:∃o:Obj,K.lookup C=some o/\o.data=.cls cd:=by
  unfold PySem.W.clsIn at hc
  split at hc
  ·rename_i lk;cases hc;exact⟨_,lk,rfl⟩
  ·cases hc
 obtain⟨o,lk,dt⟩:=there
 refine⟨fun M h _ ⟨oe,i⟩=>i.type,fun M h X _ A Q E s k q=>?_,fun h tp dd its n sl X e=>?_,fun {prog w A E Q s} X ⟨oe,i⟩ q=>?_⟩
 ·have g:=k _ _ (X _ _ lk)
  obtain⟨oc,od,oda,osl⟩:=o
  simp only at dt
  subst dt
  unfold isType loadHead
  exact wpAny_bind (wpAny_loadPart g (wpAny_pure q))
 ·rw[Bool.eq_false_iff]
  intro z
  have ec:C=tp:=Value.ref.inj (beq_iff_eq.mp z)
  subst ec
  have g:=X _ _ lk
  rw[e]at g;cases g;cases dt
 ·have hf:PySem.W.findObj K C none "__class__" = some (.bind (.builtin "getset_descriptor.__get__") (.builtin "object.__class__")):=by
   unfold PySem.W.findObj
   rw[hc,Option.bind_some,fa,Option.bind_some]
   simp[sn,tk]
  exact ziQ ga gn hf mo be X i q
def zjt(C:Addr)(Ex:XK)(ta:TA):TS:=fun _ σ H=>ta σ H fun vs H1=>vs.length<=sizeLine/\Ex (.ref C) none H1
def znu(X:Cx)(C:Addr)(Ex:XK):Prop:=∀(pins:List (Addr × Obj)) (σ:St) (H:Hp) (s:Shared) (h':Heap) (er:Addr) (args:List Value),Inv X pins σ H s->Heap.MadeExcOf s.heap h' er (.ref C) args->Ex (.ref C) none H->X.xe (.ref er) { s with heap:=h' }
theorem z4{X:Cx}{C:Addr}{x:Str}{np cpos pos:Pos}{e:Expr}{es:List Expr}{ta:TA}{Ex:XK}(hc:X.calm=true)(hg:Gl X x)(hm:X.mg x=some (.ref C))(hX:OwnErr X.K C)(ha:PA X (e :: es) ta)(hl:znu X C Ex)
  (hdb:autoParam ((x == ("__debug__" : Str))=false) Internal.aut1._auto_1) (he:autoParam (starEach (e :: es) X.env=(false,eval e X.env) :: starEach es X.env) Internal.aut2._auto_1) (hpl:autoParam ((backTo cpos (starEach es X.env)).any (·.1)=false) Internal.aut2._auto_1) :
  PS X (.Raise (some (.Call (.Name x np) (e :: es) [] cpos)) none pos) (zjt C Ex ta):=by
 intro pins s σ H D I h
 obtain⟨bm,N,nm,qn,bs,hd,sn,sub,ab,col,dd,k0,k1,k2,k3,k5,mN,g1,g2,g3,g4⟩:=hX.obj I.ok.mod.kin
 have pl:(backTo cpos (starEach (e :: es) X.env)).any (·.1)=false:=by rw[he];exact hpl
 refine wpAny_Raise_call_subT PySem.F.excBase_ValueError (C:=C) (nm:=nm) (q:=qn) (N:=N) (bs:=bs) (hdct:=hd) (sn:=sn) (sub:=sub) (ab:=ab) (col:=col) (dd:=dd) (k0:=k0) (k1:=k1) (k2:=k2) (k3:=k3) (k5:=k5) (g4.hasType (by decide)) (I.ok.hd hc) pl g3 (zcx I hg hm ⟨rfl,?_⟩ hdb)
 have run:=ha cpos pins s σ H _ I h
 rw[he]at run ⊢
 refine Calls.evalArgs_plain (wpAny_mono run (fun us s1 q=>?_) fun _ _ z=>z)
 obtain⟨vs,H1,I1,r,z,ex⟩:=q
 exact⟨rfl,by rw[<- r.length];exact z,I1.bk _ _ g1,g2.keeps I1.bk,g4.keeps I1.bk,fun h' er mk=>hl pins σ H1 s1 h' er us I1 mk ex⟩
theorem zaA{P:Program}{w:World}{K:Fg}{mg:Str->Option Value}{base:Heap}{N:List Str}{qual:Str}{scope:Scope}{f:Addr}{cd:Value}{A:Around}{outer:List Env}{s:Shared}{H:Hp}{E:XK}{C:Addr} :
  znu (zaJ (CXF P w) P w K mg base N qual scope f cd A outer s H E) C E:=by
 intro pins σ H1 s1 h' er args I mk ex
 have fr:=I.stack
 have hin:∀env∈(envOfC qual scope s.heap.objs.size f cd :: outer),∀b,env.frame=some b->b∈frs (envOfC qual scope s.heap.objs.size f cd :: outer):=fun env he b hb=>yaI.mpr ⟨env,he,hb⟩
 have sb:∀b o,(PySem.W.hideAll s1.heap (frs (envOfC qual scope s.heap.objs.size f cd :: outer))).get? b=some o->s1.heap.get? b=some o:=fun b o q=>PySem.W.of_hideAll _ q
 have inB:∀b o,s1.heap.get? b=some o->b∉frs (envOfC qual scope s.heap.objs.size f cd :: outer)->(PySem.W.hideAll s1.heap (frs (envOfC qual scope s.heap.objs.size f cd :: outer))).get? b=some o:=fun b o q n=>PySem.W.hideAll_get _ q n
 have nfr:∀b o,s.heap.get? b=some o->b∉frs outer->b∉frs (envOfC qual scope s.heap.objs.size f cd :: outer):=fun b o q n z=>by
  rcases yf.mp (show b∈s.heap.objs.size :: frs outer from z)with z | z
  ·exact yn (Heap.lt_size q) z
  ·exact n z
 have trkB:∀b o u,H1 b=some o->s1.heap.get? b=some u->(PySem.W.hideAll s1.heap (frs (envOfC qual scope s.heap.objs.size f cd :: outer))).get? b=some u:=fun b o u q e=>inB b u e fun z=>by
  have:=I.stkFree b z
  rw[q]at this;cases this
 show wpAny (model P w) (A.deeper (envOfC qual scope s.heap.objs.size f cd)) (leaving (envOfC qual scope s.heap.objs.size f cd) (.ref er)) _ _ _
 have b0:Bare er { s1 with heap:=h' }:=by
  obtain⟨t,e,_⟩:=mk.there
  exact⟨_,(Heap.get?_some_iff.mp e).1,rfl⟩
 refine wpAny_mono (DK.any (E:=fun _ _=>False) (Q:=fun _ s''=>Bare er s''->CXF P w outer H s E (.ref er) s'') (zeV _ _) b0 ?_) (fun _ s'' q=>q.1 q.2) fun _ _ q=>q.1.elim
 refine wpAny_leaves_madeW (L:=s.heap.objs.size) (base:=PySem.W.hideAll s1.heap (frs (envOfC qual scope s.heap.objs.size f cd :: outer))) (h:=s1.heap) I.ok.frames rfl sb (PySem.W.funFrames_hide fr hin) mk fun h'' t fly _ _ up b1=>?_
 refine⟨er,C,t,_,H1,rfl,⟨I.os,I.bare,⟨fun b o q n hb _=>?_,fun b o q n hb _=>?_,fun b o q n _=>I.base.free b o q n (by simp[zaJ]),fun b o q _=>?_,I.base.tups,I.base.frzs,I.base.tbls⟩,?_,fly,fun b o q n hb=>?_,fun b o q hb=>?_,?_,b1⟩,ex⟩
 ·exact fly.1 b o (inB b o (I.base.keep b o q n hb (by simp[zaJ])) (nfr b o q hb))
 ·obtain⟨sl,e1⟩:=I.base.slot b o q n hb (by simp[zaJ])
  obtain⟨_,o1,e2,nf⟩:=I.ok.funs.mem hb
  have e3:s.heap.get? b=some o1:=e2
  rw[q]at e3;cases e3
  obtain⟨sl',e4⟩:=up b _ (mk.keeps b _ e1) nf
  exact⟨sl',e4⟩
 ·by_cases hb:b∈frs outer
  ·obtain⟨_,o1,e1,_⟩:=fly.2.2.1.mem hb
   exact⟨o1,e1⟩
  ·obtain⟨o1,e1⟩:=I.base.there b o q (by simp[zaJ])
   exact⟨o1,fly.1 b o1 (inB b o1 e1 (nfr b o q hb))⟩
 ·intro a o e
  exact(I.hok a o e).stay (fun b u hb q=>fly.1 b u (by
   rcases hb with rfl | hb
   ·exact trkB b o u e q
   ·exact trkB b _ u hb q)) (fun _ q=>q) fun _ _ q=>q
 ·exact inB b o (I.base.keep b o q n hb (by simp[zaJ])) (nfr b o q hb)
 ·obtain⟨o1,e1⟩:=I.base.there b o q (by simp[zaJ])
  exact⟨o1,inB b o1 e1 (nfr b o q hb)⟩
 ·intro b o u q e
  obtain⟨u1,e1⟩:=(I.hok b o q).obj
  have z:=fly.1 b u1 (trkB b o u1 q e1)
  have e':h''.get? b=some u:=e
  rw[z]at e';cases e'
  exact trkB b o _ q e1
abbrev Cx.inH(X:Cx)(er:Addr):Cx:={ X with A:=X.A.mark (some (.ref er)),calm:=false,xe:=fun _ _=>False }
theorem Cx.Ok.inH{X:Cx}(ok:X.Ok)(er:Addr):(X.inH er).Ok:=
 ⟨ok.mod,ok.kind,ok.glob,ok.blt,ok.above,ok.inj,ok.has,ok.cab,fun z=>(by cases z),ok.frames,ok.stk,ok.exf,ok.bs,ok.bsz,ok.noex,ok.exfs,ok.funs,ok.frf⟩
section
variable {X:Cx}{pins:List (Addr × Obj)}{σ:St}{H H':Hp}{s s':Shared}
theorem Inv.inH(I:Inv X pins σ H s)(er:Addr):Inv (X.inH er) pins σ H s:=⟨I.ok.inH er,I.os,I.bare,I.base,I.loc,I.cell,I.free,I.freeC,I.pin,I.hok,I.len⟩
theorem Inv.outH{er:Addr}(ok:X.Ok)(I:Inv (X.inH er) pins σ H s):Inv X pins σ H s:=⟨ok,I.os,I.bare,I.base,I.loc,I.cell,I.free,I.freeC,I.pin,I.hok,I.len⟩
theorem zit{i:Nat}{n:Str}{pos:Pos}{Q:Unit->Shared->Prop}{E:Value->Shared->Prop}(I:Inv X pins σ H s)(hN:X.N.Nodup)(hi:X.N[i]?=some n)(hl:X.env.kindOf n=some .local)(q:∀s2,Inv X pins (σ.set i none) H s2->Q () s2) :
  wpAny (model X.prog X.w) X.A (do bindName X.env n .none;unbindBehindTheSuite X.env n pos) Q E s:=by
 obtain⟨m,hn,lk⟩:=id I.loc
 obtain⟨oL,_,_,hoL,_⟩:=id hn
 refine wpAny_nameGoes_keeps hl hn (by rw[I.ok.kind];rfl) fun h' v hn' hs=>q _ ?_
 have nL:∀b o,X.s₀.heap.get? b=some o->b≠X.env.locals:=fun b o e=>yn (yp (Heap.lt_size e) I.ok.above)
 refine⟨I.ok,I.os,I.bare,⟨fun b o e n hb hx=>(hs.2 b (nL b o e)).trans (I.base.keep b o e n hb hx),fun b o e n hb hx=>?_,I.base.free,fun b o e hx=>?_,I.base.tups,I.base.frzs,I.base.tbls⟩,⟨_,hn',fun j y v' e1 e2 e3=>?_⟩,fun y c e=>?_,I.free,I.freeC,fun p hp=>?_,fun b ob e=>?_,by rw[yap];exact I.len⟩
 ·obtain⟨sl,e1⟩:=I.base.slot b o e n hb hx
  exact⟨sl,(hs.2 b (nL b o e)).trans e1⟩
 ·obtain⟨o',e1⟩:=I.base.there b o e hx
  exact⟨o',(hs.2 b (nL b o e)).trans e1⟩
 ·by_cases hj:j=i
  ·subst hj
   have hlt:j < σ.length:=by rw[I.len];exact(ym.mp hi).1
   rw[yaf hlt]at e2
   cases e2
  ·rw[yan (yaj hj)]at e2
   obtain⟨u,r,z⟩:=lk j y v' e1 e2 e3
   refine⟨u,r,?_⟩
   have ny:y≠n:=fun z=>hj (zek hN e1 (z▸hi))
   rcases z with⟨k,e⟩ | ⟨k,c,e,z⟩
   ·exact .inl ⟨k,by show(if y=n then v else m y)=some u;rw[if_neg ny];exact e⟩
   ·exact .inr ⟨k,c,e,z.sameBut hs (I.cne y c e)⟩
 ·obtain⟨u,z⟩:=I.cell y c e
  exact⟨u,z.sameBut hs (I.cne y c e)⟩
 ·obtain⟨e,n,ne,nf,d⟩:=I.pin p hp
  exact⟨(hs.2 p.1 ne).trans e,n,ne,nf,d⟩
 ·refine(I.hok b ob e).stay (fun c u hc q=>(hs.2 c ?_).trans q) (fun _ q=>q) fun _ _ q=>q
  rintro rfl
  rcases hc with rfl | hc
  ·have:=I.free;rw[e]at this;cases this
  ·have:=I.free;rw[hc]at this;cases this
def Ends.gone(D:Ends)(i:Nat):Ends:=⟨fun σ H=>D.nx (σ.set i none) H,D.rt,fun σ H=>D.bk (σ.set i none) H,fun σ H=>D.ct (σ.set i none) H⟩
theorem SP.gone{i:Nat}{D:Ends}{f:Flow}{er:Addr}(ok:X.Ok)(h:SP (X.inH er) pins (D.gone i) f s):∃σ' H',Inv X pins σ' H' s/\∀s2,Inv X pins (σ'.set i none) H' s2->SP X pins D f s2:=by
 cases f with
 | next=>obtain⟨σ',H',I,q⟩:=h;exact⟨σ',H',I.outH ok,fun s2 J=>⟨_,_,J,q⟩⟩
 | brk=>obtain⟨σ',H',I,q⟩:=h;exact⟨σ',H',I.outH ok,fun s2 J=>⟨_,_,J,q⟩⟩
 | cont=>obtain⟨σ',H',I,q⟩:=h;exact⟨σ',H',I.outH ok,fun s2 J=>⟨_,_,J,q⟩⟩
 | ret u=>obtain⟨v,σ',H',I,r,q⟩:=h;exact⟨σ',H',I.outH ok,fun s2 J=>⟨v,_,_,J,r,q⟩⟩
theorem taken{er C CQ t:Addr}{B:Heap}{qn n:Str}{qp hp:Pos}{b0:Stmt}{suite:List Stmt}{rest:List ExceptHandler}{i:Nat}{th:TS}{D:Ends}(hst:X.stack=X.env :: X.outer/\X.env.frame=some X.env.locals)(I:Inv X pins σ H s)
  (F:Fly X.prog X.w X.stack H s H' er C t B s') (hg:Gl X qn) (hm:X.mg qn=some (.ref CQ)) (hx:PySem.W.exmOne X.K (.ref C) (.ref CQ)=some true) (hN:X.N.Nodup) (hi:X.N[i]?=some n) (hl:X.env.kindOf n=some .local)
  (hth:PSs (X.inH er) (b0 :: suite) th) (q:th (D.gone i) (σ.set i (some (.ref er))) (upd H' er (zca er C))) (hdb:(qn == ("__debug__" : Str))=false) :
  wpAny (model X.prog X.w) X.A (noteFrame (.ref er) X.env) (fun _ s₂=>wpAny (model X.prog X.w) X.A (setFlight (.ref er) none) (fun _ s₃=>
   wpAny (model X.prog X.w) X.A (handleBy (.ref er) X.env (.ExceptHandler (some (.Name qn qp)) (some n) (b0 :: suite) hp :: rest)) (SP X pins D) X.xe s₃) X.xe s₂) X.xe s':=by
 have hfr:X.A.frames=some (X.env :: X.outer):=by rw[I.ok.frames,hst.1]
 have fly0:Heap.FlyingW B (X.env :: X.outer) er (.ref C) (.ref t) s'.heap:=hst.1▸F.fly
 have at':∀{h:Heap},B.StaysIn h->s'.heap.UpToSlots h->∀tk,Inv X pins σ H' { s' with heap:=h,toks:=tk }:=fun {h} st up tk=>
  I.call' (s':={ s' with heap:=h,toks:=tk }) (ch:=[]) F.os (F.unAt I.stack st up) (F.hokAt st) F.bare fun _ z=>nomatch z
 refine wpAny_mono (DK.any (E:=fun _ _=>False) (Q:=fun _ s2=>Bare er s2->_) (zg8 _ _) F.nod (wpAny_looks_onW hfr hst.2 fly0 fun h4 held up4 b4=>?_)) (fun _ s2 q=>q.1 q.2) fun _ _ q=>q.1.elim
 refine wpAny_mono (DK.any (E:=fun _ _=>False) (Q:=fun _ s2=>Bare er s2->_) (zcT _ _) b4 (wpAny_landsW held fun h5 fly5 up5 b5=>?_)) (fun _ s2 q=>q.1 q.2) fun _ _ q=>q.1.elim
 have up:s'.heap.UpToSlots h5:=up4.trans up5
 have J5:=(at' fly5.1 up s'.toks).inH er
 obtain⟨ob,hob,hoc⟩:=fly5.there
 refine wpAny_handleBy_cons (codeAny_handlers_test (zcx (X:=X.inH er) J5 hg hm ?_ hdb)) (by intro z;cases z)
 have LT:PySem.W.Looks (model X.prog X.w) h5 (typeOf (.ref er)) (.ref C):=hoc▸(PySem.W.Looks.ld hob).andThen .now
 refine(PySem.W.exm_one J5.kIn LT hx) _ _ _ _ (fun _ _ e=>e) ?_
 show codeAny _ _ _ _ _
 refine codeAny_handlers_suite_as ?_
 refine wpAny_mono (DK.any (E:=fun _ _=>False) (Q:=fun _ s2=>Bare er s2->_) (zcT _ _) b5 (lands_againW fly5 fun h6 fly6 up6 b6=>?_)) (fun _ s2 q=>q.1 q.2) fun _ _ q=>q.1.elim
 have J6:=at' fly6.1 (up.trans up6) s'.toks
 have u6:Un (frs X.stack) [] H (upd H' er (zca er C)) s.heap h6:=F.unEr (F.unAt I.stack fly6.1 (up.trans up6))
 have K6:Inv X pins σ (upd H' er (zca er C)) { s' with heap:=h6 }:=
  I.call' (s':={ s' with heap:=h6 }) (ch:=[]) F.os u6 (zmt (F.hokAt fly6.1) F.noTrk (zkc fly6 b6)) F.bare fun _ z=>nomatch z
 refine zdl (X:=X.inH er) (i:=i) (v:=.ref er) (K6.inH er) hN hi (.inl hl) rfl (fun s7 J7=>?_) (.inr hl)
 refine wpAny_mono (hth pins s7 _ _ _ J7 q) (fun fl s8 hs=>?_) fun _ _ z=>z.elim
 obtain⟨σ9,H9,I9,fin⟩:=SP.gone I.ok hs
 exact zit I9 hN hi hl fun s10 J10=>fin s10 J10
end
theorem Fun.okX{P:Program}{w:World}{K:Fg}{mg:Str->Option Value}{base:Heap}{CX:CXT}{x qual:Str}{st:Stmt}{f:Addr}{fd:FuncData}{N ps:List Str}{k:Nat}{sp:Sp}(F:Fun K x qual st f fd)(S:FnScope N ps (ze st))(len:∀vs H Q E,sp vs H Q E->vs.length=ps.length)
  (body:∀(cdv:Value) (A:Around) (outer:List Env) (s:Shared) (H:Hp) (vs:List V) (Q:VK) (E:XK),Room k (A.deeper (envOfC qual (ze st) s.heap.objs.size f cdv))->sp vs H Q E ->
   ∃t,PSs (zaJ CX P w K mg base N qual (ze st) f cdv A outer s H E) (zv st) t/\t { nx:=fun _ H'=>Q .non H',rt:=Q } (start N vs) H):FnOk P w K mg base CX (k+1) f fd ps sp:=by
 obtain⟨oc,od,kV,doc,pm,an,cdv,ct,osl,rfl,lk,hcd⟩:=F.ex
 exact zia lk hcd S len fun A outer s H vs Q E hr hsp=>body cdv A outer s H vs Q E hr hsp
def zaU(K:Fg):List V->Hp->VK->Prop:=fun xs H Q=>(∃er C c cv b,xs=[.ref er,c]/\RelV c cv/\H er=some (zca er C)/\errOk K C=true/\PySem.W.kitOne K (.ref C) cv=some b/\Q (.bl b) H)\/zdx K xs H Q
theorem zaH{X:Cx}:CallR X (.builtin "isinstance") (zaU X.K):=by
 refine CallR.or ?_ zg2
 intro pins s σ H xs us Q I r h
 obtain⟨er,C,c,cv,b,rfl,rc,he,ok,hk,q⟩:=h
 obtain⟨u,w',rfl,r1,r2⟩:=vals2 r
 obtain rfl:u=Value.ref er:=r1
 have ie:zeR er C s.heap:=(I.hok er _ he).1
 have ec:w'=cv:=by
  cases c with
  | ty n=>exact(show w'=_ from r2).trans (show cv=_ from rc).symm
  | ref a=>exact(show w'=_ from r2).trans (show cv=_ from rc).symm
  | non=>exact(show w'=_ from r2).trans (show cv=_ from rc).symm
  | bl b=>exact(show w'=_ from r2).trans (show cv=_ from rc).symm
  | _=>obtain⟨_,rfl⟩:=rc;simp[PySem.W.kitOne,PySem.W.kitCls]at hk
 subst ec
 exact yI (zkr ok) I.kIn ie hk (by intro z;cases z) fun tk=>⟨.bl b,H,I.tok tk,rfl,q⟩
theorem zfX{K:Fg}{xs:List V}{H:Hp}{Q:VK}(q:zdx K xs H Q):zaU K xs H Q:=.inr q
theorem zk2{K:Fg}{H:Hp}{Q:VK}{er C:Addr}{c:V}{cv:Value}{b:Bool}(h:H er=some (zca er C))(ok:errOk K C=true)(rc:RelV c cv)(e:PySem.W.kitOne K (.ref C) cv=some b)(q:Q (.bl b) H):zaU K [.ref er,c] H Q:=.inl ⟨er,C,c,cv,b,rfl,rc,h,ok,e,q⟩
theorem zld{C:Addr}{Ex:XK}{ta:TA}{D:Ends}{σ:St}{H:Hp}(q:ta σ H fun vs H1=>vs.length<=sizeLine/\Ex (.ref C) none H1):zjt C Ex ta D σ H:=q
theorem zg3{K:Fg}{C CQ:Addr}{th:TS}{D:Ends}{σ:St}{i:Nat}{H:Hp}(hx:PySem.W.exmOne K (.ref C) (.ref CQ)=some true)(q:∀er H',H er=none->Same H H'->H' er=some (zca er C)->th D (σ.set i (some (.ref er))) H') :
  ∃C',Value.ref C=Value.ref C'/\PySem.W.exmOne K (.ref C') (.ref CQ)=some true/\∀er,H er=none->th D (σ.set i (some (.ref er))) (upd H er (zca er C')):=⟨C,rfl,hx,fun er hn=>q er _ hn (Same.new hn _) zL⟩
theorem zgB{K:Fg}{D:Addr}(h:PySem.W.hasDictIn K D=true):(PySem.W.clsIn K D).isSome=true:=by
 obtain⟨cd,e,_⟩:=PySem.W.any_some h
 rw[e];rfl
theorem za3{K:Fg}{C:Addr}(x:PySem.W.excIn K C [.type "ValueError",.type "Exception",.type "BaseException",.type "object"] "ValueError.__new__" = true)(ga:PySem.W.findIn K (.ref C) "__getattribute__" = some (some (.builtin "BaseException.__getattribute__")))(gn:PySem.W.findIn K (.ref C) "__getattr__" = some none)(be:PySem.W.mroIn K C (.type "BaseException")=some true)(hd:PySem.W.hasDictIn K C=true)
  (fa:PySem.W.findIn K (.ref C) "__class__" = some (some (.builtin "object.__class__"))) (sn:PySem.W.specialIn K (.builtin "object.__class__") "__get__" = some (some (.builtin "getset_descriptor.__get__"))) (tk:PySem.W.takesIn K (.builtin "object.__class__")=some true)
  (mo:PySem.W.mroIn K C (.type "object")=some true):errOk K C=true:=by
 unfold errOk bmV
 rw[x,ga,gn,be,zgB hd,fa,sn,tk,mo];simp
theorem zeM{K:Fg}{t:Value}{D:Addr}{b:Bool}(hd:PySem.W.hasDictIn K D=true)(ht:PySem.W.typeIn K (.ref D)=some (.type "type"))(hs:PySem.W.subIn K t (.ref D)=some b):PySem.W.kitCls K t (.ref D)=some b:=by
 unfold PySem.W.kitCls
 simp only
 rw[zgB hd,ht,if_pos (by simp)];exact hs
theorem zg{K:Fg}{C D:Addr}{b:Bool}(h:C≠D)(hd:PySem.W.hasDictIn K D=true)(ht:PySem.W.typeIn K (.ref D)=some (.type "type"))(hs:PySem.W.subIn K (.ref C) (.ref D)=some b):PySem.W.kitOne K (.ref C) (.ref D)=some b:=by
 unfold PySem.W.kitOne
 rw[if_neg (by intro z;exact h (Value.ref.inj (beq_iff_eq.mp z)))]
 exact zeM hd ht hs
theorem zba{K:Fg}{C:Addr}:PySem.W.kitOne K (.ref C) (.ref C)=some true:=by
 unfold PySem.W.kitOne
 rw[if_pos (by simp)]
theorem zcb{K:Fg}{C:Addr}{b:Bool}(hs:PySem.W.subIn K (.ref C) (.type "ValueError")=some b):PySem.W.kitOne K (.ref C) (.type "ValueError")=some b:=by
 unfold PySem.W.kitOne
 rw[if_neg (by intro z;cases beq_iff_eq.mp z)]
 unfold PySem.W.kitCls
 simp only
 rw[if_pos (by decide +kernel)];exact hs
theorem zbP{K:Fg}{C D:Addr}{b:Bool}(hq:PySem.W.subIn K (.ref D) (.type "BaseException")=some true)(hd:PySem.W.hasDictIn K D=true)(ht:PySem.W.typeIn K (.ref D)=some (.type "type"))(hs:PySem.W.subIn K (.ref C) (.ref D)=some b):PySem.W.exmOne K (.ref C) (.ref D)=some b:=by
 unfold PySem.W.exmOne
 rw[hq,if_pos (by simp)]
 exact zeM hd ht hs
section
variable {X:Cx}
theorem zbL:zc8 X (zcn X.K):=by
 intro pins s σ H x y v u Q I rx ry h
 obtain⟨p,xs,i,z,rfl,rfl,hq,he,q⟩:=h
 cases rx
 obtain⟨t,rfl⟩:=ry
 obtain⟨its,r,pl,hz⟩:=I.list hq
 obtain⟨j,h1,h2,h3,h4,h5⟩:=zdU he
 obtain⟨w,ew,rw'⟩:=r.get h2
 have hl:=r.length
 have hn:=line63
 have fin:EP X pins σ Q w s:=⟨z,H,I,rw',q⟩
 by_cases h0:0<=i
 ·have hj:i.toNat=j:=by
   rw[seqIndex_of h0 h5]at h1
   exact yo h1
  exact wpAny_getItem_list pl.isList h0 (by omega) (by rw[hj];simpa using ew) fin
 ·have hj:(i+(its.toArray.size:Int)).toNat=j:=by
   rw[seqIndex_neg (by omega) h4]at h1
   rw[yj,<- hl]
   exact yo h1
  exact wpAny_getItem_list_neg pl.isList (by omega) (by rw[yj]<;>omega) (by omega) (by rw[hj];simpa using ew) fin
end
def Src(J:It)(P:Hp->Prop)(n:Nat)(Y:Nat->V->Hp->Prop):Prop:=
 (∀i H,P H->i<n->J.go i H)/\(∀H,P H->J.stop n H)/\∀i H x H',P H->i<n->J.yld i H x H'->Same H H'/\Y i x H'
theorem zQ{α:Type}{xs:List α}{i:Nat}(h:i<xs.length):∃x,xs[i]?=some x:=⟨xs[i],by simp[h]⟩
theorem zbn{K:Fg}{a:Addr}{xs:List V}:Src (Itl K a) (fun H=>SqL K H a xs) xs.length (fun i x _=>xs[i]?=some x):=
 ⟨fun i H h hi=>by obtain⟨x,hx⟩:=zQ hi;exact⟨xs,x,h,hx⟩,fun H h=>⟨xs,h,yg _⟩,fun i H x H' h hi ⟨q,r⟩=>by subst q;exact⟨Same.refl _,r xs h⟩⟩
theorem zc1{lo:Int}{n:Nat}:Src (Itr lo n) (fun _=>True) n (fun i x _=>x=.int (lo+i)):=
 ⟨fun i H e hi=>hi,fun H e=>yg _,fun i H x H' e hi ⟨q,r⟩=>by subst q;exact⟨Same.refl _,r⟩⟩
theorem zka{K:Fg}{a:Addr}{xs:List V}:Src (Itn K a) (fun H=>SqL K H a xs) xs.length (fun i x H=>∃p v,x=.ref p/\xs[i]?=some v/\H p=some (.tup [.int i,v])):=
 ⟨fun i H h hi=>by obtain⟨x,hx⟩:=zQ hi;exact⟨xs,x,h,hx⟩,fun H h=>⟨xs,h,yg _⟩,fun i H x H' h hi ⟨p,v,hp,q,r,z⟩=>by subst z;exact⟨Same.new hp _,p,v,q,r xs h,zL⟩⟩
theorem zlX{K:Fg}{a b:Addr}{xs ys:List V}:Src (Itz K a b) (fun H=>SqL K H a xs/\SqL K H b ys) (min xs.length ys.length) (fun i x H=>∃p v w,x=.ref p/\xs[i]?=some v/\ys[i]?=some w/\H p=some (.tup [v,w])):=
 ⟨fun i H h hi=>by
  obtain⟨x,hx⟩:=zQ (show i<xs.length by omega)
  obtain⟨y,hy⟩:=zQ (show i<ys.length by omega)
  exact⟨xs,ys,x,y,h.1,h.2,hx,hy⟩,fun H h=>⟨xs,ys,h.1,h.2,by omega⟩,fun i H x H' h hi ⟨p,v,w,hp,q,r,r',z⟩=>by subst z;exact⟨Same.new hp _,p,v,w,q,r xs h.1,r' ys h.2,zL⟩⟩
section
variable {σ:St}{H:Hp}{Q:VK}{D:Ends}{ta tb tc te to ti:TE}{t u:TS}{K:Fg}
theorem zgk{J:It}{P:Hp->Prop}{n:Nat}{Y:Nat->V->Hp->Prop}{g:TG}{tb:TS}(S:Src J P n Y)(Pv:Nat->St->Hp->Prop)(h0:Pv 0 σ H)(hk:∀i σ H,Pv i σ H->P H)
  (hs:∀i x σ H H',i<n->Pv i σ H->Same H H'->Y i x H'->g x σ H' fun σ2 H2=>tb { D with nx:=Pv (i+1),ct:=Pv (i+1),bk:=D.nx } σ2 H2) (hd:∀σ H,Pv n σ H->D.nx σ H):zh5 J g tb D σ H:=by
 refine⟨fun i m σ H=>m=n-i/\i<=n/\Pv i σ H,⟨n,by simp,yT _,h0⟩,?_⟩
 rintro i m σ H ⟨rfl,hi,p⟩
 by_cases hlt:i<n
 ·refine .inr ⟨S.1 i H (hk i σ H p) hlt,Pv (i+1),fun σ' H' q=>⟨n-(i+1),by omega,rfl,hlt,q⟩,fun x H' y=>?_⟩
  obtain⟨e,y'⟩:=S.2.2 i H x H' (hk i σ H p) hlt y
  exact hs i x σ H H' hlt p e y'
 ·have:i=n:=by omega
  subst this
  exact .inl ⟨S.2.1 H (hk i σ H p),hd σ H p⟩
def zcN(J:It)(caps:List (Option Nat))(g:TG)(tf:TT)(te:TE)(σ:St)(Q:VK)(H1:Hp):Prop:=∀D,H1 D=none ->
 ∃W:Nat->Nat->St->Hp->Prop,(∃m,W 0 m (zb2 caps σ) (upd H1 D (.lst [])))/\∀i m σ' H',W i m σ' H' ->
  (J.stop i H'/\Q (.ref D) H')\/(J.go i H'/\∃N:St->Hp->Prop,(∀σ2 H2,N σ2 H2->∃m',m'<m/\W (i+1) m' σ2 H2) /\
   ∀x H2,J.yld i H' x H2->g x σ' H2 fun σ1 H3=>tf σ1 H3 fun b H4=>if b=true then te σ1 H4 fun v H5=>zbQ (.ref D) [v] H5 fun _ H6=>N σ1 H6 else N σ1 H4)
theorem znx{wi:TI}{caps:List (Option Nat)}{g:TG}{tf:TT}{te:TE}(q:wi σ H fun J H1=>zcN J caps g tf te σ Q H1):zfZ wi caps g tf te σ H Q:=q
theorem zkX{T:Bool->Hp->Prop}(q:T true H):zej σ H T:=q
def CompN(H:Hp)(Sv:St->Prop)(Pv:Nat->List V->Hp->Prop)(D:Addr)(i:Nat)(σ':St)(H':Hp):Prop:=Sv σ'/\Same H H'/\∃vs,H' D=some (.lst vs)/\vs.length<=i/\Pv i vs H'
theorem zg4{J:It}{P:Hp->Prop}{n:Nat}{Y:Nat->V->Hp->Prop}{caps:List (Option Nat)}{g:TG}{tf:TT}{te:TE}(S:Src J P n Y)(e0:∀H',Same H H'->P H')(Sv:St->Prop)(Pv:Nat->List V->Hp->Prop)(hc:Sv (zb2 caps σ))(h0:∀H',Same H H'->Pv 0 [] H')
  (hs:∀i x D vs σ' H' H2,i<n->H D=none->Sv σ'->Same H H'->H' D=some (.lst vs)->vs.length<=i->Pv i vs H'->Same H' H2->Y i x H2->g x σ' H2 fun σ1 H3=>tf σ1 H3 fun b H4=>if b=true then te σ1 H4 fun v H5=>zbQ (.ref D) [v] H5 fun _ H6=>CompN H Sv Pv D (i+1) σ1 H6 else CompN H Sv Pv D (i+1) σ1 H4)
  (hq:∀D H' vs,H D=none->Same H H'->H' D=some (.lst vs)->vs.length<=n->Pv n vs H'->Q (.ref D) H'):zcN J caps g tf te σ Q H:=by
 intro D hD
 refine⟨fun i m σ' H'=>m=n-i/\i<=n/\CompN H Sv Pv D i σ' H',⟨n,by simp,yT _,hc,Same.new hD _,[],zL,yg _,h0 _ (Same.new hD _)⟩,?_⟩
 rintro i m σ' H' ⟨rfl,hi,sv,e,vs,hv,hl,p⟩
 by_cases hlt:i<n
 ·refine .inr ⟨S.1 i H' (e0 _ e) hlt,CompN H Sv Pv D (i+1),fun σ2 H2 q=>⟨n-(i+1),by omega,rfl,hlt,q⟩,fun x H2 y=>?_⟩
  obtain⟨e',y'⟩:=S.2.2 i H' x H2 (e0 _ e) hlt y
  exact hs i x D vs σ' H' H2 hlt hD sv e hv hl p e' y'
 ·have:i=n:=by omega
  subst this
  exact .inl ⟨S.2.1 H' (e0 _ e),hq D H' vs hD e hv hl p⟩
theorem zaw{J:It}{P:Hp->Prop}{n:Nat}{Y:Nat->V->Hp->Prop}{caps:List (Option Nat)}{g:TG}{tf:TT}{te:TE}{rest:St}(S:Src J P n Y)(e0:∀H',Same H H'->P H')(hc:zb2 caps σ=none :: rest)(Pv:Nat->List V->Hp->Prop)(h0:∀H',Same H H'->Pv 0 [] H')
  (hs:∀i x D vs o H' H2,i<n->H D=none->Same H H'->H' D=some (.lst vs)->vs.length<=i->Pv i vs H'->Same H' H2->Y i x H2->g x (o :: rest) H2 fun σ1 H3=>tf σ1 H3 fun b H4=>if b=true then te σ1 H4 fun v H5=>zbQ (.ref D) [v] H5 fun _ H6=>CompN H (fun σ'=>∃o,σ'=o :: rest) Pv D (i+1) σ1 H6 else CompN H (fun σ'=>∃o,σ'=o :: rest) Pv D (i+1) σ1 H4)
  (hq:∀D H' vs,H D=none->Same H H'->H' D=some (.lst vs)->vs.length<=n->Pv n vs H'->Q (.ref D) H'):zcN J caps g tf te σ Q H:=
 zg4 S e0 (fun σ'=>∃o,σ'=o :: rest) Pv ⟨_,hc⟩ h0 (fun i x D vs σ' H' H2 a1 a2 ⟨o,a3⟩ a4 a5 a6 a7 a8 a9=>by subst a3;exact hs i x D vs o H' H2 a1 a2 a4 a5 a6 a7 a8 a9) hq
theorem zkM{J:It}{P:Hp->Prop}{n:Nat}{Y:Nat->V->Hp->Prop}{caps:List (Option Nat)}{g:TG}{tf:TT}{te:TE}{rest:St}(S:Src J P n Y)(e0:∀H',Same H H'->P H')(hc:zb2 caps σ=none :: none :: rest)(Pv:Nat->List V->Hp->Prop)(h0:∀H',Same H H'->Pv 0 [] H')
  (hs:∀i x D vs o o' H' H2,i<n->H D=none->Same H H'->H' D=some (.lst vs)->vs.length<=i->Pv i vs H'->Same H' H2->Y i x H2->g x (o :: o' :: rest) H2 fun σ1 H3=>tf σ1 H3 fun b H4=>if b=true then te σ1 H4 fun v H5=>zbQ (.ref D) [v] H5 fun _ H6=>CompN H (fun σ'=>∃o o',σ'=o :: o' :: rest) Pv D (i+1) σ1 H6 else CompN H (fun σ'=>∃o o',σ'=o :: o' :: rest) Pv D (i+1) σ1 H4)
  (hq:∀D H' vs,H D=none->Same H H'->H' D=some (.lst vs)->vs.length<=n->Pv n vs H'->Q (.ref D) H'):zcN J caps g tf te σ Q H:=
 zg4 S e0 (fun σ'=>∃o o',σ'=o :: o' :: rest) Pv ⟨_,_,hc⟩ h0 (fun i x D vs σ' H' H2 a1 a2 ⟨o,o',a3⟩ a4 a5 a6 a7 a8 a9=>by subst a3;exact hs i x D vs o o' H' H2 a1 a2 a4 a5 a6 a7 a8 a9) hq
theorem zl0{R:It->Hp->Prop}{a:Addr}{xs:List V}(h:SqL K H a xs)(q:R (Itn K a) H):zhz K R [.ref a] H:=⟨a,rfl,⟨xs,h⟩,q⟩
theorem znb{R:It->Hp->Prop}{a b:Addr}{xs ys:List V}(h:SqL K H a xs)(h':SqL K H b ys)(q:R (Itz K a b) H):zkb K R [.ref a,.ref b] H:=⟨a,b,rfl,⟨xs,h⟩,⟨ys,h'⟩,q⟩
theorem zm6{a:Addr}{xs:List V}{n:Nat}{t:TGs}{R:St->Hp->Prop}(h:H a=some (.tup xs))(hn:xs.length=n)(q:t xs σ H R):zgi K n t (.ref a) σ H R:=⟨a,xs,rfl,SqT.of h,hn,q⟩
theorem zlp{v:V}{r:List V}{t:TG}{u:TGs}{R:St->Hp->Prop}(q:t v σ H fun σ' H'=>u r σ' H' R):zkZ t u (v :: r) σ H R:=⟨v,r,rfl,q⟩
theorem znl{R:St->Hp->Prop}(q:R σ H):zmD [] σ H R:=⟨rfl,q⟩
theorem zor{f:Int->Int->Int}{i j:Int}(q:Q (.int (f i j)) H):ipI f (.int i) (.int j) H Q:=⟨i,j,rfl,rfl,q⟩
theorem zmi{tget:V->V->Hp->VK->Prop}{tip:TIp}{tset:zfo}(q:to σ H fun o H1=>ti σ H1 fun i H2=>tget o i H2 fun x H3=>te σ H3 fun y H4=>tip x y H4 fun z H5=>tset o i z H5 fun H6=>D.nx σ H6):zk8 to ti te tget tip tset D σ H:=q
theorem zi1{a:Addr}{xs:List V}{i:Int}{v:V}(h:SqL K H a xs)(e:atI xs i=some v)(q:Q v H):zcn K (.ref a) (.int i) H Q:=⟨a,xs,i,v,rfl,rfl,h,e,q⟩
theorem zmV{l:Addr}{x:V}{k:Int}(h:H l=some (.lst [x]))(h0:0<=k)(h1:k<=100000)(q:∀p H',H p=none->Same H H'->H' p=some (.lst (List.replicate k.toNat x))->Q (.ref p) H'):zdR (.ref l) (.int k) H Q:=
 .inr ⟨l,k,[x],rfl,rfl,h,by omega,by omega,by have:=zbV (n:=k.toNat) (by omega);simpa using this,fun p hp=>by
  have e:(List.replicate k.toNat [x]).flatten=List.replicate k.toNat x:=by
   generalize k.toNat=n
   induction n with
   | zero=>rfl
   | succ n ih=>rw[yS,yag,ih,yS];rfl
  rw[e]
  exact q p _ hp (Same.new hp _) zL⟩
theorem zeB{l b:Addr}{xs zs:List V}(h:H l=some (.lst xs))(h':H b=some (.lst zs))(hz:xs.length+zs.length<=100000)(q:∀p H',H p=none->Same H H'->H' p=some (.lst (xs++zs))->Q (.ref p) H'):zJ K (.ref l) (.ref b) H Q:=
 .inr (.inl ⟨l,b,xs,zs,rfl,rfl,h,h',zbV hz,fun p hp=>q p _ hp (Same.new hp _) zL⟩)
theorem znF{a:Addr}{ns:List Int}(h:SqL K H a (ns.map V.int))(q:Q (.int (zcc ns)) H):zes K [.ref a] H Q:=⟨a,ns,rfl,h,q⟩
end
theorem znq{p:Prop}[Decidable p]{A B:Prop}(h:p)(a:A):if decide p=true then A else B:=by rw[decide_eq_true h];exact zdJ a
theorem znA{p:Prop}[Decidable p]{A B:Prop}(h:¬p)(b:B):if decide p=true then A else B:=by rw[decide_eq_false h];exact zeF b
theorem zlu{p:Prop}[Decidable p]{A B:Prop}(h:p)(b:B):if(!decide p)=true then A else B:=by rw[decide_eq_true h];exact zeF b
section
variable {α:Type}{f:α->List V}
def IsTs(f:α->List V)(H:Hp):List V->List α->Prop
 | [],[]=>True
 | v :: vs,x :: xs=>(∃a,v=.ref a/\H a=some (.tup (f x)))/\IsTs f H vs xs
 | _,_=>False
def zjY(H H':Hp):Prop:=∀a xs,H a=some (.tup xs)->H' a=some (.tup xs)
theorem Same.tups{H H':Hp}(e:Same H H'):zjY H H':=fun a xs h=>e a _ h
theorem LBut.tups{l:Addr}{H H':Hp}(e:LBut l H H'):zjY H H':=fun a xs h=>e.tup h
theorem IsTs.keep{H H':Hp}(e:zjY H H'):∀{vs:List V} {xs:List α},IsTs f H vs xs->IsTs f H' vs xs
 | [],[],_=>trivial
 | _ :: _,_ :: _,⟨⟨a,q,h⟩,r⟩=>⟨⟨a,q,e a _ h⟩,r.keep e⟩
theorem IsTs.same{H H':Hp}{vs:List V}{xs:List α}(h:IsTs f H vs xs)(e:Same H H'):IsTs f H' vs xs:=h.keep e.tups
theorem LBut.isTs{l:Addr}{H H':Hp}{vs:List V}{xs:List α}(e:LBut l H H')(h:IsTs f H vs xs):IsTs f H' vs xs:=h.keep e.tups
theorem IsTs.length{H:Hp}:∀{vs:List V} {xs:List α},IsTs f H vs xs->vs.length=xs.length
 | [],[],_=>rfl
 | _ :: _,_ :: _,⟨_,r⟩=>by rw[yM,yM,r.length]
theorem IsTs.app{H:Hp}{a:Addr}{x:α}(h:H a=some (.tup (f x))):∀{vs:List V} {xs:List α},IsTs f H vs xs->IsTs f H (vs++[.ref a]) (xs++[x])
 | [],[],_=>⟨⟨a,rfl,h⟩,trivial⟩
 | _ :: _,_ :: _,⟨q,r⟩=>⟨q,r.app h⟩
theorem IsTs.get{H:Hp}:∀{vs:List V} {xs:List α} {i:Nat} {v:V},IsTs f H vs xs->vs[i]?=some v->∃a x,v=.ref a/\xs[i]?=some x/\H a=some (.tup (f x))
 | _ :: _,x :: _,0,_,⟨⟨a,q,h⟩,_⟩,e=>by cases e;exact⟨a,x,q,rfl,h⟩
 | _ :: _,_ :: _,i+1,_,⟨_,r⟩,e=>by obtain⟨a,x,q,e',h⟩:=r.get (i:=i) e;exact⟨a,x,q,e',h⟩
theorem IsTs.getI{H:Hp}{vs:List V}{xs:List α}{i:Nat}{x:α}(h:IsTs f H vs xs)(e:xs[i]?=some x):∃a,vs[i]?=some (.ref a)/\H a=some (.tup (f x)):=by
 have hi:i<vs.length:=by rw[h.length];exact(ym.mp e).1
 obtain⟨v,hv⟩:=zQ hi
 obtain⟨a,y,q,e',h'⟩:=h.get hv
 rw[e]at e';cases e'
 exact⟨a,by rw[hv,q],h'⟩
end
def vec(n:Nat)(f:Nat->Int):List Int:=(List.range n).map f
theorem zO{n:Nat}{f:Nat->Int}:(vec n f).length=n:=by simp[vec]
theorem zbf{n i:Nat}{f:Nat->Int}(h:i<n):(vec n f)[i]?=some (f i):=by simp[vec,h]
theorem zaI{n:Nat}{f g:Nat->Int}(h:∀i,i<n->f i=g i):vec n f=vec n g:=by
 unfold vec;exact List.map_congr_left fun i hi=>h i (y8.mp hi)
theorem zlD{n j:Nat}{f:Nat->Int}{v:Int}:(vec n f).set j v=vec n (fun i=>if i=j then v else f i):=by
 refine yaN fun i=>?_
 rw[List.getElem?_set]
 by_cases hi:i<n
 ·rw[zbf hi,zbf hi,zO]
  by_cases e:j=i
  ·subst e;simp[hi]
  ·rw[if_neg e,if_neg (yaj e)]
 ·have h1:(vec n f)[i]?=none:=by rw[yaq,zO];omega
  have h2:∀g,(vec n g)[i]?=none:=fun g=>by rw[yaq,zO];omega
  rw[h1,h2,zO]
  by_cases e:j=i
  ·subst e;simp[hi]
  ·rw[if_neg e]
theorem zaF{n:Nat}{f:Nat->Int}:vec (n+1) f=vec n f++[f n]:=by unfold vec;rw[List.range_succ,yx];rfl
theorem zl1{n:Nat}{c:Int}:List.replicate n (V.int c)=(vec n fun _=>c).map V.int:=by
 refine yaN fun i=>?_
 rw[yad,yh]
 by_cases hi:i<n
 ·rw[zbf hi,if_pos hi];rfl
 ·have h2:(vec n fun _=>c)[i]?=none:=by rw[yaq,zO];omega
  rw[h2,if_neg hi];rfl
theorem zg5{ns:List Int}{k:Int}{v:Int}(h0:0<=k)(h:ns[k.toNat]?=some v):atI (ns.map V.int) k=some (.int v):=zaY h0 (by rw[yh,h];rfl)
theorem zi8{n:Nat}{f:Nat->Int}{k:Int}(h0:0<=k)(h:k<n):atI ((vec n f).map V.int) k=some (.int (f k.toNat)):=zg5 h0 (zbf (by omega))
theorem zkJ{ns:List Int}{j:Nat}{v:Int}:(ns.map V.int).set j (.int v)=(ns.set j v).map V.int:=by rw[List.map_set]
theorem zlR{n j:Nat}{f:Nat->Int}{v:Int}:((vec n f).map V.int).set j (.int v)=(vec n (fun i=>if i=j then v else f i)).map V.int:=by rw[zkJ,zlD]
theorem zlY{n:Nat}{f:Nat->Int}{k:Int}(h0:0<=k)(h:k<n):ixN ((vec n f).map V.int).length k=some k.toNat:=by
 rw[ya,zO];exact zjw h0 h
theorem zeb{K:Fg}{H:Hp}:∀ns:List Int,RepAll K H (ns.map V.int) (ns.map PyData.int)
 | []=>.nil
 | n :: ns=>.cons (.int n) (zeb ns)
theorem zeP:∀ns:List Int,PyData.depthAll (ns.map PyData.int)=0
 | []=>by simp[PyData.depthAll]
 | n :: ns=>by rw[yH,PyData.depthAll,zeP ns];simp[PyData.depth]
theorem zgP:∀ns:List Int,PyData.canLayAll0 (ns.map PyData.int)=true
 | []=>by simp[PyData.canLayAll0]
 | n :: ns=>by rw[yH,PyData.canLayAll0,zgP ns];simp[PyData.canLay0]
theorem zhv{ds:List PyData}:(PyData.list ds).depth=PyData.depthAll ds+1:=by simp[PyData.depth];try omega
section
variable {H:Hp}{Q:VK}{K:Fg}
theorem ziS{ns ms:List Int}(h:ns=ms):PyData.eqv (.list (ns.map PyData.int)) (.list (ms.map PyData.int))=true:=by
 subst h;exact yX _ (by rw[PyData.canLay0];exact zgP ns)
theorem zkN{a b:Addr}{ns ms:List Int}(h1:SqL K H a (ns.map V.int))(h2:SqL K H b (ms.map V.int))(e:ns=ms)(q:Q (.bl false) H):zb6 K (.ref a) (.ref b) H Q:=
 zh0 (.lst h1 (zeb ns)) (.lst h2 (zeb ms)) (by rw[zhv,zeP];omega) (by rw[ziS e];exact q)
end
section
variable {σ:St}{H:Hp}{Q:VK}{D:Ends}{K:Fg}
theorem zkK{l:Addr}{n:Nat}{f:Nat->Int}{k:Int}(h:H l=some (.lst ((vec n f).map V.int)))(h0:0<=k)(h1:k<n)(q:Q (.int (f k.toNat)) H):zcn K (.ref l) (.int k) H Q:=zi1 (.of h) (zi8 h0 h1) q
theorem zhk{l:Addr}{n:Nat}{f:Nat->Int}{k:Int}(h:H l=some (.lst ((vec n f).map V.int)))(h0:0<=k)(h1:k<n)(q:Q (.int (f k.toNat)) H):rIx K (.ref l) (.int k) H Q:=zeK h (zi8 h0 h1) q
theorem zjR{l:Addr}{n:Nat}{f:Nat->Int}{k v:Int}{R:Hp->Prop}(h:H l=some (.lst ((vec n f).map V.int)))(h0:0<=k)(h1:k<n)
  (q:∀H',LBut l H H'->H' l=some (.lst ((vec n fun i=>if i=k.toNat then v else f i).map V.int))->R H'):zew (.ref l) (.int k) (.int v) H R:=by
 refine zbi h (zlY h0 h1) fun H' b e=>q H' b ?_
 rw[e,zlR]
theorem ziw{a:Addr}{xs:List V}{i:Int}{v:V}(h:H a=some (.tup xs))(e:atI xs i=some v)(q:Q v H):rIx K (.ref a) (.int i) H Q:=zn7 (.of h) e q
theorem zkn{l:Addr}{c k:Int}(h:H l=some (.lst [.int c]))(h0:0<=k)(h1:k<=100000)(q:∀p H',H p=none->Same H H'->H' p=some (.lst ((vec k.toNat fun _=>c).map V.int))->Q (.ref p) H'):zdR (.ref l) (.int k) H Q:=
 zmV h h0 h1 fun p H' a b c=>q p H' a b (by rw[c,zl1])
theorem CompN.int{Sv:St->Prop}{D:Addr}{i:Nat}{σ':St}{H6:Hp}{f:Nat->Int}{v:Int}(sv:Sv σ')(e:Same H H6)(h:H6 D=some (.lst ((vec i f).map V.int++[.int v])))(hv:v=f i):CompN H Sv (fun i vs _=>vs=(vec i f).map V.int) D (i+1) σ' H6:=
 ⟨sv,e,_,h,by simp[zO],by show _++[V.int v]=List.map V.int (vec (i+1) f);rw[hv,zaF,yx];rfl⟩
end
theorem zlQ{H:Hp}{Q:VK}{σ:St}{lo:Int}{n:Nat}{caps:List (Option Nat)}{c:Int}{rest:St}(hc:zb2 caps σ=none :: rest)(hn:n<=100000)(q:∀p H',H p=none->Same H H'->H' p=some (.lst ((vec n fun _=>c).map V.int))->Q (.ref p) H'):zcN (Itr lo n) caps (zc5 0) zej (tC (.int c)) σ Q H:=by
 refine zaw zc1 (fun _ _=>trivial) hc (fun i vs _=>vs=(vec i fun _=>c).map V.int) (fun _ _=>rfl) ?_ ?_
 ·rintro i x D vs o H' H2 hi hD e hv hvl rfl e2 rfl
  refine zhb (zkX (zdJ (x_c (zcq (e2.at hv) (by omega) fun H6 b h6=>?_))))
  exact CompN.int ⟨_,rfl⟩ (b.same (e.trans e2) hD) h6 rfl
 ·rintro D H' vs hD e hv hvl rfl
  exact q D H' hD e hv
set_option genInjectivity false in
set_option genSizeOf false in
structure Due where
 p:Int
 q:Int
 r:Int
 a:Int
section
variable {K:Fg}{H:Hp}{Q:VK}{E:XK}{n:Int}{a:Addr}{ds:List Due}
end
def Rows(H:Hp)(as:List Addr)(k:Nat)(F:Nat->Nat->Int):Prop:=as.Nodup/\∀i a,as[i]?=some a->H a=some (.lst ((vec k (F i)).map V.int))
section
variable {H H':Hp}{as bs:List Addr}{k:Nat}{F G:Nat->Nat->Int}{K:Fg}{Q:VK}
theorem Rows.same(h:Rows H as k F)(e:Same H H'):Rows H' as k F:=⟨h.1,fun i a q=>e _ _ (h.2 i a q)⟩
theorem Rows.mem(h:Rows H as k F){a:Addr}(m:a∈as):∃i,i<as.length/\as[i]?=some a/\H a=some (.lst ((vec k (F i)).map V.int)):=by
 obtain⟨i,hi,e⟩:=yZ m
 have:as[i]?=some a:=by rw[ym];exact⟨hi,e⟩
 exact⟨i,hi,this,h.2 i a this⟩
theorem Rows.but{l:Addr}(h:Rows H as k F)(g:LBut l H H')(n:l∉as):Rows H' as k F:=
 ⟨h.1,fun i a q=>g.lst (h.2 i a q) fun z=>n (z▸yq q)⟩
theorem Same.rows(e:Same H H')(h:Rows H as k F):Rows H' as k F:=h.same e
theorem zc2{i j:Nat}{a:Addr}(n:as.Nodup)(h:as[i]?=some a)(h':as[j]?=some a):i=j:=by
 obtain⟨hi,e⟩:=ym.mp h
 obtain⟨hj,e'⟩:=ym.mp h'
 exact(List.getElem_inj n).mp (e.trans e'.symm)
theorem Rows.set{j:Nat}{a:Addr}{f:Nat->Int}(h:Rows H as k F)(g:LBut a H H')(ha:as[j]?=some a)(q:H' a=some (.lst ((vec k f).map V.int))):Rows H' as k (fun i=>if i=j then f else F i):=by
 refine⟨h.1,fun i b hb=>?_⟩
 by_cases e:i=j
 ·subst e
  rw[ha]at hb;cases hb
  show H' a=some (.lst ((vec k (if i=i then f else F i)).map V.int))
  rw[if_pos rfl];exact q
 ·show H' b=some (.lst ((vec k (if i=j then f else F i)).map V.int))
  rw[if_neg e]
  refine g.lst (h.2 i b hb) fun z=>e ?_
  subst z
  exact zc2 h.1 hb ha
theorem Rows.congr(h:Rows H as k F)(e:∀i,i<as.length->∀j,j<k->F i j=G i j):Rows H as k G:=by
 refine⟨h.1,fun i a q=>?_⟩
 have hi:i<as.length:=(ym.mp q).1
 rw[h.2 i a q,zaI fun j hj=>e i hi j hj]
theorem Rows.app{p:Addr}(h:Rows H as k F)(n:p∉as)(hp:H p=some (.lst ((vec k (F as.length)).map V.int))):Rows H (as++[p]) k F:=by
 refine⟨yY.mpr ⟨h.1,by simp,fun a ha b hb e=>n (by rw[yu]at hb;subst hb;subst e;exact ha)⟩,fun i a q=>?_⟩
 rw[yao]at q
 split at q
 ·exact h.2 i a q
 ·rename_i hi
  have hi':i-as.length=0:=by
   cases e:i-as.length with
   | zero=>rfl
   | succ m=>rw[e]at q;cases q
  rw[hi']at q;cases q
  have:i=as.length:=by omega
  subst this;exact hp
theorem Rows.ne{D:Addr}(h:Rows H as k F)(hk:0<k)(hD:H D=some (.lst (as.map V.ref))):D∉as:=fun m=>by
 obtain⟨i,hi,q,e⟩:=h.mem m
 rw[hD]at e
 have e':as.map V.ref=(vec k (F i)).map V.int:=by simpa using e
 cases as with
 | nil=>cases m
 | cons x xs=>
  cases k with
  | zero=>omega
  | succ k=>
   have:=congrArg (·[0]?) e'
   simp[vec]at this
theorem Rows.fresh{p:Addr}(h:Rows H as k F)(hp:H p=none):p∉as:=fun m=>by
 obtain⟨i,_,_,e⟩:=h.mem m
 rw[hp]at e;cases e
theorem zlo{l a:Addr}{p:Int}(h:H l=some (.lst (as.map V.ref)))(h0:0<=p)(e:as[p.toNat]?=some a)(q:Q (.ref a) H):rIx K (.ref l) (.int p) H Q:=zeK h (zaY h0 (by rw[yh,e];rfl)) q
end
def znZ(ds:List Due)(m r:Nat):Int:=ds.foldl (fun(s:Int) (d:Due)=>if d.p=(m:Int)/\d.r=(r:Int)then s+d.a else s) 0
def zfW(ds:List Due)(m:Nat->Int):List Due:=ds.mapIdx fun i d=>⟨d.p,d.q,d.r,m i⟩
theorem zgC{ms:List Int}{i:Nat}(h:i<ms.length):ms[i]?=some (ms.getD i 0):=by rw[yi,yr h];rfl
end Internal
namespace My
def sumTo(f:Nat->Int):Nat->Int
 | 0=>0
 | n+1=>sumTo f n+f n
section
variable (ch:Nat->Bool)(x:Nat->Int)(L:Int)
def rest:Nat->Int
 | 0=>L
 | i+1=>if ch i=true/\rest i>0 then rest i-1 else rest i
def more(i:Nat):Int:=if ch i=true/\rest ch L i>0 then x i+1 else x i
variable {ch x L}
end
end My
namespace Internal
open PySem PySem.Spec PyProof.Rows
theorem zeq(f:Nat->Int):∀n,zcc (vec n f)=My.sumTo f n
 | 0=>rfl
 | n+1=>by rw[zaF,zc4,zeq f n];rfl
theorem zk3{k m:Int}(h0:0<=k)(h:k<=m):k*k<=m*m:=Int.mul_le_mul h h h0 (by omega)
def zff(K:Fg):Sp:=fun vs H Q _=>∃(a:Addr) (ns:List Int) (k:Int),vs=[.ref a,.int k]/\SqL K H a (ns.map V.int)/\0<=k/\∀i,Q (.int i) H
def ziJ:=fun {K:Fg} {a:Addr} {ns:List Int} {k:Int} {H:Hp} {Q:VK} {E:XK} hS h0 q=>@id (zff K [.ref a,.int k] H Q E) ⟨a,ns,k,rfl,hS,h0,q⟩
def zfn(K:Fg):Sp:=fun vs H Q _=>∃(a:Addr) (ns:List Int) (k m:Int),vs=[.ref a,.int k,.int m]/\SqL K H a (ns.map V.int)/\0<=k/\k<=10000/\1<=m/\∀i,0<=i->i<m->Q (.int i) H
def zjg:=fun {K:Fg} {a:Addr} {ns:List Int} {k m:Int} {H:Hp} {Q:VK} {E:XK} hS h0 h1 hm q=>@id (zfn K [.ref a,.int k,.int m] H Q E) ⟨a,ns,k,m,rfl,hS,h0,h1,hm,q⟩
def zed(K:Fg):Sp:=fun vs H Q _=>∃(a:Addr) (ns:List Int) (k m:Int),vs=[.ref a,.int k,.int m]/\SqL K H a (ns.map V.int)/\0<=k/\k<=10000/\1<=m/\m<=1000000000000000000000000000000000000000000000000000000000000/\∀i,0<=i->i<m->Q (.int i) H
def zh4:=fun {K:Fg} {a:Addr} {ns:List Int} {k m:Int} {H:Hp} {Q:VK} {E:XK} hS h0 h1 hm hm' q=>@id (zed K [.ref a,.int k,.int m] H Q E) ⟨a,ns,k,m,rfl,hS,h0,h1,hm,hm',q⟩
def ziu(c:Int)(n:Nat)(b:Nat->Int):Nat->Int:=if My.sumTo b n=0 then fun _=>0 else My.more (fun i=>decide (c*b i%My.sumTo b n>0)) (fun i=>c*b i/My.sumTo b n) (c-My.sumTo (fun i=>c*b i/My.sumTo b n) n)
theorem zjD{K:Fg}{H:Hp}{Q:VK}{σ:St}{a:Addr}{xs:List V}{caps:List (Option Nat)}{c:Int}{rest:St}(hS:SqL K H a xs)(hc:zb2 caps σ=none :: rest)(hn:xs.length<=100000)(q:∀p H',H p=none->Same H H'->H' p=some (.lst ((vec xs.length fun _=>c).map V.int))->Q (.ref p) H'):zcN (Itl K a) caps (zc5 0) zej (tC (.int c)) σ Q H:=by
 refine zaw (zbn (K:=K) (a:=a) (xs:=xs)) (fun H' e=>e.seq hS) hc (fun i vs _=>vs=(vec i fun _=>c).map V.int) (fun _ _=>rfl) ?_ ?_
 ·rintro i x D vs o H' H2 hi hD e hv hvl rfl e2 hx
  refine zhb (zkX (zdJ (x_c (zcq (e2.at hv) (by omega) fun H6 b h6=>?_))))
  exact CompN.int ⟨_,rfl⟩ (b.same (e.trans e2) hD) h6 rfl
 ·rintro D H' vs hD e hv hvl rfl
  exact q D H' hD e hv
theorem zX{P:Program}{w:World}{K:Fg}{mg:Str->Option Value}{base:Heap}{N:List Str}{qual:Str}{scope:Scope}{f:Addr}{cd:Value}{A:Around}{outer:List Env}{s:Shared}{H:Hp}{E:XK} :
  zcX (CXF P w) (zaJ (CXF P w) P w K mg base N qual scope f cd A outer s H E) E:=by
 intro pins σ H1 s1 e s2 I hx
 obtain⟨er,C,t,B,H',rfl,F,ex⟩:=hx
 have fr:=I.stack
 have nfr:∀b o,s.heap.get? b=some o->b∉frs outer->b∉frs (envOfC qual scope s.heap.objs.size f cd :: outer):=fun b o q n z=>by
  rcases yf.mp (show b∈s.heap.objs.size :: frs outer from z)with z | z
  ·exact yn (Heap.lt_size q) z
  ·exact n z
 have sub:∀b∈frs outer,b∈frs (envOfC qual scope s.heap.objs.size f cd :: outer):=fun b hb=>yE _ hb
 show wpAny (model P w) (A.deeper (envOfC qual scope s.heap.objs.size f cd)) (leaving (envOfC qual scope s.heap.objs.size f cd) (.ref er)) _ _ _
 refine wpAny_mono (DK.any (E:=fun _ _=>False) (Q:=fun _ s''=>Bare er s''->CXF P w outer H s E (.ref er) s'') (zeV _ _) F.nod ?_) (fun _ s'' q=>q.1 q.2) fun _ _ q=>q.1.elim
 refine wpAny_leaves_onW (L:=s.heap.objs.size) I.ok.frames rfl F.fly fun h'' fly up b1=>?_
 have u2:=F.unAt fr fly.1 up
 refine⟨er,C,t,B,H',rfl,⟨F.os.trans I.os,F.bare,⟨fun b o q n hb _=>?_,fun b o q n hb _=>?_,fun b o q n _=>?_,fun b o q _=>?_,fun b xs q=>u2.tups b xs (I.base.tups b xs q),fun b o xs q=>u2.frzs b o xs (I.base.frzs b o xs q),fun b ps q=>?_⟩,F.hokAt fly.1,fly,fun b o q n hb=>?_,fun b o q hb=>?_,fun b o u q e=>?_,b1⟩,ex⟩
 ·exact u2.keep b o (I.base.keep b o q n hb (by simp[zaJ])) (I.base.free b o q n (by simp[zaJ])) (nfr b o q hb) (by simp)
 ·obtain⟨sl,e1⟩:=I.base.slot b o q n hb (by simp[zaJ])
  obtain⟨sl',e2⟩:=u2.slot b _ e1 (I.base.free b o q n (by simp[zaJ])) (sub b hb) (by simp)
  exact⟨sl',e2⟩
 ·obtain⟨o1,e1⟩:=I.base.there b o q (by simp[zaJ])
  exact u2.free b o1 e1 (I.base.free b o q n (by simp[zaJ])) (by simp)
 ·obtain⟨o1,e1⟩:=I.base.there b o q (by simp[zaJ])
  exact u2.there b o1 e1 (by simp)
 ·obtain⟨m1,e1⟩:=I.base.tbls b ps q
  obtain⟨m2,e2⟩:=u2.tbls b _ e1
  exact⟨m1++m2,by rw[e2,Array.append_assoc]⟩
 ·exact F.old b o (I.base.keep b o q n hb (by simp[zaJ])) (I.base.free b o q n (by simp[zaJ])) (nfr b o q hb)
 ·obtain⟨o1,e1⟩:=I.base.there b o q (by simp[zaJ])
  exact F.has b o1 e1 (nfr b o q hb)
 ·obtain⟨u1,e1⟩:=(F.hok b o q).obj
  have z:=F.trk b o u1 q e1
  have z2:=fly.1 b u1 z
  have e':h''.get? b=some u:=e
  rw[z2]at e';cases e'
  exact z
def zeA(X:Cx)(pins:List (Addr × Obj))(Eh:Addr->St->Hp->Prop):Value->Shared->Prop:=fun e s'=>∃σ' H1 s1 er C t B H',Inv X pins σ' H1 s1/\e=.ref er/\Fly X.prog X.w X.stack H1 s1 H' er C t B s'/\Eh C σ' H'
abbrev TEr:=St->Hp->VK->(Addr->Hp->Prop)->Prop
abbrev TTr:=Ends->(Addr->St->Hp->Prop)->St->Hp->Prop
def PEr(X:Cx)(e:Expr)(t:TEr):Prop:=∀(pins:List (Addr × Obj)) (s:Shared) (σ:St) (H:Hp) (Q:VK) (Eh:Addr->Hp->Prop),Inv X pins σ H s->t σ H Q Eh->wpAny (model X.prog X.w) X.A (eval e X.env) (EP X pins σ Q) (zeA X pins fun C σ' H'=>σ'=σ/\Eh C H') s
def PTr(X:Cx)(st:Stmt)(t:TTr):Prop:=∀(pins:List (Addr × Obj)) (s:Shared) (σ:St) (H:Hp) (D:Ends) (Eh:Addr->St->Hp->Prop),Inv X pins σ H s->t D Eh σ H->wpAny (model X.prog X.w) X.A (exec st X.env) (SP X pins D) (zeA X pins Eh) s
def zmL(X:Cx)(ss:List Stmt)(t:TTr):Prop:=∀(pins:List (Addr × Obj)) (s:Shared) (σ:St) (H:Hp) (D:Ends) (Eh:Addr->St->Hp->Prop),Inv X pins σ H s->t D Eh σ H->wpAny (model X.prog X.w) X.A (execs ss X.env) (SP X pins D) (zeA X pins Eh) s
section
variable {X:Cx}{pos:Pos}
def zio(sp:Sp)(ta:TA):TEr:=fun σ H Q Eh=>ta σ H fun vs H1=>sp vs H1 Q fun cls _ H2=>∃C,cls=.ref C/\Eh C H2
theorem zkz{k:Nat}{f:Addr}{fd:FuncData}{ps:List Str}{sp:Sp}{x:Str}{p cp:Pos}{e:Expr}{es:List Expr}{ta:TA}(F:FnOk X.prog X.w X.K X.mg X.base (CXF X.prog X.w) k f fd ps sp)(hr:Room k X.A)(hgf:Gl X x)(hmf:X.mg x=some (.ref f))(hk:PySem.W.keepIn X.K (.ref f)=true)(hb:Binds X.K fd ps [])
  (ha:PA X.nox (e :: es) ta) (hdf:autoParam ((x == ("__debug__" : Str))=false) Internal.aut1._auto_1) (he:autoParam (starEach (e :: es) X.env=(false,eval e X.env) :: starEach es X.env) Internal.aut2._auto_1) (hpl:autoParam ((backTo cp (starEach es X.env)).any (·.1)=false) Internal.aut2._auto_1):PEr X (.Call (.Name x p) (e :: es) [] cp) (zio sp ta):=by
 intro pins s σ H Q Eh I h
 refine wpAny_Call_Name_kw (zcx I hgf hmf ?_ hdf)
 refine yae (h₀:=X.base) I.ok.mod.kin hk (wpAny_mono (ha cp pins s σ H _ (I.wish _) h) (fun us s1 q=>?_) fun _ _ z=>z.elim) he hpl
 obtain⟨vs,H1,J1,r,q⟩:=q
 have I1:=J1.unwish
 refine⟨I1.kIn,?_⟩
 have hlen:us.length=ps.length:=by rw[<- r.length];exact F.len _ _ _ _ q
 have hbd:=hb s1 us I1.kIn (by rw[yQ];exact hlen)
 rw[yQ]at hbd
 refine wpAny_call (codeAny_mono (F.run X.A X.stack s1 H1 ⟨us,[]⟩ us vs _ _ hr I1.env0 hbd r q) fun res s' hq=>?_)
 cases res with
 | error er0=>
  obtain⟨er,C,t,B,H2,rfl,fl,C',ec,hh⟩:=hq
  cases ec
  exact⟨σ,H1,s1,er,C,t,B,H2,I1,rfl,fl,rfl,hh⟩
 | ok fw=>
  cases fw with
  | ret u=>exact I1.after hq
  | next=>exact hq.elim
  | brk=>exact hq.elim
  | cont=>exact hq.elim
abbrev zoG(te:TEr):TTr:=fun D Eh σ H=>te σ H (fun _ H2=>D.nx σ H2) fun C H2=>Eh C σ H2
abbrev zoN(c:TT)(t u:TTr):TTr:=fun D Eh σ H=>c σ H fun b H1=>if b=true then t D Eh σ H1 else u D Eh σ H1
abbrev zoH:TTr:=fun D _ σ H=>D.nx σ H
theorem zkw{st:Stmt}{t:TTr}(h:PTr X st t):zmL X [st] t:=by
 intro pins s σ H D Eh I q
 refine wpAny_execs_cons (wpAny_mono (h pins s σ H D Eh I q) (fun f s1 z=>?_) fun _ _ z=>z)
 cases f with
 | next=>exact wpAny_execs_nil z
 | _=>exact z
def zhO(K:Fg)(CQ:Addr)(i:Nat)(tb:TTr)(th:TS):TS:=fun D σ H=>tb D (fun C σ' H2=>∃C',Value.ref C=.ref C'/\PySem.W.exmOne K (.ref C') (.ref CQ)=some true/\∀er,H2 er=none->th (D.gone i) (σ'.set i (some (.ref er))) (upd H2 er (zca er C'))) σ H
theorem zlV{CQ:Addr}{qn n:Str}{qp hp:Pos}{body:List Stmt}{tb:TTr}{b0:Stmt}{suite:List Stmt}{i:Nat}{th:TS}(hst:X.stack=X.env :: X.outer/\X.env.frame=some X.env.locals)(hbd:zmL X body tb)
  (hg:Gl X qn) (hm:X.mg qn=some (.ref CQ)) (hN:X.N.Nodup) (hi:X.N[i]?=some n) (hl:X.env.kindOf n=some .local) (hth:∀er,PSs (X.inH er) (b0 :: suite) th) (hdb:autoParam ((qn == ("__debug__" : Str))=false) Internal.aut1._auto_1) :
  PS X (.Try body [.ExceptHandler (some (.Name qn qp)) (some n) (b0 :: suite) hp] [] [] pos) (zhO X.K CQ i tb th):=by
 intro pins s σ H D I h
 refine wpAny_Try_except (wpAny_mono (hbd pins s σ H D _ I h) (fun f s1 z=>?_) fun e s1 z=>?_)
 ·cases f with
  | next=>exact wpAny_execs_nil z
  | _=>exact z
 ·obtain⟨σ',H1,s2,er,C,t,B,H',I',rfl,fl,C',ec,hx,hh⟩:=z
  cases ec
  exact taken hst I' fl hg hm hx hN hi hl (hth er) (hh er fl.noTrk) hdb
end
section
variable {σ:St}{H:Hp}{Q:VK}{D:Ends}{K:Fg}{Eh:Addr->Hp->Prop}{Eg:Addr->St->Hp->Prop}
theorem zng{CQ:Addr}{i:Nat}{tb:TTr}{th:TS}(q:tb D (fun C σ' H2=>∃C',Value.ref C=.ref C'/\PySem.W.exmOne K (.ref C') (.ref CQ)=some true/\∀er,H2 er=none->th (D.gone i) (σ'.set i (some (.ref er))) (upd H2 er (zca er C'))) σ H):zhO K CQ i tb th D σ H:=q
theorem zlK{sp:Sp}{ta:TA}(q:ta σ H fun vs H1=>sp vs H1 Q fun cls _ H2=>∃C,cls=.ref C/\Eh C H2):zio sp ta σ H Q Eh:=q
end
theorem BT.range:bootBuiltins "range" = some (.type "range"):=by decide +kernel
section
variable {X:Cx}
theorem zfD:∀ns:List Int,(ns.map V.int).all zcE=true
 | []=>rfl
 | n :: ns=>by rw[yH,yav,zfD ns];rfl
def zjk:V->List V->Hp->VK->Prop:=fun x vs H Q=>∃(l:Addr) (ns:List Int) (k:Int) (j:Nat),x=.ref l/\vs=[.int k]/\H l=some (.lst (ns.map V.int))/\ns[j]?=some k/\(∀m,m<j->ns[m]?≠some k)/\ns.length<=100000/\Q (.int j) H
theorem zkj:MtM X "list.index" zjk:=by
 intro pins s σ H x vs v us Q I rx rv h
 obtain⟨l,ns,k,j,rfl,rfl,hH,hj,hno,hz,q⟩:=h
 cases rx
 obtain⟨u,rfl,ru⟩:=rv.one
 obtain⟨z,its,n,r,hl,e⟩:=I.lstM hH
 have hjl:j<ns.length:=(ym.mp hj).1
 have hil:its.length=ns.length:=by have:=r.length;rw[ya]at this;exact this.symm
 have at':∀m (hm:m<its.length),eqU (.int k) its[m]=(ns[m]'(by omega) == k):=fun m hm=>by
  obtain⟨w,hw,rw'⟩:=r.get (show(ns.map V.int)[m]?=some (.int (ns[m]'(by omega))) by simp[show m<ns.length by omega])
  have:its[m]=w:=by
   rw[yr hm]at hw;exact yo hw
  rw[this,zgG rw' rfl];rfl
 refine call_meets F.slot_list_index ⟨_,e,rfl⟩ F.entry_list_index (F.args_list_index_2 _ _) (SeqAt.list_indexAt l its.toArray n none #[] u (eqU (.int k)) j (by simp;omega) (by omega) ?_ (fun m hm hlt=>?_)) ⟨e,fun y hy=>zcB ru rfl r (zfD ns) y (by simpa using hy),⟨.int j,H,I.tok _,⟨_,rfl⟩,q⟩⟩
 ·have:=at' j (by omega)
  simp only[List.getElem_toArray]
  rw[this]
  have e':ns[j]=k:=by rw[yr hjl]at hj;exact yo hj
  rw[e'];simp
 ·have hm':m<its.length:=by simpa using hm
  simp only[List.getElem_toArray]
  rw[at' m hm']
  have:ns[m]'(by omega)≠k:=fun z=>hno m hlt (by rw[yr (by omega),z])
  simp[this]
def zeH:List V->Hp->VK->Prop:=fun vs H Q=>∃j:Int,vs=[.int j]/\∀p,H p=none->Q (.ref p) (upd H p (.rng 0 j))
theorem zg1:CallR X (.type "range") zeH:=by
 intro pins s σ H xs us Q I r h
 obtain⟨j,rfl,q⟩:=h
 obtain⟨u,rfl,t,rfl⟩:=vals1 r
 refine call_range_1 ?_
 have J:Inv X pins σ (upd H s.heap.objs.size (.rng 0 j)) { s with heap:=s.heap.push { cls:=.type "range",data:=.fields #[.int 0 s.toks,.int j t,.int 1 (s.toks+1)] },toks:=s.toks+1+1 }:=I.laid (fun b o e=>Heap.get?_push_of_some _ e) (yg _) ⟨_,_,_,Heap.get?_push_size _ rfl⟩
 exact⟨.ref s.heap.objs.size,_,J,rfl,q _ (I.hok.fresh (yg _))⟩
end
section
variable {H:Hp}{Q:VK}{K:Fg}
theorem zkm{j:Int}(q:∀p H',H p=none->Same H H'->H' p=some (.rng 0 j)->Q (.ref p) H'):zeH [.int j] H Q:=⟨j,rfl,fun p hp=>q p _ hp (Same.new hp _) zL⟩
theorem zlj{l:Addr}{ns:List Int}{k:Int}{j:Nat}(h:H l=some (.lst (ns.map V.int)))(hj:ns[j]?=some k)(hno:∀m,m<j->ns[m]?≠some k)(hz:ns.length<=100000)(q:Q (.int j) H):zjk (.ref l) [.int k] H Q:=⟨l,ns,k,j,rfl,rfl,h,hj,hno,hz,q⟩
end
def zoh:Option Nat->V
 | none=>.non
 | some i=>.int i
def zox(n:Nat)(w:Nat->Option Nat):List V:=(List.range n).map fun m=>zoh (w m)
def useful(g:Nat->Bool)(m:Nat)(d:Due):Prop:=d.p=(m:Int)/\0<d.a/\g d.p.toNat=true/\g d.q.toNat=true
instance {g:Nat->Bool} {m:Nat} {d:Due}:Decidable (useful g m d):=by unfold useful;infer_instance
def zhE(ds:List Due)(g:Nat->Bool):Nat->Nat->Option Nat
 | 0,_=>none
 | i+1,m=>match ds[i]? with
  | some d=>if useful g m d then some i else zhE ds g i m
  | none=>zhE ds g i m
def goF(ds:List Due):Nat->Nat->Bool
 | 0,_=>true
 | t+1,m=>(zhE ds (goF ds t) ds.length m).isSome
def zgr(ds:List Due):Nat->Nat->Option Nat
 | 0,_=>none
 | t+1,m=>zhE ds (goF ds t) ds.length m
set_option genInjectivity false in
set_option genSizeOf false in
structure Lined(n:Nat)(ds:List Due)(ls:List Int):Prop where
 nd:ls.Nodup
 lt:∀x∈ls,0<=x/\x<n
 up:∀d∈ds,0<d.a->∀j:Nat,ls[j]?=some d.q->∃i:Nat,i<j/\ls[i]?=some d.p
def fwd(seed:Int)(m:Nat):Int:=((m:Int)*5+seed)%11
open PySem PySem.W PyProof.Rows
section
variable {n:Nat}{kf:Nat->Int}
def TOk(n:Nat)(kf:Nat->Int){α:Type}:KasT α->(α->Prop)->Prop
 | .ret a,Q=>Q a
 | .ask i j k,Q=>i<n/\j<n/\TOk n kf (k (decide (kf i<kf j))) Q
theorem TOk.bind{α β:Type}{f:α->KasT β}{Q:β->Prop}:∀{t:KasT α},TOk n kf t (fun a=>TOk n kf (f a) Q)->TOk n kf (t.bind f) Q
 | .ret _,h=>h
 | .ask i j k,h=>⟨h.1,h.2.1,TOk.bind (t:=k (decide (kf i<kf j))) h.2.2⟩
theorem TOk.mono{α:Type}{Q Q':α->Prop}(hq:∀a,Q a->Q' a):∀{t:KasT α},TOk n kf t Q->TOk n kf t Q'
 | .ret a,h=>hq a h
 | .ask i j k,h=>⟨h.1,h.2.1,TOk.mono hq (t:=k (decide (kf i<kf j))) h.2.2⟩
theorem TOk.wp{α:Type}{cmp:Nat->Nat->(Bool->Shared->Prop)->Shared->Prop}{Q:α->Shared->Prop}{s:Shared}(hc:∀i j (C:Bool->Shared->Prop),i<n->j<n->C (decide (kf i<kf j)) s->cmp i j C s):∀{t:KasT α},TOk n kf t (fun a=>Q a s)->t.kasWp cmp Q s
 | .ret _,h=>h
 | .ask i j k,h=>hc i j _ h.1 h.2.1 (TOk.wp hc (t:=k (decide (kf i<kf j))) h.2.2)
def KP(kf:Nat->Int)(p:Array Nat)(i:Nat):Int:=kf (p.getD i 0)
def PermR(n:Nat)(p:Array Nat):Prop:=p.toList.Perm (List.range n)
theorem PermR.size{p:Array Nat}(h:PermR n p):p.size=n:=by
 have:=h.length_eq
 rwa [yaa,y6]at this
theorem PermR.lt{p:Array Nat}(h:PermR n p)(hn:0<n)(i:Nat):p.getD i 0<n:=by
 by_cases hi:i<p.size
 ·have:p.getD i 0=p[i]:=by simp[Array.getD,hi]
  rw[this]
  have hm:p[i]∈p.toList:=by simp
  exact y8.mp (h.mem_iff.mp hm)
 ·have:p.getD i 0=0:=by simp[Array.getD,hi]
  rw[this];exact hn
theorem PermR.of{p q:Array Nat}(h:PermR n p)(hq:q.Perm p):PermR n q:=(Array.perm_iff_toList_perm.mp hq).trans h
theorem zcp{p q:Array Nat}{i j:Nat}(h:p[i]?=q[j]?):p.getD i 0=q.getD j 0:=by
 rw[yam,yam,h]
theorem zeQ{p:Array Nat}{i j:Nat}(hj:j<=p.size)(k:Nat):KP kf (kas_rev p i j) k=if i<=k/\k<j then KP kf p (i+j-1-k)else KP kf p k:=by
 have e:=getElem?_mirror_all (i:=i) hj k
 unfold kas_rev KP
 by_cases h:i<=k/\k<j
 ·rw[if_pos h]at e ⊢;rw[zcp e]
 ·rw[if_neg h]at e ⊢;rw[zcp e]
theorem zcS{p:Array Nat}{i j:Nat}(h:PermR n p):PermR n (kas_rev p i j):=h.of (mirror_perm _ _ _ _)
theorem zfB{p:Array Nat}{src d:Nat}(hs:src<p.size)(hd:d<=src)(k:Nat):KP kf (bubble p src d) k=if k=src-d then KP kf p src else if src-d<k/\k<=src then KP kf p (k-1)else KP kf p k:=by
 have e:=getElem?_bubble hs d hd k
 unfold KP
 by_cases h1:k=src-d
 ·rw[if_pos h1]at e ⊢;rw[zcp e]
 ·rw[if_neg h1]at e ⊢
  by_cases h2:src-d<k/\k<=src
  ·rw[if_pos h2]at e ⊢;rw[zcp e]
  ·rw[if_neg h2]at e ⊢;rw[zcp e]
def Up(kf:Nat->Int)(p:Array Nat)(k:Nat):Prop:=∀i j,i<=j->j<k->KP kf p i<=KP kf p j
def Down(kf:Nat->Int)(p:Array Nat)(k:Nat):Prop:=∀i j,i<=j->j<k->KP kf p j<=KP kf p i
theorem Up.steps{p:Array Nat}{a:Nat}:∀(b:Nat),Up kf p a->(∀i,a<=i->i<b->1<=i->KP kf p (i-1)<=KP kf p i)->Up kf p b
 | 0,_,_=>fun i j _ h=>by omega
 | b+1,hu,hs=>by
  by_cases hb:b+1<=a
  ·exact fun i j h1 h2=>hu i j h1 (by omega)
  ·have ih:=Up.steps b hu (fun i h1 h2 h3=>hs i h1 (by omega) h3)
   intro i j h1 h2
   by_cases hj:j=b
   ·subst hj
    by_cases hi:i=j
    ·subst hi;exact yW _
    ·exact Int.le_trans (ih i (j-1) (by omega) (by omega)) (hs j (by omega) (by omega) (by omega))
   ·exact ih i j h1 (by omega)
theorem zgO{p:Array Nat}(hp:PermR n p)(h0:0<n):∀(f m:Nat),1<=m->TOk n kf (kas_asc p f m) fun r=>m<=r/\r<=m+f/\(∀i,m<=i->i<r->KP kf p (i-1)<=KP kf p i)/\(r<m+f->KP kf p r<KP kf p (r-1))
 | 0,m,_=>⟨yg _,by omega,fun i h1 h2=>by omega,fun h=>by omega⟩
 | f+1,m,hm=>by
  refine⟨hp.lt h0 _,hp.lt h0 _,?_⟩
  by_cases h:KP kf p m<KP kf p (m-1)
  ·rw[show decide (kf (p.getD m 0)<kf (p.getD (m-1) 0))=true from decide_eq_true h];dsimp only;rw[if_pos rfl]
   exact⟨yg _,by omega,fun i h1 h2=>by omega,fun _=>h⟩
  ·rw[show decide (kf (p.getD m 0)<kf (p.getD (m-1) 0))=false from decide_eq_false h];dsimp only;rw[if_neg yk]
   refine TOk.mono (fun r hr=>?_) (zgO hp h0 f (m+1) (by omega))
   obtain⟨r1,r2,r3,r4⟩:=hr
   refine⟨by omega,by omega,fun i h1 h2=>?_,fun h=>r4 (by omega)⟩
   by_cases e:i=m
   ·subst e;exact yaO.mp h
   ·exact r3 i (by omega) h2
def zjU(kf:Nat->Int)(p:Array Nat)(k q:Nat):Prop:=q+1<=k/\∀i,k-(q+1)<=i->i<k->KP kf p i=KP kf p (k-1)
theorem zgy{p:Array Nat}{k q:Nat}(hk:k<=p.size)(ht:zjU kf p k q)(i:Nat):KP kf (kas_rev p (k-(q+1)) k) i=KP kf p i:=by
 rw[zeQ hk]
 have:=ht.1
 split
 ·rw[ht.2 _ (by omega) (by omega),ht.2 i (by omega) (by omega)]
 ·rfl
theorem Down.congr{p p':Array Nat}{k:Nat}(h:Down kf p k)(e:∀i,KP kf p' i=KP kf p i):Down kf p' k:=fun i j h1 h2=>by rw[e,e];exact h i j h1 h2
theorem Down.more{p:Array Nat}{k:Nat}(h:Down kf p k)(hk:1<=k)(hl:KP kf p k<=KP kf p (k-1)):Down kf p (k+1):=fun i j h1 h2=>by
 by_cases hj:j=k
 ·subst hj
  by_cases hi:i=j
  ·subst hi;exact yW _
  ·exact Int.le_trans hl (h i (j-1) (by omega) (by omega))
 ·exact h i j h1 (by omega)
theorem zdS(h0:0<n):∀(f:Nat) (p:Array Nat) (m q:Nat),PermR n p->1<=m->m+f<=n->Down kf p m->zjU kf p m q->TOk n kf (kas_desc f p m q) fun r=>PermR n r.1/\m<=r.2.1/\r.2.1<=m+f/\Down kf r.1 r.2.1/\zjU kf r.1 r.2.1 r.2.2
 | 0,p,m,q,hp,_,_,hd,ht=>⟨hp,yg _,by show m<=m+0;omega,hd,ht⟩
 | f+1,p,m,q,hp,hm,hf,hd,ht=>by
  refine⟨hp.lt h0 _,hp.lt h0 _,?_⟩
  have hsz:=hp.size
  by_cases h:KP kf p m<KP kf p (m-1)
  ·rw[show decide (kf (p.getD m 0)<kf (p.getD (m-1) 0))=true from decide_eq_true h];dsimp only;rw[if_pos rfl]
   have hd1:=hd.more hm (yak h)
   split
   ·have e:=zgy (by omega) ht
    have hd2:=hd1.congr e
    refine TOk.mono (fun r hr=>⟨hr.1,by omega,by omega,hr.2.2.2.1,hr.2.2.2.2⟩) (zdS h0 f _ (m+1) 0 (zcS hp) (by omega) (by omega) hd2 ⟨by omega,fun i h1 h2=>?_⟩)
    have:i=m:=by omega
    subst this;rfl
   ·refine TOk.mono (fun r hr=>⟨hr.1,by omega,by omega,hr.2.2.2.1,hr.2.2.2.2⟩) (zdS h0 f p (m+1) 0 hp (by omega) (by omega) hd1 ⟨by omega,fun i h1 h2=>?_⟩)
    have:i=m:=by omega
    subst this;rfl
  ·rw[show decide (kf (p.getD m 0)<kf (p.getD (m-1) 0))=false from decide_eq_false h];dsimp only;rw[if_neg yk]
   refine⟨hp.lt h0 _,hp.lt h0 _,?_⟩
   by_cases h':KP kf p (m-1)<KP kf p m
   ·rw[show decide (kf (p.getD (m-1) 0)<kf (p.getD m 0))=true from decide_eq_true h'];dsimp only;rw[if_pos rfl]
    exact⟨hp,yg _,by show m<=m+(f+1);omega,hd,ht⟩
   ·rw[show decide (kf (p.getD (m-1) 0)<kf (p.getD m 0))=false from decide_eq_false h'];dsimp only;rw[if_neg yk]
    have he:KP kf p m=KP kf p (m-1):=by
     have:=yaO.mp h
     have:=yaO.mp h'
     omega
    refine TOk.mono (fun r hr=>⟨hr.1,by omega,by omega,hr.2.2.2.1,hr.2.2.2.2⟩) (zdS h0 f p (m+1) (q+1) hp (by omega) (by omega) (hd.more hm (by omega)) ⟨by have:=ht.1;omega,fun i h1 h2=>?_⟩)
    have:=ht.1
    show KP kf p i=KP kf p (m+1-1)
    rw[show m+1-1=m by omega]
    by_cases e:i=m
    ·subst e;rfl
    ·rw[he];exact ht.2 i (by omega) (by omega)
theorem zgb(h0:0<n){p:Array Nat}{m:Nat}(hp:PermR n p)(hm:1<=m)(hn:m<=n)(hd:Down kf p m):TOk n kf (kas_tail3 m n p) fun r=>PermR n r.2/\1<=r.1/\r.1<=n/\Up kf r.2 r.1:=by
 have hsz:=hp.size
 refine TOk.bind (TOk.mono (fun r hr=>?_) (zgO (zcS hp) h0 (n-m) m hm))
 obtain⟨r1,r2,r3,_⟩:=hr
 refine⟨zcS hp,by show 1<=r;omega,by show r<=n;omega,Up.steps (a:=m) r (fun i j h1 h2=>?_) fun i h1 h2 _=>r3 i h1 h2⟩
 rw[zeQ (by omega),zeQ (by omega),if_pos ⟨by omega,by omega⟩,if_pos ⟨by omega,h2⟩]
 exact hd _ _ (by omega) (by omega)
theorem zea(h0:0<n){p:Array Nat}{m:Nat}(hp:PermR n p)(hm:1<=m)(hn:m+1<=n)(hd:Down kf p (m+1)):TOk n kf (kas_descPart m n p) fun r=>PermR n r.2/\1<=r.1/\r.1<=n/\Up kf r.2 r.1:=by
 refine TOk.bind (TOk.mono (fun r hr=>?_) (zdS h0 (n-(m+1)) p (m+1) 0 hp (by omega) (by omega) hd ⟨by omega,fun i h1 h2=>?_⟩))
 ·obtain⟨r1,r2,r3,r4,r5⟩:=hr
  have hsz:=r1.size
  split
  ·exact zgb h0 (zcS r1) (by omega) (by omega) (r4.congr (zgy (by omega) r5))
  ·exact zgb h0 r1 (by omega) (by omega) r4
 ·have:i=m:=by omega
  subst this;rfl
theorem zkf(h0:0<n){p:Array Nat}(hp:PermR n p):TOk n kf (kas_count n p) fun r=>PermR n r.2/\1<=r.1/\r.1<=n/\Up kf r.2 r.1:=by
 have hsz:=hp.size
 refine TOk.bind (TOk.mono (fun r hr=>?_) (zgO hp h0 (n-1) 1 (yg _)))
 obtain⟨r1,r2,r3,r4⟩:=hr
 have hu:Up kf p r:=Up.steps (a:=1) r (fun i j h1 h2=>by
  have:i=j:=by omega
  subst this;exact yW _) fun i h1 h2 _=>r3 i h1 h2
 by_cases he:r=n
 ·rw[if_pos (by rw[he];exact beq_self_eq_true n)]
  exact⟨hp,r1,by show r<=n;omega,hu⟩
 ·rw[if_neg (fun z=>he (beq_iff_eq.mp z))]
  have hlt:=r4 (by omega)
  split
  ·rename_i h1
   refine⟨hp.lt h0 _,hp.lt h0 _,?_⟩
   by_cases h:KP kf p 0<KP kf p (r-1)
   ·rw[show decide (kf (p.getD 0 0)<kf (p.getD (r-1) 0))=true from decide_eq_true h];dsimp only;rw[if_pos rfl]
    exact⟨hp,r1,by show r<=n;omega,hu⟩
   ·rw[show decide (kf (p.getD 0 0)<kf (p.getD (r-1) 0))=false from decide_eq_false h];dsimp only;rw[if_neg yk]
    have hall:∀i,i<r->KP kf p i=KP kf p (r-1):=fun i hi=>by
     have a1:=hu 0 i (by omega) hi
     have a2:=hu i (r-1) (by omega) (by omega)
     have a3:=yaO.mp h
     omega
    have e:∀i,KP kf (kas_rev p 0 r) i=KP kf p i:=fun i=>by
     rw[zeQ (by omega)]
     split
     ·rw[hall _ (by omega),hall i (by omega)]
     ·rfl
    refine zea h0 (zcS hp) r1 (by omega) (Down.congr (p:=p) (fun i j h1 h2=>?_) e)
    by_cases hj:j=r
    ·subst hj
     by_cases hi:i=j
     ·subst hi;exact yW _
     ·rw[hall i (by omega)];omega
    ·rw[hall i (by omega),hall j (by omega)];exact yW _
  ·have hr1:r=1:=by omega
   subst hr1
   refine zea h0 hp r1 (by omega) fun i j h1 h2=>?_
   by_cases hi:i=j
   ·subst hi;exact yW _
   ·have e1:i=0:=by omega
    have e2:j=1:=by omega
    subst e1;subst e2;exact yak hlt
theorem zev(h0:0<n){p:Array Nat}{k:Nat}(hp:PermR n p)(hu:Up kf p k):∀(f l r:Nat),l<=r->r<=k->r-l<=f->(∀i,i<l->KP kf p i<=KP kf p k)->(∀i,r<=i->i<k->KP kf p k<KP kf p i)->TOk n kf (kas_place p k f l r) fun m=>m<=k/\(∀i,i<m->KP kf p i<=KP kf p k)/\∀i,m<=i->i<k->KP kf p k<KP kf p i
 | 0,l,r,h1,h2,h3,h4,h5=>by
  have:l=r:=by omega
  subst this
  exact⟨h2,h4,h5⟩
 | f+1,l,r,h1,h2,h3,h4,h5=>by
  unfold kas_place
  split
  ·have:l=r:=by omega
   subst this
   exact⟨h2,h4,h5⟩
  ·rename_i hge
   refine⟨hp.lt h0 _,hp.lt h0 _,?_⟩
   by_cases h:KP kf p k<KP kf p ((l+r)/2)
   ·rw[show decide (kf (p.getD k 0)<kf (p.getD ((l+r)/2) 0))=true from decide_eq_true h];dsimp only;rw[if_pos rfl]
    exact zev h0 hp hu f l ((l+r)/2) (by omega) (by omega) (by omega) h4 fun i a b=>Int.lt_of_lt_of_le h (hu _ _ a b)
   ·rw[show decide (kf (p.getD k 0)<kf (p.getD ((l+r)/2) 0))=false from decide_eq_false h];dsimp only;rw[if_neg yk]
    exact zev h0 hp hu f ((l+r)/2+1) r (by omega) (by omega) (by omega) (fun i a=>Int.le_trans (hu i ((l+r)/2) (by omega) (by omega)) (yaO.mp h)) h5
theorem ziq(h0:0<n):∀(f:Nat) (p:Array Nat) (k:Nat),PermR n p->k+f=n->Up kf p k->TOk n kf (kas_bin f p k) fun r=>PermR n r/\Up kf r n
 | 0,p,k,hp,hk,hu=>by
  have:k=n:=by omega
  subst this
  exact⟨hp,hu⟩
 | f+1,p,k,hp,hk,hu=>by
  refine TOk.bind (TOk.mono (fun l hl=>?_) (zev h0 hp hu k 0 k (by omega) (yg _) (by omega) (fun i h=>by omega) fun i h1 h2=>by omega))
  obtain⟨l1,l2,l3⟩:=hl
  have hks:k<p.size:=by rw[hp.size];omega
  refine ziq h0 f _ (k+1) (hp.of (bubble_perm _ _ _)) (by omega) fun i j hij hj=>?_
  rw[zfB hks (by omega),zfB hks (by omega),show k-(k-l)=l by omega]
  repeat' split
  all_goals first
   | (exfalso;omega)
   | exact yW _
   | exact l2 _ (by omega)
   | exact yak (l3 _ (by omega) (by omega))
   | exact hu _ _ (by omega) (by omega)
theorem zls(h0:0<n):TOk n kf (kas_sort n) fun r=>PermR n r/\Up kf r n:=by
 refine TOk.bind (TOk.mono (fun r hr=>?_) (zkf h0 (p:=List.toArray (List.range n)) (by unfold PermR;rw[List.toList_toArray])))
 obtain⟨r1,r2,r3,r4⟩:=hr
 split
 ·exact ziq h0 _ _ _ r1 (by omega) (by rw[show max r.1 1=r.1 by omega];exact r4)
 ·have:r.1=n:=by omega
  rw[this]at r4
  exact⟨r1,r4⟩
end
end Internal
set_option maxHeartbeats 4000000
namespace Internal
open PySem PySem.W PySem.Calls PyProof.Rows
section
variable {prog:Program}{w:World}{A:Around}{E:Value->Shared->Prop}
theorem zgc{vs:List Value}{J:List Value->Shared->Prop}{body:Value->PUnit->Sem (ForInStep PUnit)}
  (hb:∀x ks (s:Shared),vs[ks.length]?=some x->J ks s->wpAny (model prog w) A (body x ⟨⟩) (fun r s'=>r=.yield ⟨⟩/\∃k,J (ks++[k]) s') E s) :
  ∀(r ks:List Value) (s:Shared),vs.drop ks.length=r->ks.length<=vs.length->J ks s->wpAny (model prog w) A (forIn r PUnit.unit body) (fun _ s'=>∃ks,ks.length=vs.length/\J ks s') E s
 | [],ks,s,hr,hl,h=>by
  rw[List.forIn_nil]
  have:vs.length<=ks.length:=List.drop_eq_nil_iff.mp hr
  exact wpAny_pure ⟨ks,by omega,h⟩
 | x :: r,ks,s,hr,hl,h=>by
  have hx:vs[ks.length]?=some x:=by
   have:=congrArg (fun l:List Value=>l[0]?) hr
   simpa[List.getElem?_drop]using this
  have hlt:ks.length<vs.length:=(ym.mp hx).1
  rw[yaR]
  refine wpAny_bind (wpAny_mono (hb x ks s hx h) (fun q s' hq=>?_) fun _ _ x=>x)
  obtain⟨rfl,k,hJ⟩:=hq
  show wpAny (model prog w) A (forIn r PUnit.unit body) _ E s'
  refine zgc hb r (ks++[k]) s' ?_ (by rw[yl,yax];omega) hJ
  rw[yl,yax]
  have:=congrArg List.tail hr
  rwa [List.tail_drop]at this
theorem zga{s:Shared}{a kS:Addr}{st:SortSt}{e e1:Nat}{ks out:List Value}{P:PySem.Fin->Shared->Prop}(hout:(arrOf st).map (·.2)=List.toArray out)(hz:out.length<64)(hkz:ks.length<64)(hf:failedOf st=none)
  (hk:s.heap.get? kS=some (seqObj "list" (List.toArray ks) e)) (ha:s.heap.get? a=some (seqObj "list" #[] e1)) (hne:kS≠a)
  (h:∀h',(∀b o,b≠kS->b≠a->s.heap.get? b=some o->h'.get? b=some o)->(∃c,h'.get? a=some (seqObj "list" (List.toArray out) c))->(∃o,h'.get? kS=some o)->P (.done (.ret .none)) { s with heap:=h' }) :
  wpAny (model prog w) A (ksk_tail a false e1 (.ref kS) st) P E s:=by
 have s1:=Heap.SameBut.update s.heap kS (Obj.mapSeq fun _=>(#[]:Array Value))
 obtain⟨ck,hck⟩:∃ck,(s.heap.update kS (Obj.mapSeq fun _=>(#[]:Array Value))).get? kS=some (seqObj "list" #[] ck):=⟨_,get?_update_seq hk fun _=>#[]⟩
 have ha1:(s.heap.update kS (Obj.mapSeq fun _=>(#[]:Array Value))).get? a=some (seqObj "list" #[] e1):=(s1.2 a hne.symm).trans ha
 have s2:=Heap.SameBut.update (s.heap.update kS (Obj.mapSeq fun _=>(#[]:Array Value))) a (Obj.mapSeq fun _=>List.toArray out)
 obtain⟨c2,hc2⟩:∃c2,((s.heap.update kS (Obj.mapSeq fun _=>(#[]:Array Value))).update a (Obj.mapSeq fun _=>List.toArray out)).get? a=some (seqObj "list" (List.toArray out) c2):=⟨_,get?_update_seq ha1 fun _=>List.toArray out⟩
 have hsz:(List.toArray out).size=out.length:=by rw[yj]
 unfold ksk_tail
 try dsimp only
 rw[hout,if_neg (by simp)]
 refine wpAny_bind (listUpdate_at hk rfl ?_ (by rw[yj,sizeLine_eq];omega) (yT _))
 refine wpAny_bind (wpAny_letGo ?_)
 refine wpAny_bind (seqEpoch_at ha1 rfl ?_)
 refine wpAny_bind (listUpdate_at ha1 rfl ?_ (yT _) (yb (yaP hsz) (by rw[sizeLine_eq];omega)))
 rw[hf]
 simp only[bne_self_eq_false,yar,if_false]
 refine wpAny_pure (h _ (fun b o h1 h2 q=>(s2.2 b h2).trans ((s1.2 b h1).trans q)) ⟨c2,hc2⟩ ⟨_,(s2.2 kS hne).trans hck⟩)
theorem zlF{s:Shared}{a kS:Addr}{e e1:Nat}{vs ks fs:List Value}{kf:Nat->Int}{P:PySem.Fin->Shared->Prop}(hl:ks.length=vs.length)(h1:1<=vs.length)(h64:vs.length<64)
  (hk:s.heap.get? kS=some (seqObj "list" (List.toArray ks) e)) (ha:s.heap.get? a=some (seqObj "list" #[] e1)) (hne:kS≠a)
  (ht:KatTups s.heap ks fs) (hfs:∀v∈fs,∃i t,v=Value.int i t) (hfl:fs.length=ks.length)
  (hask:∀i j (C:Bool->Shared->Prop),i<vs.length->j<vs.length->C (decide (kf i<kf j)) s->wpAny (model prog w) A (keyLt' (tuples' true) (ks.getD i Value.none) (ks.getD j Value.none)) C (fun _ _=>False) s)
  (h:∀(p:List Nat) h',p.Perm (List.range vs.length)->(∀i j,i<=j->j<vs.length->kf (p.getD i 0)<=kf (p.getD j 0))->(∀b o,b≠kS->b≠a->s.heap.get? b=some o->h'.get? b=some o) ->
   (∃c,h'.get? a=some (seqObj "list" (List.toArray (p.map fun i=>vs.getD i Value.none)) c))->(∃o,h'.get? kS=some o)->P (.done (.ret .none)) { s with heap:=h' }) :
  wpAny (model prog w) A (ksk_end a false vs.toArray e1 (.ref kS) (List.toArray ks)) P E s:=by
 unfold ksk_end
 try dsimp only
 rw[if_neg (by simp)]
 by_cases h2:2<=vs.length
 ·have hn2:¬vs.toArray.size<2:=by rw[yj];omega
  rw[if_neg hn2,if_neg hn2]
  refine wpAny_bind (kat_kind (T:=.type "int") ht (by omega) (fun v hv=>?_) (by rfl) ?_)
  ·obtain⟨i,t,rfl⟩:=hfs v hv
   exact .now
  rw[show(Value.type "int" != Value.type "tuple")=true from by rfl]
  have tree:(kas_sort vs.length).kasWp (kas_ask prog w A (tuples' true) ks) (fun p s'=>s'=s/\PermR vs.length p/\Up kf p vs.length) s:=
   TOk.wp (n:=vs.length) (kf:=kf) (fun i j C hi hj hc=>hask i j C hi hj hc) (TOk.mono (fun p hp=>⟨rfl,hp.1,hp.2⟩) (zls (by omega)))
  refine wpAny_bind (wpAny_mono (kat_run (Q:=fun st' s'=>∃p:Array Nat,p.size=vs.length/\arrOf st'=p.map (kas_item ((List.toArray ks).zip vs.toArray))/\failedOf st'=none/\s'=s/\PermR vs.length p/\Up kf p vs.length)
   hl h2 h64 (fun p' st' s' a1 a2 a3 a4=>⟨p',a1,a2,a3,a4⟩) tree) ?_ fun _ _ x=>x)
  rintro⟨⟨⟩,st'⟩ s' ⟨p,hp,har,hf,rfl,hpr,hup⟩
  try dsimp only
  refine zga (kat_snds hl har) (by rw[ya,yaa,hp];exact h64) (by omega) hf hk ha hne fun h' k1 k2 k3=>h p.toList h' hpr (fun i j hij hj=>?_) k1 k2 k3
  have:=hup i j hij hj
  unfold KP at this
  simpa[yam,yi]using this
 ·have hn2:vs.toArray.size<2:=by rw[yj];omega
  rw[if_pos hn2,if_pos hn2]
  have e1':vs.length=1:=by omega
  obtain⟨v,rfl⟩:∃v,vs=[v]:=List.length_eq_one_iff.mp e1'
  obtain⟨k,rfl⟩:∃k,ks=[k]:=List.length_eq_one_iff.mp (by rw[hl];rfl)
  refine wpAny_bind (wpAny_pure ?_)
  refine wpAny_bind (wpAny_pure ?_)
  refine zga (ks:=[k]) (out:=[v]) (by simp only[yar,if_false];show Array.map (fun x:Value × Value=>x.2) (#[k].zip #[v])=#[v];simp) (by simp) (by simp) rfl hk ha hne fun h' k1 k2 k3=>h [0] h' (by rw[show List.range [v].length=[0]from rfl]) (fun i j hij hj=>?_) k1 k2 k3
  have hj0:j=0:=by simp at hj;omega
  subst hj0
  obtain rfl:i=0:=by omega
  exact yW _
theorem zkF{s:Shared}{a:Addr}{f:Value}{vs:List Value}{n0:Nat}{kf:Nat->Int}{P:PySem.Fin->Shared->Prop}(J:Addr->Nat->List Value->Shared->Prop)
  (ho:s.heap.get? a=some (seqObj "list" vs.toArray n0)) (h1:1<=vs.length) (h64:vs.length<64)
  (start:∀h' kS e1,(∀b o,b≠a->s.heap.get? b=some o->h'.get? b=some o)->h'.get? a=some (seqObj "list" #[] e1)->s.heap.objs.size<kS->h'.get? kS=some (seqObj "list" #[] 0)->J kS e1 [] { s with heap:=h' })
  (key:∀kS e1 ks x (s':Shared),vs[ks.length]?=some x->J kS e1 ks s'->wpAny (model prog w) A (call f [x]) (fun k s''=>(∃e,s''.heap.get? kS=some (seqObj "list" (List.toArray ks) e)) /\
   ∀h' c,Heap.SameBut kS s''.heap h'->h'.get? kS=some (seqObj "list" (List.toArray (ks++[k])) c)->J kS e1 (ks++[k]) { s'' with heap:=h' }) (fun _ _=>False) s')
  (fin:∀kS e1 ks (s':Shared),ks.length=vs.length->J kS e1 ks s'->(∃e,s'.heap.get? kS=some (seqObj "list" (List.toArray ks) e))/\s'.heap.get? a=some (seqObj "list" #[] e1)/\kS≠a /\
   (∃fs,KatTups s'.heap ks fs/\(∀v∈fs,∃i t,v=Value.int i t)/\fs.length=ks.length) /\
   (∀i j (C:Bool->Shared->Prop),i<vs.length->j<vs.length->C (decide (kf i<kf j)) s'->wpAny (model prog w) A (keyLt' (tuples' true) (ks.getD i Value.none) (ks.getD j Value.none)) C (fun _ _=>False) s') /\
   ∀(p:List Nat) h',p.Perm (List.range vs.length)->(∀i j,i<=j->j<vs.length->kf (p.getD i 0)<=kf (p.getD j 0))->(∀b o,b≠kS->b≠a->s'.heap.get? b=some o->h'.get? b=some o) ->
   (∃c,h'.get? a=some (seqObj "list" (List.toArray (p.map fun i=>vs.getD i Value.none)) c))->(∃o,h'.get? kS=some o)->P (.done (.ret .none)) { s' with heap:=h' }) :
  wpAny (model prog w) A (ksk_tree a f false) P E s:=by
 have ha:a<s.heap.objs.size:=Heap.lt_size ho
 have s1:=Heap.SameBut.update s.heap a (Obj.mapSeq fun _=>(#[]:Array Value))
 obtain⟨e1,ho1⟩:∃e1,(s.heap.update a (Obj.mapSeq fun _=>(#[]:Array Value))).get? a=some (seqObj "list" #[] e1):=⟨_,get?_update_seq ho fun _=>#[]⟩
 have hkS:((s.heap.update a (Obj.mapSeq fun _=>(#[]:Array Value))).push (seqObj "tuple" vs.toArray 0)).objs.size=s.heap.objs.size+1:=by rw[size_push',Heap.size_update]
 unfold ksk_tree
 refine wpAny_bind (listItems_at ho rfl ?_)
 refine wpAny_bind (listUpdate_at ho rfl ?_ (by rw[yj,sizeLine_eq];omega) (yT _))
 refine wpAny_bind (seqEpoch_at ho1 rfl ?_)
 refine wpAny_bind (wpAny_newTuple ?_ (by show vs.length<=_;rw[sizeLine_eq];omega))
 refine wpAny_bind (wpAny_newList ?_ (yT _))
 refine wpAny_holding ?_
 have J0:=start (((s.heap.update a (Obj.mapSeq fun _=>(#[]:Array Value))).push (seqObj "tuple" vs.toArray 0)).push (seqObj "list" #[] 0)) ((s.heap.update a (Obj.mapSeq fun _=>(#[]:Array Value))).push (seqObj "tuple" vs.toArray 0)).objs.size e1
  (fun b o hb q=>Heap.get?_push_of_some _ (Heap.get?_push_of_some _ ((s1.2 b hb).trans q))) (Heap.get?_push_of_some _ (Heap.get?_push_of_some _ ho1)) (by rw[hkS];omega) (Heap.get?_push_size _ rfl)
 generalize ((s.heap.update a (Obj.mapSeq fun _=>(#[]:Array Value))).push (seqObj "tuple" vs.toArray 0)).objs.size=kS at J0 ⊢
 generalize (((s.heap.update a (Obj.mapSeq fun _=>(#[]:Array Value))).push (seqObj "tuple" vs.toArray 0)).push (seqObj "list" #[] 0))=hh at J0 ⊢
 show wpAny (model prog w) A (ksk_rest a f false vs.toArray e1 (.ref kS)) P E { s with heap:=hh }
 unfold ksk_rest
 refine wpAny_bind (wpAny_rule ?_)
 first
  | rw[List.forIn_toArray]
  | (rw[<- Array.forIn_toList];simp only[List.toList_toArray])
  | rw[<- Array.forIn_toList]
 refine wpAny_bind (wpAny_mono (zgc (J:=J kS e1) (fun x ks s' hx hJ=>?_) vs [] _ rfl (yT _) J0) (fun _ s' hd=>?_) fun _ _ x=>x)
 ·have hlt:ks.length<vs.length:=(ym.mp hx).1
  refine wpAny_bind (wpAny_attempt (wpAny_mono (key kS e1 ks x s' hx hJ) (fun k s'' hk=>?_) fun _ _ hF=>hF.elim))
  obtain⟨⟨e,hk1⟩,c⟩:=hk
  have s3:=Heap.SameBut.update s''.heap kS (Obj.mapSeq (·.push k))
  have ea:(List.toArray ks).push k=List.toArray (ks++[k]):=by simp
  obtain⟨c2,hc2⟩:∃c2,(s''.heap.update kS (Obj.mapSeq (·.push k))).get? kS=some (seqObj "list" (List.toArray (ks++[k])) c2):=⟨_,by rw[<- ea];exact get?_update_seq hk1 (·.push k)⟩
  try dsimp only
  refine wpAny_bind (listUpdate_at hk1 rfl ?_ (by rw[yj,sizeLine_eq];omega) (yb (yaP (Array.size_push ..)) (by rw[yj,sizeLine_eq];omega)))
  exact wpAny_pure ⟨rfl,k,c _ c2 s3 hc2⟩
 ·obtain⟨ks,hl,hJ⟩:=hd
  obtain⟨⟨e,hk⟩,ha',hne,⟨fs,ht,hfs,hfl⟩,hask,h⟩:=fin kS e1 ks s' hl hJ
  try dsimp only
  refine wpAny_bind (listItems_at hk rfl ?_)
  exact zlF hl h1 h64 hk ha' hne ht hfs hfl hask h
theorem zfH{s:Shared}{r:Addr}{n:Nat}{t u v:Tok}{Q:List Value->Shared->Prop}(hh:A.handled=none)(hr:s.heap.get? r=some { cls:=.type "range",data:=.fields #[.int 0 t,.int (n:Int) u,.int 1 v] })(hn:n<=100000)
  (h:∀vs h' tk,vs.length=n->(∀(i:Nat) (x:Value),vs[i]?=some x->∃t,x=Value.int (i:Int) t)->(∀b o,s.heap.get? b=some o->h'.get? b=some o)->s.heap.objs.size<h'.objs.size->Q vs { s with heap:=h',toks:=tk }) :
  wpAny (model prog w) A (collect (.ref r)) Q E s:=by
 unfold collect
 refine wpAny_bind (wpAny_runValue (codeAny_builtin entry_proto_collect' ?_))
 show wpAny _ _ (do again (.builtin "list.__iadd__" ⟨[<- newList [],.ref r],[]⟩)) _ _ s
 refine wpAny_bind (wpAny_newList (wpAny_pure ⟨Code.quiet_builtin _ (by decide +kernel),codeAny_builtin entry_list_iadd' ?_⟩))
 show wpAny _ _ (Builtin.List.listExtendWith (.ref s.heap.objs.size) (.ref r) (.ref s.heap.objs.size)) _ _ { s with heap:=s.heap.push (seqObj "list" #[] 0) }
 refine wpAny_extend_range (prog:=prog) (w:=w) (A:=A) (R:=fun r s'=>match r with
   | .ok (.ret v)=>wpAny (model prog w) A (match v with
    | .ref a=>(do match (<- load a).data with
     | .seq xs _=>pure xs.toList
     | _=>unsupported "internal:collect")
    | _=>unsupported "internal:collect") Q E s'
   | .ok _=>False
   | .error e=>E e s') (s:={ s with heap:=s.heap.push (seqObj "list" #[] 0) }) hh (Heap.get?_push_of_some _ hr) (a:=0) (b:=(n:Int)) (c:=1) (n:=n) (small_one (by omega) (by omega) (by omega) (by omega)) (by rw[rangeSize_one];split<;>omega) (by omega) s.heap.objs.size (.ref s.heap.objs.size) _ (Heap.get?_push_size _ rfl) fun h' tk acc c' hk hS' hacc=>?_
 show wpAny (model prog w) A (do
   let o <- load s.heap.objs.size
   match o.data with
   | .seq xs _=>pure xs.toList
   | _=>unsupported "internal:collect") Q E { s with heap:=h',toks:=tk }
 refine wpAny_bind (wpAny_load hS' ?_)
 refine wpAny_pure (h acc.toList h' tk (by simpa using hacc.1) (fun i x hx=>?_) (fun b o q=>hk b o (yn (Heap.lt_size q)) (Heap.get?_push_of_some _ q)) (Heap.lt_size hS'))
 obtain⟨t',e⟩:=hacc.2 i x (by simpa using hx)
 exact⟨t',by rw[e];congr 1;omega⟩
theorem zjO{s:Shared}{r f:Addr}{n:Nat}{t u v:Tok}{kf:Nat->Int}{Q:Value->Shared->Prop}(J:Addr->Addr->Nat->List Value->Shared->Prop)(hh:A.handled=none)
  (hr:s.heap.get? r=some { cls:=.type "range",data:=.fields #[.int 0 t,.int (n:Int) u,.int 1 v] }) (h1:1<=n) (h64:n<64)
  (start:∀h' tk D kS e1,(∀b o,s.heap.get? b=some o->h'.get? b=some o)->s.heap.objs.size<D->(D:Nat)<(kS:Nat)->h'.get? D=some (seqObj "list" #[] e1)->h'.get? kS=some (seqObj "list" #[] 0)->J D kS e1 [] { s with heap:=h',toks:=tk })
  (key:∀D kS e1 ks tk (s':Shared),ks.length<n->J D kS e1 ks s'->wpAny (model prog w) A.in1.in1 (call (.ref f) [.int (ks.length:Int) tk]) (fun k s''=>(∃e,s''.heap.get? kS=some (seqObj "list" (List.toArray ks) e)) /\
   ∀h' c,Heap.SameBut kS s''.heap h'->h'.get? kS=some (seqObj "list" (List.toArray (ks++[k])) c)->J D kS e1 (ks++[k]) { s'' with heap:=h' }) (fun _ _=>False) s')
  (fin:∀D kS e1 ks (s':Shared),ks.length=n->J D kS e1 ks s'->(∃e,s'.heap.get? kS=some (seqObj "list" (List.toArray ks) e))/\s'.heap.get? D=some (seqObj "list" #[] e1)/\kS≠D /\
   (∃fs,KatTups s'.heap ks fs/\(∀v∈fs,∃i t,v=Value.int i t)/\fs.length=ks.length) /\
   (∀i j (C:Bool->Shared->Prop),i<n->j<n->C (decide (kf i<kf j)) s'->wpAny (model prog w) A.in1.in1 (keyLt' (tuples' true) (ks.getD i Value.none) (ks.getD j Value.none)) C (fun _ _=>False) s') /\
   ∀(p:List Nat) (out:List Value) h' c,p.Perm (List.range n)->(∀i j,i<=j->j<n->kf (p.getD i 0)<=kf (p.getD j 0))->(∀b o,b≠kS->b≠D->s'.heap.get? b=some o->h'.get? b=some o) ->
   Vals (p.map fun i:Nat=>V.int (i:Int)) out->h'.get? D=some (seqObj "list" (List.toArray out) c)->(∃o,h'.get? kS=some o)->Q (.ref D) { s' with heap:=h' }) :
  wpAny (model prog w) A (call (.builtin "sorted") [.ref r] [(Str.ofString "key",.ref f)]) Q E s:=by
 refine call_function_entry_kw kind_sorted plain_sorted entry_sorted (ksk_s1 _ _) ?_
 unfold Builtin.«sorted»
 refine wpAny_bind (m:=checkCount "sorted" 1 1 _) (wpAny_pure ?_)
 refine wpAny_bind (zfH (A:=A.in1) hh hr (by omega) fun vs h1' tk1 hvl hvs hk1 hsz1=>?_)
 refine wpAny_bind (wpAny_newList ?_ (by rw[hvl,sizeLine_eq];omega))
 have hoL:(h1'.push (seqObj "list" vs.toArray 0)).get? h1'.objs.size=some (seqObj "list" vs.toArray 0):=Heap.get?_push_size _ rfl
 show wpAny _ _ _ _ _ { s with heap:=h1'.push (seqObj "list" vs.toArray 0),toks:=tk1 }
 refine wpAny_bind (wpAny_holding (wpAny_call_entry_kw slot_list_sort ⟨_,hoL,rfl⟩ entry_list_sort ?body (ksk_l1 _ _)))
 case body=>
  show wpAny (model prog w) A.in1.in1 (Builtin.«list.sort» ⟨[.ref h1'.objs.size],[(Str.ofString "key",.ref f)]⟩) _ _ _
  rw[ksk_t1]
  refine zkF (kf:=kf) (J h1'.objs.size) hoL (by omega) (by omega) (fun h' kS e1 k1 k2 k3 k4=>?_) (fun kS e1 ks x s' hx hJ=>?_) fun kS e1 ks s' hl hJ=>?_
  ·exact start h' tk1 _ kS e1 (fun b o q=>k1 b o (yn (yaD (Heap.lt_size q) hsz1)) (Heap.get?_push_of_some _ (hk1 b o q))) hsz1 (by rw[size_push']at k3;omega) k2 k4
  ·obtain⟨tx,rfl⟩:=hvs _ _ hx
   exact key _ kS e1 ks tx s' (by have:=(ym.mp hx).1;omega) hJ
  ·obtain⟨f1,f2,f3,f4,f5,f6⟩:=fin _ kS e1 ks s' (by omega) hJ
   refine⟨f1,f2,f3,f4,by rw[hvl];exact f5,fun p h' hp hs k1 k2 k3=>?_⟩
   obtain⟨c,hc⟩:=k2
   rw[hvl]at hp hs
   refine⟨_,rfl,wpAny_pure ⟨_,rfl,f6 p _ h' c hp hs k1 ?_ hc k3⟩⟩
   have go:∀q:List Nat,(∀i∈q,i<n)->Vals (q.map fun i:Nat=>V.int (i:Int)) (q.map fun i=>vs.getD i Value.none):=by
    intro q
    induction q with
    | nil=>intro _;exact .nil
    | cons i q ih=>
     intro hq
     rw[yH,yH]
     have hi:=hq i yV
     obtain⟨x,hx⟩:=zQ (show i<vs.length by omega)
     obtain⟨tx,ex⟩:=hvs i x hx
     refine .cons ?_ (ih fun j hj=>hq j (yE _ hj))
     rw[yi,hx]
     exact⟨tx,ex⟩
   exact go p fun i hi=>y8.mp (hp.mem_iff.mp hi)
end
open PySem PySem.W PySem.Spec PySem.Calls PyProof.Rows
def HO.nt:HO->Bool
 | .tbl _=>false
 | _=>true
set_option genInjectivity false in
set_option genSizeOf false in
structure SameT(H H':Hp):Prop where
 keep:∀b o,H b=some o->o.nt=true->H' b=some o
 tb:∀b ps,H b=some (.tbl ps)->∃ps',H' b=some (.tbl ps')
theorem SameT.at{H H':Hp}(e:SameT H H'){a:Addr}{o:HO}(h:H a=some o)(n:autoParam (o.nt=true) Internal.aut2._auto_1):H' a=some o:=e.keep a o h n
theorem Same.t{H H':Hp}(e:Same H H'):SameT H H':=⟨fun b o h _=>e b o h,fun b ps h=>⟨ps,e b _ h⟩⟩
theorem SameT.refl(H:Hp):SameT H H:=(Same.refl H).t
theorem SameT.trans{H H1 H2:Hp}(a:SameT H H1)(b:SameT H1 H2):SameT H H2:=
 ⟨fun c o h n=>b.keep c o (a.keep c o h n) n,fun c ps h=>by obtain⟨ps',h'⟩:=a.tb c ps h;exact b.tb c ps' h'⟩
theorem SameT.none{H H':Hp}{l:Addr}(h:H' l=none)(g:SameT H H'):H l=none:=by
 cases q:H l with
 | none=>rfl
 | some o=>
  cases hn:o.nt with
  | true=>rw[g.keep l o q hn]at h;cases h
  | false=>
   cases o with
   | tbl ps=>obtain⟨ps',e⟩:=g.tb l ps q;rw[e]at h;cases h
   | _=>cases hn
def zdW(c:Addr)(qual:Str):HO:=.ext fun h=>h.CodeRec (.ref c) qual
def zen(f:Addr)(ob:Value->Obj):HO:=.ext fun h=>∃ctv,h.get? f=some (ob ctv)
section
variable {P:Program}{w:World}{H:Hp}{h:Heap}
theorem zj7{c:Addr}{qual:Str}(x:h.CodeRec (.ref c) qual):ObjOk P w H h c (zdW c qual):=by
 refine⟨x,?_,fun h1 h2 y k=>?_⟩
 ·obtain⟨c2,oc,vs,t,e,ho,_⟩:=x
  cases e
  exact⟨oc,ho⟩
 ·obtain⟨c2,oc,vs,t,e,ho,r⟩:=y
  cases e
  exact⟨c,oc,vs,t,rfl,k _ ho,r⟩
theorem zhl{f:Addr}{ob:Value->Obj}{ctv:Value}(x:h.get? f=some (ob ctv)):ObjOk P w H h f (zen f ob):=
 ⟨⟨ctv,x⟩,⟨_,x⟩,fun h1 h2 y k=>by obtain⟨c,e⟩:=y;exact⟨c,k _ e⟩⟩
end
def Tb(H:Hp)(T:Addr)(pos:Pos)(qual:Str):Prop:=∃ps:Array Value,H T=some (.tbl ps)/\TriplesOk ps.toList/\(codeAmong pos ps.toList=none\/∃c,codeAmong pos ps.toList=some (.ref c)/\H c=some (zdW c qual))
theorem Tb.same{H H':Hp}{T:Addr}{pos:Pos}{qual:Str}(h:Tb H T pos qual)(e:Same H H'):Tb H' T pos qual:=by
 obtain⟨ps,h1,h2,h3⟩:=h
 refine⟨ps,e _ _ h1,h2,?_⟩
 rcases h3 with h3 | ⟨c,h3,h4⟩
 ·exact .inl h3
 ·exact .inr ⟨c,h3,e _ _ h4⟩
theorem Tb.but{H H':Hp}{T l:Addr}{pos:Pos}{qual:Str}(h:Tb H T pos qual)(e:LBut l H H'):Tb H' T pos qual:=by
 obtain⟨ps,h1,h2,h3⟩:=h
 obtain⟨e1,xs,e2⟩:=e
 refine⟨ps,by rw[e1 _ (za0 h1 e2 (by intro z;cases z))];exact h1,h2,?_⟩
 rcases h3 with h3 | ⟨c,h3,h4⟩
 ·exact .inl h3
 ·exact .inr ⟨c,h3,by rw[e1 _ (za0 h4 e2 (by intro z;cases z))];exact h4⟩
section
variable {X:Cx}{params:Arguments}{body:Expr}{lsc:Scope}{lpos:Pos}{c T:Addr}{clos:List (Str × Addr)}
abbrev zcL(X:Cx)(params:Arguments)(body:Expr)(lsc:Scope)(clos:List (Str × Addr))(c':Addr)(ctv:Value):Obj:=kla_obj "<lambda>" (X.env.qual ++ "<lambda>") params body lsc clos ((X.mg "__name__").getD .none) c' ctv
def zoy(X:Cx)(params:Arguments)(body:Expr)(lsc:Scope)(clos:List (Str × Addr))(T:Addr)(lpos:Pos):TE:=fun _ H Q=>Tb H T lpos (X.env.qual ++ "<lambda>") /\
 ∀f c' H',H f=none->SameT H H'->Tb H' T lpos (X.env.qual ++ "<lambda>")->H' f=some (zen f (zcL X params body lsc clos c'))->H' c'=some (zdW c' (X.env.qual ++ "<lambda>"))->Q (.ref f) H'
theorem zmO(hdef:defaultsOf params X.env=([],[]))(hcl:closureFor lsc X.env=pure clos)(hcode:X.env.code=.ref c)(C:CodeHd X.base c T)(B:X.base.BuiltinsAt X.mg T):PE X (.Lambda params body lsc lpos) (zoy X params body lsc clos T lpos):=by
 intro pins s σ H Q I h
 obtain⟨⟨ps,hP,ht,hc⟩,k⟩:=h
 refine kla_eval hdef ?_
 have hPo:s.heap.get? T=some (tabObj ps):=I.hok T _ hP
 have hg:s.heap.Ns mainGlobals X.mg:=I.mod.glob.keeps I.bk
 have Cs:=C.keeps I.bk
 have Bs:s.heap.BuiltinsAt X.mg T:=by
  obtain⟨bm,o,b1,b2,b3,b4,b5,b6⟩:=B
  exact⟨bm,o,b1,b2,b3,b4,I.bk _ _ b5,b6⟩
 have hgT:mainGlobals≠T:=fun z=>by
  obtain⟨o,es,ep,e,hd,_⟩:=hg
  rw[z,hPo]at e;cases e;cases hd
 rcases hc with hn | ⟨c',hs,hc'⟩
 ·refine kla_makeFunction (mg:=X.mg) hcl I.ok.glob hg hcode Cs hPo ht hn hgT Bs fun c' ctv h' tk hx hge hlt hrec htb=>?_
  have hTs:T<s.heap.objs.size:=Heap.lt_size hPo
  have hTc:T≠c':=yn (yp hTs hge)
  have hTf:T≠h'.objs.size:=yn (yp hTs (yb hge (y9 hlt)))
  have hcf:c'≠h'.objs.size:=yn hlt
  have old:∀b u,H b=some u->b≠c'/\b≠h'.objs.size:=fun b u e=>by
   have:=I.hok.lt e
   exact⟨yn (yp this hge),yn (yp this (yb hge (y9 hlt)))⟩
  have olds:∀b (u:Obj),s.heap.get? b=some u->b≠c'/\b≠h'.objs.size:=fun b u e=>by
   have:=Heap.lt_size e
   exact⟨yn (yp this hge),yn (yp this (yb hge (y9 hlt)))⟩
  obtain⟨H',eH⟩:∃H',H'=upd (upd (upd H T (.tbl (ps++#[rawInt lpos.line,rawInt lpos.col,.ref c']))) c' (zdW c' (X.env.qual ++ "<lambda>"))) h'.objs.size (zen h'.objs.size (zcL X params body lsc clos c')):=⟨_,rfl⟩
  have aF:H' h'.objs.size=some (zen h'.objs.size (zcL X params body lsc clos c')):=by rw[eH];exact zL
  have aC:H' c'=some (zdW c' (X.env.qual ++ "<lambda>")):=by rw[eH,zK hcf];exact zL
  have aT:H' T=some (.tbl (ps++#[rawInt lpos.line,rawInt lpos.col,.ref c'])):=by rw[eH,zK hTf,zK hTc];exact zL
  have aO:∀b,b≠T->b≠c'->b≠h'.objs.size->H' b=H b:=fun b h1 h2 h3=>by rw[eH,zK h3,zK h2,zK h1]
  have kp:∀b u,b≠T->s.heap.get? b=some u->(h'.push (zcL X params body lsc clos c' ctv)).get? b=some u:=fun b u hb e=>Heap.get?_push_of_some _ (hx b u hb e)
  have st:SameT H H':=⟨fun b o e n=>by
    have hb:b≠T:=fun z=>by rw[z,hP]at e;cases e;cases n
    rw[aO b hb (old b o e).1 (old b o e).2];exact e,fun b qs e=>by
    by_cases hb:b=T
    ·rw[hb];exact⟨_,aT⟩
    ·rw[aO b hb (old b _ e).1 (old b _ e).2];exact⟨_,e⟩⟩
  have un:Un X.fs [] H H' s.heap (h'.push (zcL X params body lsc clos c' ctv)):=by
   have nT:∀b,H b=none->b≠T:=fun b n z=>by rw[z,hP]at n;cases n
   have nTu:∀b u,H b=some u->u.nt=true->b≠T:=fun b u e n z=>by rw[z,hP]at e;cases e;cases n
   refine⟨fun b o e n _ _=>kp b o (nT b n) e,fun b o e n _ _=>⟨o.slots,kp b o (nT b n) e⟩,fun b o e n _=>?_,fun b o e _=>?_,fun b xs e=>?_,fun b o u e=>?_,fun b qs e=>?_⟩
   ·rw[aO b (nT b n) (olds b o e).1 (olds b o e).2];exact n
   ·by_cases hb:b=T
    ·rw[hb];exact⟨_,Heap.get?_push_of_some _ htb⟩
    ·exact⟨o,kp b o hb e⟩
   ·exact st.keep b _ e rfl
   ·exact st.keep b _ e rfl
   ·by_cases hb:b=T
    ·subst hb
     rw[hP]at e;cases e
     exact⟨_,aT⟩
    ·rw[aO b hb (old b _ e).1 (old b _ e).2];exact⟨#[],by rw[e];simp⟩
  have hok:HOk X.prog X.w H' (h'.push (zcL X params body lsc clos c' ctv)):=fun b o e=>by
   by_cases h1:b=h'.objs.size
   ·subst h1;rw[aF]at e;cases e
    exact zhl (ctv:=ctv) (Heap.get?_push_size _ rfl)
   ·by_cases h2:b=c'
    ·subst h2;rw[aC]at e;cases e
     obtain⟨c2,oc,vs,t,e2,ho,r⟩:=hrec
     cases e2
     exact zj7 ⟨b,oc,vs,t,rfl,Heap.get?_push_of_some _ ho,r⟩
    ·by_cases h3:b=T
     ·subst h3;rw[aT]at e;cases e
      exact(Heap.get?_push_of_some _ htb:(h'.push (zcL X params body lsc clos c' ctv)).get? b=some _)
     ·rw[aO b h3 h2 h1]at e
      refine(I.hok b o e).stay (fun d u hd q=>kp d u (fun z=>?_) q) (fun d q=>?_) fun d xs q=>st.keep d _ q rfl
      ·rcases hd with hd | hd
       ·exact h3 (hd.symm.trans z)
       ·rw[z,hP]at hd;cases hd
      ·exact st.keep d _ q rfl
  have J:Inv X pins σ H' { s with heap:=h'.push (zcL X params body lsc clos c' ctv),toks:=tk }:=I.un un hok
  refine⟨.ref h'.objs.size,H',J,rfl,k _ c' H' ?_ st ⟨_,aT,?_,.inr ⟨c',?_,aC⟩⟩ aF aC⟩
  ·exact I.hok.fresh (yb hge (y9 hlt))
  ·rw[Array.toList_append];exact TriplesOk_snoc _ _ _ _ ht
  ·rw[Array.toList_append];exact codeAmong_snoc _ ht hn
 ·refine kla_makeFunctionHit (mg:=X.mg) hcl I.ok.glob hg hcode Cs hPo ht hs Bs fun ctv h' tk hk hsz=>?_
  have fr:H h'.objs.size=none:=I.hok.fresh hsz
  have J:Inv X pins σ (upd H h'.objs.size (zen h'.objs.size (zcL X params body lsc clos c'))) { s with heap:=h'.push (zcL X params body lsc clos c' ctv),toks:=tk }:=
   I.laid (fun b u q=>Heap.get?_push_of_some _ (hk b u q)) hsz (zhl (ctv:=ctv) (Heap.get?_push_size _ rfl))
  have sm:=Same.new fr (zen h'.objs.size (zcL X params body lsc clos c'))
  exact⟨.ref h'.objs.size,_,J,rfl,k _ c' _ fr sm.t (Tb.same ⟨ps,hP,ht,.inr ⟨c',hs,hc'⟩⟩ sm) zL (sm _ _ hc')⟩
end
def zf3(P:Program)(w:World)(K:Fg)(mg:Str->Option Value)(base:Heap)(x y qual:Str)(lsc:Scope)(f c' cc:Addr)(A:Around)(outer:List Env)(s:Shared)(H:Hp):Cx where
 prog:=P
 w:=w
 K:=K
 mg:=mg
 base:=base
 A:=A.deeper (envX qual lsc s.heap.objs.size f (.ref c') [(y,cc)])
 N:=[x,y]
 s₀:=s
 H₀:=H
 env:=envX qual lsc s.heap.objs.size f (.ref c') [(y,cc)]
 outer:=outer
 stack:=envX qual lsc s.heap.objs.size f (.ref c') [(y,cc)] :: outer
 ex:=[]
 calm:=true
 fn:=fun _=>false
 pn:=[]
 xe:=fun _ _=>False
theorem zlh{P:Program}{w:World}{K:Fg}{mg:Str->Option Value}{base:Heap}{x y qual:Str}{lsc:Scope}{params:Arguments}{body:Expr}{f c' cc:Addr}{A:Around}{outer:List Env}{s:Shared}{H:Hp}{Q:VK}{tb:TE}{pm ctv u uy:Value}{v vy:V}
  (hd:A.handled=none) (hdp:A.depth<recursionLimit) (e0:Env0 P w K mg base A outer s H) (ho:s.heap.get? f=some (kla_obj "<lambda>" qual params body lsc [(y,cc)] pm c' ctv)) (hcd:s.heap.CodeRec (.ref c') qual)
  (hsn:lsc.names=[(x,.local),(y,.free)]) (hxy:(y == x)=false) (hk:lsc.kind=.function) (hco:lsc.isCoroutine=false) (hgen:lsc.isGenerator=false)
  (hb:∀u,bindArgs (kla_fn "<lambda>" qual params body lsc [(y,cc)] pm (.ref c') ctv) ⟨[u],[]⟩=pure [(x,u)])
  (hcc:s.heap.IsCell cc (some uy)) (hcn:H cc=none) (rv:RelV v u) (ry:RelV vy uy)
  (hbody:PE (zf3 P w K mg base x y qual lsc f c' cc A outer s H) body tb) (hq:tb [some v,some vy] H Q) :
  wpAny (model P w) A (call (.ref f) [u]) (fun r s'=>CE outer P w H s Q r s') (fun _ _=>False) s:=by
 have lim:s.heap.NoLimit:=e0.mod.nolimit.keeps fun b o e=>(e0.bs b o e).1
 have hxb:(x == x)=true:=beq_self_eq_true x
 refine wpAny_call (codeAny_mono (R:=fun r s'=>∃v',r=.ok (.ret v')/\CE outer P w H s Q v' s') ?_ fun r s' hr=>?_)
 ·refine kla_callFunE hdp ho rfl hco hgen rfl hcd ?_
  rw[hb]
  refine wpAny_pure (wpAny_newFunctionEnv (fun z hz=>?_) (fun z hz=>?_) (fun h₁ hns hsb=>⟨lim.fresh _ hsb,?_⟩) hk)
  ·rw[hsn]at hz
   rcases yf.mp hz with rfl | hz
   ·intro q;cases q
   ·rw[yu.mp hz];intro q;cases q
  ·rw[yu.mp hz,hsn,yt,hxb]
  ·show codeAny _ _ (.expr body (envX qual lsc s.heap.objs.size f (.ref c') [(y,cc)])) _ _
   have hk₁:∀b o,s.heap.get? b=some o->h₁.get? b=some o:=fun b o e=>hsb.extBut b o (yn (Heap.lt_size e)) (Heap.get?_push_of_some _ e)
   have lk:∀z d,([(y,cc)]:List (Str × Addr)).lookup z=some d->z=y/\d=cc:=fun z d e=>by
    rw[yt]at e
    cases hz:z == y with
    | true=>rw[hz]at e;cases e;exact⟨eq_of_beq hz,rfl⟩
    | false=>rw[hz]at e;cases e
   have kx:lsc.names.lookup x=some .local:=by rw[hsn,yt,hxb]
   have ky:lsc.names.lookup y=some .free:=by rw[hsn,yt,hxy,yt,beq_self_eq_true]
   have noA:∀b:Addr,b∉(zf3 P w K mg base x y qual lsc f c' cc A outer s H).ex:=fun b z=>absurd (show b∈([]:List Addr)from z) (by simp)
   have I:Inv (zf3 P w K mg base x y qual lsc f c' cc A outer s H) [] [some v,some vy] H { s with heap:=h₁,toks:=s.toks+[(x,u)].length }:=by
    refine⟨⟨e0.mod,hk,rfl,rfl,yg _,fun a b d h1 h2=>?_,fun z hz=>?_,fun z d h=>?_,fun _=>hd,Around.frames_deeper e0.frames,.inr ⟨rfl,rfl⟩,fun b z=>absurd z (noA b),e0.bs,e0.bsz,fun b _ _=>noA b,fun b z=>absurd z (noA b),e0.funs,e0.frf⟩,
     rfl,e0.bare,Un.kept hk₁,⟨_,hns,fun i z vz h1 h2 h3=>?_⟩,fun z d h=>?_,e0.hok.fresh (yg _),fun z d h=>?_,fun p hp=>absurd (show p∈([]:List (Addr × Obj))from hp) (by simp),e0.hok.kept hk₁,rfl⟩
    ·exact(lk a d h1).1.trans (lk b d h2).1.symm
    ·have hz':lsc.names.lookup z=some .cell\/lsc.names.lookup z=some .free:=hz
     rw[hsn,yt,yt]at hz'
     cases h1:z == x with
     | true=>rw[h1]at hz';rcases hz' with q | q<;>cases q
     | false=>
      rw[h1]at hz'
      cases h2:z == y with
      | true=>exact⟨cc,by show([(y,cc)]:List (Str × Addr)).lookup z=some cc;rw[yt,h2]⟩
      | false=>rw[h2]at hz';rcases hz' with q | q<;>cases q
    ·exact absurd (show false=true from h) yk
    ·match i,h1,h2 with
     | 0,h1,h2=>
      cases(show some x=some z from h1)
      cases(show some (some v)=some (some vz)from h2)
      exact⟨u,rv,.inl ⟨kx,by show[(x,u)].reverse.lookup x=some u;rw[show[(x,u)].reverse=[(x,u)]from rfl,yt,hxb]⟩⟩
     | 1,h1,h2=>
      cases(show some y=some z from h1)
      cases(show some (some vy)=some (some vz)from h2)
      obtain⟨oc,hoc,hdc⟩:=hcc
      exact⟨uy,ry,.inr ⟨.inr ky,cc,by show([(y,cc)]:List (Str × Addr)).lookup y=some cc;rw[yt,beq_self_eq_true],⟨oc,hk₁ _ _ hoc,hdc⟩⟩⟩
     | n+2,h1,h2=>exact absurd (show(none:Option (Option V))=some (some vz)from h2) (by simp)
    ·obtain⟨oc,hoc,hdc⟩:=hcc
     rw[(lk z d h).2]
     exact⟨_,oc,hk₁ _ _ hoc,hdc⟩
    ·rw[(lk z d h).2];exact hcn
   refine kla_codeExpr (wpAny_mono (hbody [] _ [some v,some vy] H Q I hq) (fun r s' hr=>?_) fun _ _ z=>z.elim)
   obtain⟨v',H',J,r',q⟩:=hr
   exact⟨r,rfl,v',H',J.os,J.bare,J.base,J.hok,r',q⟩
 ·obtain⟨v',rfl,hr⟩:=hr
  exact hr
theorem zlU{lsc:Scope}{env:Env}{x y:Str}{cc:Addr}(hn:lsc.names=[(x,.local),(y,.free)])(hc:env.cells.lookup y=some cc):closureFor lsc env=pure [(y,cc)]:=by
 unfold closureFor cellOf
 rw[hn]
 simp[hc]
theorem zmX{g:Nat->Int}{i j:Nat}(hi:i<64)(hj:j<64):decide (g i*64+(i:Int)<g j*64+(j:Int))=if g i=g j then decide ((i:Int)<(j:Int))else decide (g i<g j):=by
 by_cases e:g i=g j
 ·rw[if_pos e,e]
  exact decide_eq_decide.mpr (by omega)
 ·rw[if_neg e]
  exact decide_eq_decide.mpr (by omega)
def zhN(h:Heap)(v:Value)(x y:Int):Prop:=∃(a:Addr) (ob:Obj) (t u:Tok) (n:Nat),v=.ref a/\h.get? a=some ob/\ob.cls=.type "tuple" /\ ob.data=.seq #[.int x t,.int y u] n
theorem zhm{h:Heap}:∀(ks:List Value),(∀(i:Nat) (v:Value),ks[i]?=some v->∃x y,zhN h v x y)->∃fs,KatTups h ks fs/\(∀v∈fs,∃i t,v=Value.int i t)/\fs.length=ks.length
 | [],_=>⟨[],.nil,(fun _ z=>nomatch z),rfl⟩
 | v :: ks,hk=>by
  obtain⟨x,y,a,ob,t,u,n,rfl,h1,h2,h3⟩:=hk 0 v rfl
  obtain⟨fs,f1,f2,f3⟩:=zhm ks fun i v e=>hk (i+1) v e
  refine⟨.int x t :: fs,.cons h1 h2 h3 rfl f1,fun v hv=>?_,by rw[yM,yM,f3]⟩
  rcases yf.mp hv with rfl | hv
  ·exact⟨_,_,rfl⟩
  ·exact f2 v hv
theorem zmo{prog:Program}{w:World}{A:Around}{s:Shared}{v v':Value}{x x':Int}{i j:Nat}{C:Bool->Shared->Prop}(h1:zhN s.heap v x i)(h2:zhN s.heap v' x' j)
  (h:C (if x=x' then decide ((i:Int)<(j:Int))else decide (x<x')) s):wpAny (model prog w) A (keyLt' (tuples' true) v v') C (fun _ _=>False) s:=by
 obtain⟨a,ob,t,u,n,rfl,a1,a2,a3⟩:=h1
 obtain⟨b,oc,t',u',n',rfl,b1,b2,b3⟩:=h2
 refine kat_lt a1 a3 b1 b3 ?_
 show KatLex prog w A true (decide (2<2)) C [(.int x t,.int x' t'),(.int i u,.int j u')] 0 s
 refine kat_cons (wpAny_eqBool_int ?_)
 by_cases e:x=x'
 ·rw[if_pos e]at h
  rw[show(x == x')=true from beq_iff_eq.mpr e]
  refine kat_yes (kat_cons (wpAny_eqBool_int ?_))
  by_cases e2:(i:Int)=(j:Int)
  ·rw[show((i:Int) == (j:Int))=true from beq_iff_eq.mpr e2]
   refine kat_yes (kat_nil ?_)
   have:decide ((i:Int)<(j:Int))=decide (2<2):=decide_eq_decide.mpr (by omega)
   rw[this]at h
   exact h
  ·rw[show((i:Int) == (j:Int))=false from beq_eq_false_iff_ne.mpr e2]
   refine kat_no ?_
   show wpAny _ _ (oneLt' false _ _) _ _ _
   exact kat_one _ _ (PyProof.Rows.lt_int h)
 ·rw[if_neg e]at h
  rw[show(x == x')=false from beq_eq_false_iff_ne.mpr e]
  refine kat_no ?_
  show wpAny _ _ (oneLt' true _ _) _ _ _
  exact oneLt_int h
def tSK(ta:TA)(tb:TE)(j:Nat)(T:Addr)(lpos:Pos)(q:Str):TE:=fun σ H Q=>ta σ H fun vs H1=>Tb H1 T lpos q/\∃(r:Addr) (n:Nat) (u:V) (g:Nat->Int),vs=[.ref r]/\H1 r=some (.rng 0 (n:Int))/\1<=n/\n<64/\σ[j]?=some (some u) /\
 (∀(i:Nat) H2,i<n->SameT H1 H2->tb [some (.int (i:Int)),some u] H2 (fun v H3=>∃t,v=.ref t/\Same H2 H3/\H3 t=some (.tup [.int (g i),.int (i:Int)]))) /\
 ∀l (p:List Nat) H3,H1 l=none->SameT H1 H3->Tb H3 T lpos q->p.Perm (List.range n)->(∀a b,a<=b->b<n->g (p.getD a 0)*64+(p.getD a 0:Int)<=g (p.getD b 0)*64+(p.getD b 0:Int))->H3 l=some (.lst (p.map fun i:Nat=>V.int (i:Int)))->Q (.ref l) H3
theorem zhG{X:Cx}{p pos kp lpos:Pos}{e:Expr}{ta:TA}{tb:TE}{params:Arguments}{body:Expr}{lsc:Scope}{x y:Str}{c T:Addr}{j k:Nat}(hg:Gl X "sorted")(hm:X.mg "sorted" = none)(hv:bootBuiltins "sorted" = some (.builtin "sorted"))(ha:PA X [e] ta)
  (hcode:X.env.code=.ref c) (C:CodeHd X.base c T) (B:X.base.BuiltinsAt X.mg T) (hN:X.N[j]?=some y) (hy:X.env.kindOf y=some .cell) (hr:Room (k+1) X.A)
  (hbody:∀f c' cc A s H,PE (zf3 X.prog X.w X.K X.mg X.base x y (X.env.qual ++ "<lambda>") lsc f c' cc A X.stack s H) body tb)
  (hdef:autoParam (defaultsOf params X.env=([],[])) Internal.aut2._auto_1) (hsn:autoParam (lsc.names=[(x,.local),(y,.free)]) Internal.aut2._auto_1) (hxy:autoParam ((y == x)=false) Internal.aut1._auto_1) (hk:autoParam (lsc.kind=.function) Internal.aut2._auto_1) (hco:autoParam (lsc.isCoroutine=false) Internal.aut2._auto_1) (hgen:autoParam (lsc.isGenerator=false) Internal.aut2._auto_1)
  (hb:autoParam (∀cc pm c' ctv u,bindArgs (kla_fn "<lambda>" (X.env.qual ++ "<lambda>") params body lsc [(y,cc)] pm (.ref c') ctv) ⟨[u],[]⟩=pure [(x,u)]) Internal.aut5._auto_1)
  (he:autoParam (backTo pos (starEach [e] X.env)=(false,eval e X.env) :: backTo pos (starEach [] X.env)) Internal.aut2._auto_1)
  (hplain:autoParam ((backTo pos (starEach [e] X.env)).any (·.1)=false) Internal.aut2._auto_1):PE X (.Call (.Name "sorted" p) [e] [⟨some "key",.Lambda params body lsc lpos,kp⟩] pos) (tSK ta tb j T lpos (X.env.qual ++ "<lambda>")):=by
 intro pins s σ H Q I h
 refine wpAny_Call_Name_kw (zcI I hg hm hv ?_ (by decide) (by decide))
 refine PyProof.Rows.callWith_kw ?_ he hplain
 refine thn (ha pos pins s σ H _ I h) fun us s1 zz=>?_
 obtain⟨vs,H1,I1,rv,hT,r,n,u,g,rfl,hr1,n1,n64,hu,hkey,kk⟩:=zz
 obtain⟨u1,rfl,r1⟩:=vals1 rv
 cases r1
 obtain⟨cc,hcc⟩:=I1.ok.has y (.inl hy)
 have cellY:∀{H':Hp} {s':Shared},Inv X pins σ H' s'->∃u',RelV u u'/\s'.heap.IsCell cc (some u'):=fun {H' s'} I'=>by
  obtain⟨m,hn,hl⟩:=I'.loc
  obtain⟨u',ru,l⟩:=hl j y u hN hu (.inr (.inl hy))
  rcases l with⟨hk',_⟩ | ⟨_,c2,hc2,hcell⟩
  ·rw[hy]at hk';cases hk'
  ·rw[hcc]at hc2;cases hc2
   exact⟨u',ru,hcell⟩
 refine thn (zhi (t:=zfl) (nm:=some "key") (kpos:=kp) (zmO (lpos:=lpos) (params:=params) (body:=body) hdef (zlU hsn hcc) hcode C B) zji pos pins s1 σ H1 (fun ws H2=>∃f c',ws=[.ref f]/\H1 f=none/\SameT H1 H2/\Tb H2 T lpos (X.env.qual ++ "<lambda>")/\H2 f=some (zen f (zcL X params body lsc [(y,cc)] c'))/\H2 c'=some (zdW c' (X.env.qual ++ "<lambda>"))) I1 ⟨hT,fun f c' H' h1 h2 h3 h4 h5=>⟨f,c',rfl,h1,h2,h3,h4,h5⟩⟩) fun kvs s2 zz=>?_
 obtain⟨ws,H2,I2,rw2,f,c',rfl,hf0,st,hT2,hF,hC⟩:=zz
 obtain⟨u2,rfl,r3⟩:=vals1 rw2
 cases r3
 obtain⟨tr,ur,vr,er⟩:=I2.hok r _ (st.at hr1)
 show wpAny (model X.prog X.w) X.A (call (.builtin "sorted") [.ref r] [(Str.ofString "key",.ref f)]) (EP X pins σ Q) X.xe s2
 have hd:=hr.hd
 have hdp:X.A.in1.in1.depth<recursionLimit:=by have:=hr.dp;show X.A.depth<_;omega
 have nf:∀b,s2.heap.objs.size<=b->b∉frs X.stack:=fun b hb z=>by
  rcases yf.mp (I2.stkSub b z)with q | q
  ·exact absurd (show b<s2.heap.objs.size from q▸I2.lt) (yaC.mpr hb)
  ·exact I2.nofs hb q
 have ncell:∀b,s2.heap.objs.size<=b->∀z d,X.env.cells.lookup z=some d->d≠b:=fun b hb z d hz q=>by
  obtain⟨v,o,ho,_⟩:=I2.cell z d hz
  exact absurd (Heap.lt_size ho) (yaC.mpr (q▸hb))
 have npin:∀b,s2.heap.objs.size<=b->∀q∈X.pn++pins,q.1≠b:=fun b hb q hq z=>by
  exact absurd (Heap.lt_size (I2.pin q hq).1) (yaC.mpr (z▸hb))
 refine zjO (kf:=fun i=>g i*64+(i:Int)) (fun D kS e1 ks s'=>∃H':Hp,Inv X pins σ H' s'/\Same H2 H'/\s2.heap.objs.size<D/\(D:Nat)<(kS:Nat)/\(∃e,s'.heap.get? kS=some (seqObj "list" (List.toArray ks) e))/\s'.heap.get? D=some (seqObj "list" #[] e1)/\H' kS=none/\H' D=none /\
   ∀(i:Nat) (v:Value),ks[i]?=some v->∃a,v=.ref a/\H' a=some (.tup [.int (g i),.int (i:Int)])) hd er n1 n64 (fun h' tk D kS e1 hk1 hD hDk hoD hoK=>?_) (fun D kS e1 ks tk s' hlt hJ=>?_) fun D kS e1 ks s' hl hJ=>?_
 ·exact⟨H2,I2.kept hk1,Same.refl _,hD,hDk,⟨0,hoK⟩,hoD,I2.hok.fresh (by omega),I2.hok.fresh (by omega),fun i v z=>by simp at z⟩
 ·obtain⟨H',I',sm,d1,d2,⟨e0,hkS⟩,hoD,nk,nd,hks⟩:=hJ
  have d3:s2.heap.objs.size<kS:=yaD d1 d2
  obtain⟨⟨ctv,hfo⟩,_⟩:=I'.hok f _ (sm _ _ hF)
  obtain⟨hcd,_⟩:=I'.hok c' _ (sm _ _ hC)
  obtain⟨uy,ry,hcell⟩:=cellY I'
  refine wpAny_mono (zlh (A:=X.A.in1.in1) (v:=.int (ks.length:Int)) hd hdp I'.env0.in1.in1 hfo hcd hsn hxy hk hco hgen (fun u=>hb cc _ c' ctv u) hcell (I'.freeC y cc hcc) ⟨tk,rfl⟩ ry (hbody f c' cc _ _ _) (hkey ks.length H' hlt (st.trans sm.t))) (fun kv s'' hce=>?_) fun _ _ z=>z
  obtain⟨v',H'',os,bare,un,hok,rv',t,rfl,sm2,ht⟩:=hce
  cases rv'
  have kK:=un.keep kS _ hkS nk (nf kS (by omega)) (by simp)
  have kD:=un.keep D _ hoD nd (nf D (by omega)) (by simp)
  have fK:=un.free kS _ hkS nk (by simp)
  have fD:=un.free D _ hoD nd (by simp)
  obtain⟨hh,gg,dd,tt,os'⟩:=s''
  obtain rfl:os'=s'.os:=os
  have J1:Inv X pins σ H'' ⟨hh,gg,dd,tt,s'.os⟩:=I'.call (h':=hh) (g':=gg) (d':=dd) (t':=tt) (ch:=[]) un hok bare (fun b z=>absurd z (by simp))
  refine⟨⟨e0,kK⟩,fun h' cN sb hcN=>⟨H'',?_,sm.trans sm2,d1,d2,⟨cN,hcN⟩,(sb.2 D (yn d2)).trans kD,fK,fD,fun i v hv=>?_⟩⟩
  ·exact J1.turned (t':=tt) (fun b o hb q=>(sb.2 b hb).trans q) fK (fun z=>absurd (show kS<s2.heap.objs.size from z▸I2.lt) (yaC.mpr (by omega))) (.inr (yb I2.sz (by omega))) (ncell kS (by omega)) (npin kS (by omega))
  ·rw[yao]at hv
   split at hv
   ·obtain⟨a,e1,e2⟩:=hks i v hv
    exact⟨a,e1,sm2 _ _ e2⟩
   ·rename_i hi
    have e0':i-ks.length=0:=by
     cases e:i-ks.length with
     | zero=>rfl
     | succ m=>rw[e]at hv;cases hv
    rw[e0']at hv;cases hv
    obtain rfl:i=ks.length:=by omega
    exact⟨t,rfl,ht⟩
 ·obtain⟨H',I',sm,d1,d2,⟨e0,hkS⟩,hoD,nk,nd,hks⟩:=hJ
  have d3:s2.heap.objs.size<kS:=yaD d1 d2
  have tup:∀(i:Nat) (v:Value),ks[i]?=some v->zhN s'.heap v (g i) (i:Int):=fun i v hv=>by
   obtain⟨a,rfl,ha⟩:=hks i v hv
   obtain⟨_,its,rI,ob,ho,hc,m,hd'⟩:=I'.hok a _ ha
   obtain⟨w1,w2,e1,⟨t1,rfl⟩,⟨t2,rfl⟩⟩:=vals2 rI
   subst e1
   exact⟨a,ob,t1,t2,m,rfl,ho,hc,hd'⟩
  refine⟨⟨e0,hkS⟩,hoD,Nat.ne_of_gt d2,zhm ks fun i v hv=>⟨_,_,tup i v hv⟩,fun i j' Cc hi hj hc=>?_,fun q out h' cN hq hs kp hvo hD' hK'=>?_⟩
  ·obtain⟨v1,e1⟩:=zQ (show i<ks.length by omega)
   obtain⟨v2,e2⟩:=zQ (show j'<ks.length by omega)
   rw[yi,e1,yi,e2]
   refine zmo (tup i v1 e1) (tup j' v2 e2) ?_
   rw[<- zmX (by omega) (by omega)]
   exact hc
  ·have hql:q.length=n:=by have:=hq.length_eq;rwa [y6]at this
   have nTr:∀b o,H' b=some o->b≠kS/\b≠D:=fun b o e=>⟨zG e nk,zG e nd⟩
   have oT:∀b o,H' b=some o->upd H' D (.lst (q.map fun i:Nat=>V.int (i:Int))) b=some o:=fun b o e=>by rw[zK (nTr b o e).2];exact e
   have J2:Inv X pins σ (upd H' D (.lst (q.map fun i:Nat=>V.int (i:Int)))) { s' with heap:=h' }:=by
    refine I'.step (g':=s'.gens) (d':=s'.drawn) (t':=s'.toks) (ch:=[kS,D]) (fun b hb=>?_) (fun b o _ _ hc e _=>?_) (fun b o _ _ hc e _=>⟨o.slots,?_⟩) (fun b o hc _ nb=>?_) (fun b o hc e=>⟨o,?_⟩) (fun b xs e=>oT b _ e) (fun b o u e=>oT b _ e) (fun b ps e=>⟨#[],by rw[oT b _ e];simp⟩) (fun m hm=>?_) (fun b o e=>?_) I'.bare
    ·have hb':b=kS\/b=D:=by simpa using hb
     have hb2:s2.heap.objs.size<=b:=by
      rcases hb' with z | z
      ·rw[z];omega
      ·rw[z];omega
     exact⟨.inr (yb I2.sz hb2),(fun z=>absurd (show b<s2.heap.objs.size from z▸I2.lt) (yaC.mpr hb2)),ncell b hb2,npin b hb2⟩
    ·exact kp b o (fun z=>hc (by simp[z])) (fun z=>hc (by simp[z])) e
    ·exact kp b o (fun z=>hc (by simp[z])) (fun z=>hc (by simp[z])) e
    ·rw[zK (fun z=>hc (by simp[z]))];exact nb
    ·exact kp b o (fun z=>hc (by simp[z])) (fun z=>hc (by simp[z])) e
    ·obtain⟨o,es,ep,ho,rr⟩:=hm
     have hL:X.env.locals<s2.heap.objs.size:=I2.lt
     exact⟨o,es,ep,kp _ o (yn (yaD hL (by omega))) (yn (yaD hL (by omega))) ho,rr⟩
    ·by_cases hb:b=D
     ·subst hb
      rw[zL]at e;cases e
      exact⟨by rw[ya];exact zbV (by omega),out,cN,hvo,hD'⟩
     ·rw[zK hb]at e
      refine(I'.hok b o e).stay (fun d u' hd' q'=>kp d u' ?_ ?_ q') (fun d q'=>oT d _ q') fun d xs q'=>oT d _ q'
      ·rcases hd' with z | z
       ·rw[z];exact(nTr b o e).1
       ·exact(nTr d _ z).1
      ·rcases hd' with z | z
       ·rw[z];exact(nTr b o e).2
       ·exact(nTr d _ z).2
   have sm3:Same H' (upd H' D (.lst (q.map fun i:Nat=>V.int (i:Int)))):=fun b o e=>oT b o e
   exact⟨.ref D,_,J2,rfl,kk D q _ (st.none (sm.none nd)) (st.trans (sm.trans sm3).t) ((hT2.same sm).same sm3) hq hs zL⟩
open PySem PySem.W PySem.Calls PyProof.Rows
theorem zeD{n:Nat}:∀(ns:List Int),WData.weightAll (ns.map WData.int)<=n->∀i∈ns,sz i<=n
 | [],_,_,h=>nomatch h
 | j :: r,h,i,hi=>by
  rw[yH,WData.weightAll]at h
  rcases yf.mp hi with rfl | hi
  ·have:WData.weight (.int i)=sz i:=by rw[WData.weight];rfl
   omega
  ·exact zeD r (by omega) i hi
def zfV(ns:List Int):Prop:=∀i∈ns,sz i<=1048576
theorem zku{ns:List Int}(h:WData.layableAll [WData.list (ns.map WData.int)]=true):zfV ns:=by
 unfold WData.layableAll at h
 rw[yav,List.all_nil,Bool.and_true]at h
 unfold WData.layable at h
 rw[yA,decide_eq_true_eq]at h
 have h2:=h.2
 rw[WData.weight]at h2
 exact zeD ns (yb h2 (by decide))
theorem zgq{l:OpenLaw}{n:Nat}{q:Program}{loose:List Str}{XP:(Str->Option Value)->Heap->Prop}{YP:World->Heap->Prop}{d:DefRec}
  (hn:l.most=some n) (hdf:d.params.defaults=[])
  (call:∀(w:World) (s₀ s₁:Shared) (mg mb:Str->Option Value) (fa:Addr) (a:Addr) (vs:List Value) (ns:List Int),
   Ground q loose [] XP w s₀ mg mb s₁.heap->YP w s₁.heap->mg d.name=some (.ref fa) ->
   s₁.heap.get? a=some { cls:=.type "list",data:=.seq vs.toArray }->IntsAre vs ns->ns.length<=n->zfV ns->s₁.gens=#[] ->
   codeAny (model l.prog w) callerA (.call (.ref fa) ⟨[.ref a],[]⟩) (fun r s'=>r=.ok (.ret (.bool true))/\OldK s₁.heap s'.heap/\s'.os=s₁.os/\AllBare s'.gens) s₁) :
  WalkO q loose XP YP l.row.toRowW d [] (fun f vs=>PySem.call f vs):=by
 intro w s₀ s₁ mg mb G Y fa o pm cd doc dV kV ho hd hcd hD hmg hg args vals as hpre hlay hrd hwl hlo
 obtain⟨a,vs,ns,rfl,rfl,hobj,hints,hlen⟩:=Att.script_of hn hpre hwl
 refine enter_call (codeAny_mono (call w s₀ s₁ mg mb fa a vs ns G Y hmg hobj hints hlen (zku hlay) hg) fun r s' hq=>?_)
 obtain⟨rfl,h2,h3,h4⟩:=hq
 exact⟨.inl ⟨.bool true,.bool true,[],rfl,fun _=>rfl,.bool true,Att.post_true l _,fun _=>⟨List.Pairwise.nil,fun _ hm=>(nomatch hm)⟩⟩,h2,h3,h4⟩
open PySem PySem.Spec PyProof.Rows
def Within(m:Int)(k:Nat)(f:Nat->Int):Prop:=∀j,j<k->-m<=f j/\f j<=m
def WithinR(m:Int)(n k:Nat)(F:Nat->Nat->Int):Prop:=∀i,i<n->Within m k (F i)
theorem Rows.snoc{H:Hp}{as:List Addr}{k:Nat}{F:Nat->Nat->Int}{p:Addr}{f:Nat->Int}(h:Rows H as k F)(n:p∉as)(hp:H p=some (.lst ((vec k f).map V.int))):Rows H (as++[p]) k (fun i=>if i=as.length then f else F i):=by
 refine Rows.app (h.congr fun i hi j _=>?_) n (by show H p=some (HO.lst ((vec k (if as.length=as.length then f else F as.length)).map V.int));rw[if_pos rfl];exact hp)
 show F i j=(if i=as.length then f else F i) j
 rw[if_neg (by omega)]
theorem WithinR.snoc{m:Int}{n k:Nat}{F:Nat->Nat->Int}{f:Nat->Int}(h:WithinR m n k F)(hf:Within m k f):WithinR m (n+1) k (fun i=>if i=n then f else F i):=by
 intro i hi
 show Within m k (if i=n then f else F i)
 by_cases e:i=n
 ·rw[if_pos e];exact hf
 ·rw[if_neg e];exact h i (by omega)
def zaq(k:Nat)(f g:Nat->Int):Int:=-zcc (vec k fun j=>f j*g j)
theorem zgm{n:Nat}{f:Nat->Int}(x:Int):(vec n f).map V.int++[.int x]=(vec (n+1) fun i=>if i=n then x else f i).map V.int:=by
 rw[zaF,yx]
 congr 1
 ·rw[zaI (g:=fun i=>if i=n then x else f i) fun i hi=>by show f i=if i=n then x else f i;rw[if_neg (by omega)]]
 ·show[V.int x]=[V.int (if n=n then x else f n)];rw[if_pos rfl]
theorem Within.more{m:Int}{n:Nat}{f:Nat->Int}{x:Int}(h:Within m n f)(h0:-m<=x)(h1:x<=m):Within m (n+1) (fun i=>if i=n then x else f i):=by
 intro j hj
 show -m<=(if j=n then x else f j)/\(if j=n then x else f j)<=m
 by_cases e:j=n
 ·rw[if_pos e];exact⟨h0,h1⟩
 ·rw[if_neg e];exact h j (by omega)
theorem zex{k:Nat}{f g:Nat->Int}:zaq (k+1) f g=zaq k f g-f k*g k:=by
 unfold zaq
 rw[zaF,zc4]
 omega
def zer(K:Fg):Sp:=fun vs H Q _=>∃(p l:Addr) (as:List Addr) (k:Nat) (f:Nat->Int) (F:Nat->Nat->Int) (m:Int),vs=[.ref p,.ref l]/\H p=some (.lst ((vec k f).map V.int))/\H l=some (.lst (as.map V.ref))/\Rows H as k F/\Within m k f/\WithinR m as.length k F/\m<=999999999999/\k<=1000/\as.length<=1000 /\
 ∀r H',H r=none->Same H H'->H' r=some (.lst ((vec as.length fun i=>zaq k f (F i)).map V.int))->Q (.ref r) H'
def zhI:=fun {K:Fg} {p l:Addr} {as:List Addr} {k:Nat} {f:Nat->Int} {F:Nat->Nat->Int} {m:Int} {H:Hp} {Q:VK} {E:XK} h1 h2 h3 h4 h5 hm hk hl q=>@id (zer K [.ref p,.ref l] H Q E) ⟨p,l,as,k,f,F,m,rfl,h1,h2,h3,h4,h5,hm,hk,hl,q⟩
open PySem PySem.W PySem.Spec PySem.Calls PyProof.Rows
theorem zjn{P:Program}{w:World}{K:Fg}{mg mb:Str->Option Value}{CX:CXT}{k:Nat}{fa a c T:Addr}{fd:FuncData}{x:Str}{sp:Sp}{s₁:Shared}{vs:List Value}{ns:List Int}
  (KX:K.In s₁.heap) (hns:s₁.heap.Ns mainGlobals mg) (hb:s₁.heap.Ns builtinsNs mb) (hbb:∀x:Str,x ≠ "__name__" -> mb x=bootBuiltins x) (hlim:s₁.heap.NoLimit) (hg:s₁.gens=#[])
  (ha:s₁.heap.get? a=some { cls:=.type "list",data:=.seq vs.toArray }) (hi:IntsAre vs ns) (hl:ns.length<=sizeLine) (hr:Room k callerA)
  (hC:CodeHd s₁.heap c T) (hT:s₁.heap.get? T=some (tabObj #[])) (hKT:K.lookup T=none) (hB:s₁.heap.BuiltinsAt mg T)
  (F:∀base:Heap,K.In base->base.Ns mainGlobals mg->CodeHd base c T->base.BuiltinsAt mg T->FnOk P w K mg base CX k fa fd [x] sp) (hbind:∀(s:Shared) (u:Value),BindsTo s fd ⟨[u],[]⟩ [(x,u)])
  (hsp:∀H:Hp,SqL K H a (ns.map V.int)->H T=some (.tbl #[])->sp [.ref a] H (fun v _=>v=.bl true) fun _ _ _=>False)
  (hCX:∀H e s',CX [] H s₁ (fun _ _ _=>False) e s'->False) :
  codeAny (model P w) callerA (.call (.ref fa) ⟨[.ref a],[]⟩) (fun r s'=>r=.ok (.ret (.bool true))/\OldK s₁.heap s'.heap/\s'.os=s₁.os/\AllBare s'.gens) s₁:=by
 have rv:=zdH hi
 have lenV:=hi.length
 have neTa:T≠a:=fun z=>by rw[z,ha]at hT;cases hT
 have core:∀Hs:Hp,zoj Hs->SqL K Hs a (ns.map V.int)->HOk P w Hs s₁.heap->(∀b,Hs b≠none->b=a)->(Hs a≠none->K.lookup a=none) ->
   codeAny (model P w) callerA (.call (.ref fa) ⟨[.ref a],[]⟩) (fun r s'=>r=.ok (.ret (.bool true))/\OldK s₁.heap s'.heap/\s'.os=s₁.os/\AllBare s'.gens) s₁:=by
  intro Hs hO hS hoks hA hK
  have hsT:Hs T=none:=by
   cases q:Hs T with
   | none=>rfl
   | some u=>exact absurd (hA T (by rw[q];simp)) neTa
  obtain⟨H,eH⟩:∃H,H=upd Hs T (.tbl #[]):=⟨_,rfl⟩
  have aT:H T=some (.tbl #[]):=by rw[eH];exact zL
  have aO:∀b,b≠T->H b=Hs b:=fun b h=>by rw[eH,zK h]
  have hok:HOk P w H s₁.heap:=fun b o e=>by
   by_cases h:b=T
   ·subst h;rw[aT]at e;cases e
    exact hT
   ·rw[aO b h]at e
    exact(hoks b o e).stay (fun d u _ q=>q) (fun d q=>by rw[aO d (zG q hsT)];exact q) fun d xs q=>by rw[aO d (zG q hsT)];exact q
  have hSH:SqL K H a (ns.map V.int):=by
   rcases hS with(h | ⟨o,h⟩) | h
   ·exact .inl (.inl (by rw[aO a neTa.symm];exact h))
   ·exact .inl (.inr ⟨o,by rw[aO a neTa.symm];exact h⟩)
   ·exact .inr h
  have base_of:∀{b:Addr} {o:Obj},s₁.heap.get? b=some o->H b=none->(zcV s₁.heap H).get? b=some o:=fun e n=>zkh e n
  have noH:∀{b:Addr} {o:Obj},s₁.heap.get? b=some o->o.cls≠.none->o.cls≠.type "list" -> H b=none:=fun {b o} e d1 d2=>by
   have hbT:b≠T:=fun z=>by rw[z,hT]at e;cases e;exact d1 rfl
   rw[aO b hbT]
   cases q:Hs b with
   | none=>rfl
   | some u=>
    have e':b=a:=hA b (by rw[q];simp)
    subst e'
    rw[ha]at e;cases e
    exact absurd rfl d2
  have noA:∀{b:Addr} {o:Obj} {es:Array DictEntry} {ep:Nat},s₁.heap.get? b=some o->o.data=.dict es ep->H b=none:=fun {b o es ep} e d=>by
   have hbT:b≠T:=fun z=>by rw[z,hT]at e;cases e;cases d
   rw[aO b hbT]
   cases q:Hs b with
   | none=>rfl
   | some u=>
    have e':b=a:=hA b (by rw[q];simp)
    subst e'
    rw[ha]at e;cases e
    cases d
  have nsK:∀{b:Addr} {m:Str->Option Value},s₁.heap.Ns b m->(zcV s₁.heap H).Ns b m:=fun {b m} ⟨o,es,ep,e,d,r⟩=>⟨o,es,ep,base_of e (noA e d),d,r⟩
  have hKb:K.In (zcV s₁.heap H):=fun b o e=>base_of (KX b o e) (by
   have hbT:b≠T:=fun z=>by rw[z,hKT]at e;cases e
   rw[aO b hbT]
   cases q:Hs b with
   | none=>rfl
   | some u=>
    have e':b=a:=hA b (by rw[q];simp)
    subst e'
    rw[hK (by rw[q];simp)]at e;cases e)
  have hM:Mod K mg (zcV s₁.heap H):=⟨hKb,nsK hns,⟨mb,nsK hb,hbb⟩,let ⟨mc,h1,h2⟩:=hlim;⟨mc,nsK h1,h2⟩⟩
  have hCb:CodeHd (zcV s₁.heap H) c T:=by
   obtain⟨o,us,file,tf,flags,tg,inF,text,tt,e1,e2,r⟩:=hC
   exact⟨o,us,file,tf,flags,tg,inF,text,tt,base_of e1 (noH e1 (by rw[e2];decide) (by rw[e2];decide)),e2,r⟩
  have hBb:(zcV s₁.heap H).BuiltinsAt mg T:=by
   obtain⟨bm,o,b1,b2,b3,b4,b5,b6,r⟩:=hB
   exact⟨bm,o,b1,b2,b3,b4,base_of b5 (noH b5 (by rw[b6];decide) (by rw[b6];decide)),b6,r⟩
  have e0:Env0 P w K mg (zcV s₁.heap H) callerA [] s₁ H:=⟨rfl,hM,fun b o e=>zl8 e,yaP (zjd _ _),trivial,fun b hb=>absurd (show b∈([]:List Addr)from hb) (by simp),hok,.of_eq hg⟩
  refine codeAny_mono ((F _ hKb (nsK hns) hCb hBb).run callerA [] s₁ H ⟨[.ref a],[]⟩ [.ref a] [.ref a] _ _ hr e0 (hbind s₁ (.ref a)) (.cons rfl .nil) (hsp H hSH aT)) fun r s' h=>?_
  cases r with
  | error e=>exact(hCX H e s' h).elim
  | ok fl=>
   cases fl with
   | next=>exact False.elim h
   | brk=>exact False.elim h
   | cont=>exact False.elim h
   | ret u=>
    obtain⟨v,H',os,bare,un,hok',r',q⟩:=h
    have q':v=.bl true:=q
    subst q'
    obtain rfl:u=Value.bool true:=r'
    have hgrown:∃more,s'.heap.get? T=some (tabObj more):=by
     obtain⟨more,e⟩:=un.tbls T #[] aT
     exact⟨_,hok' T _ e⟩
    have keep:∀b o,b≠T->s₁.heap.get? b=some o->s'.heap.get? b=some o:=fun b o hbT e=>by
     cases q:Hs b with
     | none=>exact un.keep b o e (by rw[aO b hbT];exact q) (by intro z;exact absurd (show b∈([]:List Addr)from z) (by simp)) (by simp)
     | some u=>
      rcases hO b with z | ⟨ob,xs,z⟩
      ·rw[q]at z;cases z
      ·have z1:H b=some (.frz ob (.lst xs)):=by rw[aO b hbT];exact z
       have z2:=un.frzs b ob _ z1
       obtain⟨e1,_⟩:=hok b _ z1
       obtain⟨e2,_⟩:=hok' b _ z2
       rw[e]at e1;cases e1
       exact e2
    refine⟨rfl,⟨fun b o e=>?_,fun b o e=>?_⟩,os,bare⟩
    ·by_cases hbT:b=T
     ·subst hbT
      rw[hT]at e;cases e
      obtain⟨more,hm⟩:=hgrown
      exact .inr (.inl ⟨(hC.tab hT).isCodeTable,rfl,#[],more,rfl,by rw[Array.empty_append];exact hm⟩)
     ·exact .inl (keep b o hbT e)
    ·by_cases hbT:b=T
     ·subst hbT
      obtain⟨more,hm⟩:=hgrown
      exact⟨_,hm⟩
     ·exact⟨o,keep b o hbT e⟩
 cases hk:K.lookup a with
 | some o=>
  have e:=KX a o hk
  rw[ha]at e
  cases e
  refine core (fun _=>none) (fun _=>.inl rfl) (.inr ⟨_,vs.toArray,_,hk,rfl,rfl,rfl,by rw[yj,lenV];exact hl,by simpa using rv⟩) (fun b u z=>by have z':(none:Option HO)=some u:=z;cases z') (fun b z=>absurd rfl z) fun z=>absurd rfl z
 | none=>
  refine core (fun b=>if b=a then some (.frz { cls:=.type "list",data:=.seq vs.toArray } (.lst (ns.map V.int)))else none) (fun b=>?_) (.inl (.inr ⟨{ cls:=.type "list",data:=.seq vs.toArray },if_pos rfl⟩)) (fun b u z=>?_) (fun b z=>?_) fun _=>hk
  ·by_cases hb:b=a
   ·exact .inr ⟨_,_,if_pos hb⟩
   ·exact .inl (if_neg hb)
  ·by_cases hb:b=a
   ·have z':=(if_pos hb).symm.trans z
    cases z'
    subst hb
    exact⟨ha,by rw[ya];exact hl,vs,_,rv,ha⟩
   ·have z':=(if_neg hb).symm.trans z
    cases z'
  ·by_cases hb:b=a
   ·exact hb
   ·exact absurd (if_neg hb) z
def zel(K:Fg)(x:Str):Addr:=match tabIn K x with
 | some q=>q.2
 | none=>0
class TabX (K:Fg) (mg:Str->Option Value) (base:Heap) (x:outParam Str):Prop where
 ex:∀c T,tabIn K x=some (c,T)->CodeHd base c T/\base.BuiltinsAt mg T
theorem zfO{K:Fg}{h:Heap}{T:Addr}(hK:noTabs K=true)(X:K.In h)(hT:h.get? T=some (tabObj #[])):K.lookup T=none:=by
 cases q:K.lookup T with
 | none=>rfl
 | some o=>
  have e:=X T o q
  rw[hT]at e
  cases e
  have h2:=yaQ.mp hK (T,tabObj #[]) (mem_of_lookupK q)
  exact absurd (show false=true from h2) yk
theorem walk_ofT{l:PySem.W.OpenLaw}{n k:Nat}{q:Program}{loose:List Str}{XP:(Str->Option Value)->Heap->Prop}{YP:World->Heap->Prop}{d d':DefRec}{K:Params->Fg}{CX:World->CXT}{sp:World->Sp}{x y:Str}
  (hn:l.most=some n) (hn2:n<=sizeLine) (hdf:d.params.defaults=[]) (hr:Room k callerA)
  (hY:∀(w:World) (h:Heap),YP w h->(K w.params).In h)
  (hrec:(recsOf q).find? (fun e=>e.name == y)=some d') (hnt:∀w:World,noTabs (K w.params)=true)
  (F:∀(w:World) (mg:Str->Option Value) (fa:Addr) (h:Heap),(K w.params).In h->h.Ns mainGlobals mg->mg d.name=some (.ref fa) ->
   ∃fd:FuncData,(∀(s:Shared) (u:Value),BindsTo s fd ⟨[u],[]⟩ [(x,u)])/\(∃p,tabIn (K w.params) y=some p) /\
    ∀base:Heap,(K w.params).In base->base.Ns mainGlobals mg->TabX (K w.params) mg base y->FnOk l.prog w (K w.params) mg base (CX w) k fa fd [x] (sp w))
  (hsp:∀(w:World) (H:Hp) (a:Addr) (ns:List Int),ns.length<=n->zfV ns->SqL (K w.params) H a (ns.map V.int)->(∀pos qual,Tb H (zel (K w.params) y) pos qual)->sp w [.ref a] H (fun v _=>v=.bl true) fun _ _ _=>False)
  (hCX:∀(w:World) (H:Hp) (s:Shared) (e:Value) (s':Shared),CX w [] H s (fun _ _ _=>False) e s'->False) :
  PySem.W.WalkO q loose XP YP l.row.toRowW d [] (fun f vs=>PySem.call f vs):=by
 refine zgq hn hdf fun w s₀ s₁ mg mb fa a vs ns G Y hmg hobj hints hlen hz hg=>?_
 have KX:=hY w _ Y
 obtain⟨fd,hb,⟨⟨c,T⟩,hcT⟩,hF⟩:=F w mg fa _ KX G.T.g hmg
 obtain⟨hC,hT⟩:=tab_of G.T KX hrec hcT
 have hB:s₁.heap.BuiltinsAt mg T:=by
  obtain⟨bm,ob,b1,b2,b3,b4,b5,b6⟩:=G.T.bmain
  refine⟨bm,ob,b1,b2,fun z=>?_,fun z=>?_,b3,b4,b5,b6⟩
  ·obtain⟨o,es,ep,e,hd,_⟩:=G.T.g
   rw[z,e]at b3;cases b3;rw[hd]at b6;cases b6
  ·rw[z,hT]at b3;cases b3;cases b4
 have eP:zel (K w.params) y=T:=by unfold zel;rw[hcT]
 refine zjn KX G.T.g G.T.b G.T.builtins G.T.nolimit hg hobj hints (yb hlen hn2) hr hC hT (zfO (hnt w) KX hT) hB
  (fun base kb nb cb bb=>hF base kb nb ⟨fun c' T' e=>by rw[hcT]at e;cases e;exact⟨cb,bb⟩⟩) hb (fun H hS hTb=>hsp w H a ns hlen hz hS fun pos qual=>?_) fun H e s'=>hCX w H s₁ e s'
 rw[eP]
 exact⟨#[],hTb,trivial,.inl rfl⟩
theorem zm1{K:Fg}{x:Str}{f c T:Addr}{oc ocw:Value}{od odw:Option Addr}{fd:FuncData}{sl slw:Array (Option Value)}{vs:Array Value}(a:nsIn K mainGlobals x=some (some (.ref f)))(l:K.lookup f=some ⟨oc,od,.func fd,sl⟩)(cq:fd.code=.ref c)(lc:K.lookup c=some ⟨ocw,odw,.fields vs,slw⟩)(v:vs[11]?=some (.ref T)):tabIn K x=some (c,T):=by
 unfold tabIn
 simp only[a,l,cq,lc,v]
theorem Fun.okC{P:Program}{w:World}{K:Fg}{mg:Str->Option Value}{base:Heap}{CX:CXT}{x qual:Str}{st:Stmt}{f c:Addr}{fd:FuncData}{N ps:List Str}{k:Nat}{sp:Sp}(F:Fun K x qual st f fd)(hc:fd.code=.ref c)(S:FnScope N ps (ze st))(len:∀vs H Q E,sp vs H Q E->vs.length=ps.length)
  (hbody:∀(A:Around) (outer:List Env) (s:Shared) (H:Hp) (vs:List V) (Q:VK) (E:XK),Room k (A.deeper (envOfC qual (ze st) s.heap.objs.size f (.ref c)))->sp vs H Q E ->
   ∃t,PSs (zaJ CX P w K mg base N qual (ze st) f (.ref c) A outer s H E).nox (zv st) t/\t { nx:=fun _ H'=>Q .non H',rt:=Q } (start N vs) H):FnOk P w K mg base CX (k+1) f fd ps sp:=by
 obtain⟨oc,od,kV,doc,pm,an,cdv,ct,osl,rfl,lk,hcd⟩:=F.ex
 have e:cdv=.ref c:=hc
 subst e
 refine zia lk hcd S len fun A outer s H vs Q E hr hsp=>?_
 obtain⟨t,h,q⟩:=hbody A outer s H vs Q E hr hsp
 exact⟨t,h.nox,q⟩
section
variable {H H':Hp}
theorem SameT.lst(e:SameT H H'){a:Addr}{xs:List V}(h:H a=some (.lst xs)):H' a=some (.lst xs):=e.keep _ _ h rfl
theorem SameT.tup(e:SameT H H'){a:Addr}{xs:List V}(h:H a=some (.tup xs)):H' a=some (.tup xs):=e.keep _ _ h rfl
theorem SameT.ins(e:SameT H H'){a C dx:Addr}{fs:List (Str × V)}(h:H a=some (.ins C dx fs)):H' a=some (.ins C dx fs):=e.keep _ _ h rfl
theorem SameT.seq{K:Fg}(e:SameT H H'){a:Addr}{xs:List V}(h:SqL K H a xs):SqL K H' a xs:=by
 rcases h with(h | ⟨o,h⟩) | h
 ·exact .inl (.inl (e.keep _ _ h rfl))
 ·exact .inl (.inr ⟨o,e.keep _ _ h rfl⟩)
 ·exact .inr h
theorem SameT.rows(e:SameT H H'){as:List Addr}{k:Nat}{F:Nat->Nat->Int}(h:Rows H as k F):Rows H' as k F:=⟨h.1,fun i a q=>e.keep _ _ (h.2 i a q) rfl⟩
end
def TbW(K:Fg)(x:Str)(pos:Pos)(qual:Str)(H:Hp):Prop:=Tb H (zel K x) pos qual
section
variable {K:Fg}{x qual:Str}{pos:Pos}{H H':Hp}
theorem TbW.same(e:Same H H')(h:TbW K x pos qual H):TbW K x pos qual H':=Tb.same h e
theorem TbW.but{l:Addr}(e:LBut l H H')(h:TbW K x pos qual H):TbW K x pos qual H':=Tb.but h e
end
open PySem
def zkS(ds:List Due)(n m:Nat):Nat:=match zgr ds n m with
 | some j=>match ds[j]? with
  | some d=>d.q.toNat
  | none=>0
 | none=>0
def znS(ds:List Due)(n m:Nat):Int:=match zgr ds n m with
 | some j=>j
 | none=>0
set_option genInjectivity false in
set_option genSizeOf false in
structure Walked(ds:List Due)(n:Nat)(ms:List Nat)(x:Nat):Prop where
 nd:ms.Nodup
 ok:∀m∈ms,m<n/\zgr ds n m≠none
 at':x<n/\zgr ds n x≠none
 nx:∀(i m:Nat),ms[i]?=some m->zkS ds n m=(ms++[x])[i+1]?.getD 0
def zcK(ms:List Nat):List Int:=ms.map fun m:Nat=>(m:Int)
theorem zeu{ms:List Nat}:(zcK ms).length=ms.length:=by unfold zcK;rw[ya]
def Closed(ds:List Due)(S:Nat->Prop):Prop:=∀m,S m->∃d∈ds,d.p=(m:Int)/\0<d.a/\S d.q.toNat
set_option genInjectivity false in
set_option genSizeOf false in
structure Round(ds:List Due)(n:Nat)(ms:List Nat):Prop where
 ne:ms≠[]
 nd:ms.Nodup
 ok:∀m∈ms,m<n/\zgr ds n m≠none
 nx:∀(i m:Nat),ms[i]?=some m->zkS ds n m=ms[(i+1)%ms.length]?.getD 0
open PySem PySem.Spec PyProof.Rows
section
variable {X:Cx}
def zf1(K:Fg):List V->Hp->VK->Prop:=fun xs H Q=>∃a ns,xs=[.ref a]/\SqL K H a (List.map V.int ns)/\ns≠[]/\∀x,x∈ns->(∀y∈ns,x<=y)->Q (.int x) H
theorem ziK(hc:X.calm=true):CallR X (.builtin "min") (zf1 X.K):=by
 intro pins s σ H xs us Q I r h
 obtain⟨a,ns,rfl,hq,hne0,q⟩:=h
 obtain⟨u,rfl,r1⟩:=vals1 r
 cases r1
 obtain⟨its,rv,pl,hl,hlt⟩:=I.walk hq
 refine call_min_walkS (wpAny_pyIter_list pl ?_)
 have hne:a≠s.heap.objs.size:=yn hlt
 have hn:(its.toArray).size=ns.length:=by rw[ya]at hl;simpa using hl
 have hpos:0<ns.length:=List.length_pos_iff.mpr hne0
 refine⟨_,_,_,_,_,_,_,_,rfl,(Walks.list (prog:=X.prog) (w:=X.w) (A:=X.A.in1) (I.ok.hd hc) s.heap.objs.size a hne its.toArray).toS,⟨⟨_,Heap.get?_push_size _ rfl,rfl,rfl⟩,pl.at fun o e=>Heap.get?_push_of_some _ e⟩,fun b hb=>?_,by rw[hn];exact hpos,CmpOf.ints_lt (fun i=>ns.getD i 0) (fun i v hv=>zdD rv hv),fun v s' hv hm=>?_⟩
 ·rw[Heap.size_push]
  simp only[yf,yz,or_false]at hb
  rcases hb with rfl | rfl
  ·exact y3 _
  ·exact yaM hlt
 ·obtain⟨t,rfl⟩:=zdD rv hv
  obtain⟨b1,b2⟩:=argBest_lt (fun i=>ns.getD i 0) (its.toArray.size-1)
  rw[hn]at b1 b2 ⊢
  have hg:s'.gens=s.gens:=by have:=hm.gens;first | exact this | exact this.symm
  have hd:=hm.drawn
  have ho:=hm.os
  have I1:Inv X pins σ H { s with heap:=s'.heap,toks:=s'.toks }:=I.kept fun b o e=>hm.heap b o (fun z=>by
   simp only[yf,yz,or_false]at z
   subst z
   exact absurd (Heap.lt_size e) (yN _)) (Heap.get?_push_of_some _ e)
  have e:({ s with heap:=s'.heap,toks:=s'.toks }:Shared)=s':=by
   cases s';cases s
   simp only at hg hd ho
   subst hg hd ho;rfl
  rw[e]at I1
  refine⟨.int (ns.getD (argBest (fun i j=>decide (ns.getD i 0<ns.getD j 0)) (ns.length-1)) 0),H,I1,⟨t,rfl⟩,q _ ?_ fun y hy=>?_⟩
  ·exact yq (zgC (by omega))
  ·obtain⟨i,hi,ei⟩:=yZ hy
   have:=b2 i (by omega)
   rwa [show ns.getD i 0=y by rw[yi,yr hi,ei];rfl]at this
end
theorem zil{K:Fg}{H:Hp}{Q:VK}{a:Addr}{ns:List Int}(h:SqL K H a (ns.map V.int))(ne:ns≠[])(q:∀x,x∈ns->(∀y∈ns,x<=y)->Q (.int x) H):zf1 K [.ref a] H Q:=⟨a,ns,rfl,h,ne,q⟩
def zjA(ds:List Due)(n m:Nat):Nat:=(znS ds n m).toNat
def zoi(g:Nat->Int)(js:List Nat)(f:Int)(i:Nat):Int:=if i∈js then g i-f else g i
set_option genInjectivity false in
set_option genSizeOf false in
structure CutAt(es:List Due)(n:Nat)(g:Nat->Int)(ms:List Nat)(f:Int)(g':Nat->Int):Prop where
 rd:Round (zfW es g) n ms
 le:∀m∈ms,f<=g (zjA (zfW es g) n m)
 at':∃m∈ms,f=g (zjA (zfW es g) n m)
 eq:∀i,g' i=zoi g (ms.map (zjA (zfW es g) n)) f i
section
variable {es:List Due}{n:Nat}{g g':Nat->Int}{ms:List Nat}{f:Int}
end
section
variable {es:List Due}{n:Nat}{L:Nat->Nat->Int}{cs:List (List Nat × Int)}
end
section
variable {es:List Due}{n:Nat}{L L':Nat->Nat->Int}{cs:List (List Nat × Int)}{bad:List Addr}{H H':Hp}{vs:List V}
end
section
variable {K:Fg}{σ:St}{H:Hp}{Q:VK}{D:Ends}{a C dx:Addr}{fs:List (Str × V)}{f m:Str}
def zhx(K:Fg)(f:Str)(Q:VK)(x:V)(H:Hp):Prop:=∃a C dx fs v,x=.ref a/\H a=some (.ins C dx fs)/\Cls K C/\NoAttr K C f/\fs.lookup f=some v/\Q v H
theorem znU{ta:TE}(q:ta σ H (zhx K f Q)):z9 K ta f σ H Q:=q
theorem ziz{v:V}(h:H a=some (.ins C dx fs))(c:Cls K C)(n:NoAttr K C f)(l:fs.lookup f=some v)(q:Q v H):zhx K f Q (.ref a) H:=⟨a,C,dx,fs,v,rfl,h,c,n,l,q⟩
def zk5(K:Fg)(f:Str)(R:Hp->Prop)(y x:V)(H:Hp):Prop:=∃a C dx fs,x=.ref a/\H a=some (.ins C dx fs)/\Cls K C/\NoAttr K C f/\fs.length<1000/\R (upd H a (.ins C dx (zao f y fs)))
theorem zmf{ta tv:TE}(q:tv σ H fun y H1=>ta σ H1 (zk5 K f (D.nx σ) y)):zb4 K ta tv f D σ H:=q
theorem za1{R:Hp->Prop}{y:V}(h:H a=some (.ins C dx fs))(c:Cls K C)(n:NoAttr K C f)(hl:fs.length<1000)(q:∀H',But a H H'->H' a=some (.ins C dx (zao f y fs))->R H'):zk5 K f R y (.ref a) H:=
 ⟨a,C,dx,fs,rfl,h,c,n,hl,q _ But.upd zL⟩
def zfY(C:Addr)(m:Str)(sp:Sp)(E:XK)(t:TA)(σ:St)(Q:VK)(x:V)(H:Hp):Prop:=∃a dx fs,x=.ref a/\H a=some (.ins C dx fs)/\fs.lookup m=none/\t σ H fun vs H2=>sp (x :: (vs++[])) H2 Q E
theorem zm4{sp:Sp}{E:XK}{ta:TE}{t:TA}(q:ta σ H (zfY C m sp E t σ Q)):zk9 C m sp [] E ta t σ H Q:=q
theorem zhs{sp:Sp}{E:XK}{t:TA}(h:H a=some (.ins C dx fs))(l:fs.lookup m=none)(q:t σ H fun vs H2=>sp (.ref a :: vs) H2 Q E):zfY C m sp E t σ Q (.ref a) H:=by
 refine⟨a,dx,fs,rfl,h,l,?_⟩
 simp only[yQ]
 exact q
def zk7(C:Addr)(sp:Sp)(E:XK)(Q:VK)(vs:List V)(H1:Hp):Prop:=∀x dx,H1 x=none->H1 dx=none->dx≠x->sp (.ref x :: (vs++[])) (upd (upd H1 dx (.own x)) x (.ins C dx [])) (fun v H2=>v=.non/\Q (.ref x) H2) E
theorem zmk{sp:Sp}{E:XK}{t:TA}(q:t σ H (zk7 C sp E Q)):zk0 C sp [] E t σ H Q:=q
theorem zhe{sp:Sp}{E:XK}{vs:List V}(q:∀x dx H',H x=none->Same H H'->H' x=some (.ins C dx [])->sp (.ref x :: vs) H' (fun v H2=>v=.non/\Q (.ref x) H2) E):zk7 C sp E Q vs H:=fun x dx hx hd ne=>by
 rw[yQ]
 exact q x dx _ hx ((Same.new hd _).trans (Same.new (by rw[zK ne.symm];exact hx) _)) zL
end
def zmz(C:Addr)(m:Str)(sp:Sp)(t:TA)(σ:St)(Q:VK)(Eh:Addr->Hp->Prop)(x:V)(H:Hp):Prop:=∃a dx fs,x=.ref a/\H a=some (.ins C dx fs)/\fs.lookup m=none/\t σ H fun vs H2=>sp (x :: vs) H2 Q fun cls _ H3=>∃C',cls=.ref C'/\Eh C' H3
abbrev zoE(C:Addr)(m:Str)(sp:Sp)(ta:TE)(t:TA):TEr:=fun σ H Q Eh=>ta σ H (zmz C m sp t σ Q Eh)
theorem zhq{K:Fg}{a:Addr}{xs:List V}:Src (Itt K a) (fun H=>SqT K H a xs) xs.length (fun i x _=>xs[i]?=some x):=
 ⟨fun i H h hi=>by obtain⟨x,hx⟩:=zQ hi;exact⟨xs,x,h,hx⟩,fun H h=>⟨xs,h,yg _⟩,fun i H x H' h hi ⟨q,r⟩=>by subst q;exact⟨Same.refl _,r xs h⟩⟩
def znw(K:Fg)(R:It->Hp->Prop)(x:V)(H:Hp):Prop:=∃a,x=.ref a/\(∃xs,SqT K H a xs)/\R (Itt K a) H
theorem znL{K:Fg}{σ:St}{H:Hp}{R:It->Hp->Prop}{tl:TE}(q:tl σ H (znw K R)):zhW K tl σ H R:=q
theorem zje{K:Fg}{H:Hp}{R:It->Hp->Prop}{a:Addr}{xs:List V}(h:SqT K H a xs)(q:R (Itt K a) H):znw K R (.ref a) H:=⟨a,rfl,⟨xs,h⟩,q⟩
theorem znk{K:Fg}{H:Hp}{Q:VK}{a:Addr}{xs:List V}{lo hi:Option Int}(h:H a=some (.tup xs))(hw:¬(HT.sIx xs.length 0 lo=0/\HT.sIx xs.length xs.length hi=xs.length))(q:∀p H',H p=none->Same H H'->H' p=some (.tup (zcf xs lo hi))->Q (.ref p) H'):zky K (.ref a) lo hi H Q:=
 ⟨a,xs,rfl,.of h,hw,fun p hp=>q p _ hp (Same.new hp _) zL⟩
theorem zmK{K:Fg}{H:Hp}{Q:VK}{a b:Addr}{xs ys:List V}(h:H a=some (.tup xs))(h':H b=some (.tup ys))(hx:xs≠[])(hy:ys≠[])(hz:xs.length+ys.length<=100000)(q:∀p H',H p=none->Same H H'->H' p=some (.tup (xs++ys))->Q (.ref p) H'):zJ K (.ref a) (.ref b) H Q:=
 .inr (.inr ⟨a,b,xs,ys,rfl,rfl,.of h,.of h',hx,zbV hz,fun z=>absurd z hy,fun _ p hp=>q p _ hp (Same.new hp _) zL⟩)
theorem znP{K:Fg}{H:Hp}{Q:VK}{x y:Str}(q:Q (.bl (decide (x=y))) H):z3 K (.str x) (.str y) H Q:=.inr ⟨rfl,by rw[show decide (V.str x=V.str y)=decide (x=y) by simp];exact q⟩
def zec(K:Fg)(vs:List V)(H:Hp)(Q:VK):Prop:=∃(a:Addr) (ns:List Int),vs=[.ref a]/\SqL K H a (ns.map V.int)/\ns.length<64/\∀l ms,H l=none->List.Perm ms ns->ms.Pairwise (·≥·)->Q (.ref l) (upd H l (.lst (ms.map V.int)))
theorem zhZ{X:Cx}{p pos kp cp:Pos}{e:Expr}{ta:TA}(hg:Gl X "sorted")(hm:X.mg "sorted" = none)(hv:bootBuiltins "sorted" = some (.builtin "sorted"))(ha:PA X [e] ta)(he:autoParam (backTo pos (starEach [e] X.env)=(false,eval e X.env) :: backTo pos (starEach [] X.env)) Internal.aut2._auto_1)
  (hplain:autoParam ((backTo pos (starEach [e] X.env)).any (·.1)=false) Internal.aut2._auto_1) {kn:Nat}:PE X (.Call (.Name "sorted" p) [e] [⟨some "reverse",.Constant (.bool true) kn cp,kp⟩] pos) (tCB (zec X.K) ta):=by
 intro pins s σ H Q I h
 refine wpAny_Call_Name_kw (zcI I hg hm hv ?_ (by decide) (by decide))
 refine PyProof.Rows.callWith_kw ?_ he hplain
 refine thn (ha pos pins s σ H _ I h) fun us s1 zz=>?_
 obtain⟨vs,H1,I1,r,q⟩:=zz
 obtain⟨a,ns,rfl,hq,hl,q⟩:=q
 obtain⟨u,rfl,r1⟩:=vals1 r
 cases r1
 refine thn (zhi (t:=zfl) (nm:=some "reverse") (kpos:=kp) (zbS (X:=X)) zji pos pins s1 σ H1 (fun ws H2=>ws=[.bl true]/\H2=H1) I1 ⟨rfl,rfl⟩) fun kvs s2 zz=>?_
 obtain⟨ws,H2,I2,rw2,e1,e2⟩:=zz
 subst e1;subst e2
 obtain⟨u2,rfl,r3⟩:=vals1 rw2
 cases(show u2=Value.bool true from r3)
 obtain⟨its,rv,pl,hil,hlt⟩:=I2.walk hq
 rw[ya]at hil
 refine sorted_ints_rev (vs:=its) (b:=true) pl (zhP rv) (by omega) fun out ms hI hp hs=>?_
 obtain⟨e,he⟩:=sortedAll_at s2.heap its out
 have hv:=zdH hI
 have hml:ms.length=ns.length:=hp.length_eq
 have J:Inv X pins σ (upd H2 (s2.heap.objs.size+1) (.lst (ms.map V.int))) { s2 with heap:=sortedAll s2.heap its out,toks:=s2.toks }:=I2.laid (fun b o z=>sortedAll_old z) (Nat.le_succ _) ⟨by rw[ya];exact zbV (by omega),out.toList,e,hv,he⟩
 exact⟨.ref (s2.heap.objs.size+1),_,J,rfl,q _ ms (I2.hok.fresh (Nat.le_succ _)) hp hs⟩
theorem zlI{K:Fg}{H:Hp}{Q:VK}{a:Addr}{ns:List Int}(h:SqL K H a (ns.map V.int))(hl:ns.length<64)(q:∀l ms H',H l=none->Same H H'->List.Perm ms ns->ms.Pairwise (·≥·)->H' l=some (.lst (ms.map V.int))->Q (.ref l) H'):zec K [.ref a] H Q:=
 ⟨a,ns,rfl,h,hl,fun l ms hn p s=>q l ms _ hn (Same.new hn _) p s zL⟩
end Internal
namespace My
def mn(i j:Int):Int:=if j<i then j else i
def lvS(b:Nat->Int)(L:Int)(n:Nat):Int:=sumTo (fun i=>mn (b i) L) n
set_option genInjectivity false in
set_option genSizeOf false in
structure IsLev(c:Int)(n:Nat)(b:Nat->Int)(L:Int):Prop where
 lo:lvS b L n<=c
 hi:c<lvS b (L+1) n
def lev(c:Int)(n:Nat)(b:Nat->Int):Int:=Classical.epsilon fun L=>IsLev c n b L
def levelF(c:Int)(n:Nat)(b:Nat->Int):Nat->Int:=
 if c=sumTo b n then b else more (fun i=>decide (b i>lev c n b)) (fun i=>mn (b i) (lev c n b)) (c-lvS b (lev c n b) n)
set_option genInjectivity false in
set_option genSizeOf false in
structure LevelOk(c:Int)(n:Nat)(b f:Nat->Int):Prop where
 sum:sumTo f n=c
 lo:∀i,i<n->0<=f i
 hi:∀i,i<n->f i<=b i
 lev:(∀i,i<n->f i=b i)\/∃L,(∃i,i<n/\f i=L/\L<b i)/\∀i,i<n->(b i<=L->f i=b i)/\(L<b i->f i=L\/f i=L+1)/\∀j,j<i->L<b j->f j=L->L<b i->f i=L
def zmb:List Int->Int
 | []=>0
 | x :: xs=>x+zmb xs
set_option genInjectivity false in
set_option genSizeOf false in
structure LvInv(c:Int)(ms:List Int)(i:Nat)(r:Int):Prop where
 rest:r=c-zmb (ms.take i)
 below:∀x∈ms.take i,x*((ms.length:Int)-(i:Int))<=r
end My
namespace Internal
open PySem PySem.Spec PyProof.Rows
section
variable {H:Hp}{Q:VK}{K:Fg}
theorem ze8{w:Str}:∀ws:List Str,inV (.str w) (ws.map V.str)=decide (w∈ws)
 | []=>by simp[inV]
 | n :: ns=>by
  have ih:=ze8 (w:=w) ns
  unfold inV at ih ⊢
  rw[yH,List.any_cons,ih]
  show((n == w) || _)=_
  by_cases h:n=w
  ·subst h;simp
  ·have:¬w=n:=fun z=>h z.symm
   simp[h,this]
theorem zdQ:∀ws:List Str,(ws.map V.str).all zcE=true
 | []=>rfl
 | w :: ws=>by rw[yH,yav,zdQ ws];rfl
theorem zgS{a:Addr}{ws:List Str}{w:Str}(h:SqT K H a (ws.map V.str))(q:Q (.bl (!decide (w∈ws))) H):rIn K true (.str w) (.ref a) H Q:=
 ⟨a,_,rfl,.inr h,rfl,zdQ ws,by rw[if_pos rfl,ze8];exact q⟩
theorem zmp{a:Addr}{ws:List Str}{w:Str}(h:SqL K H a (ws.map V.str))(q:Q (.bl (decide (w∈ws))) H):rIn K false (.str w) (.ref a) H Q:=
 ⟨a,_,rfl,.inl h,rfl,zdQ ws,by rw[if_neg yk,ze8];exact q⟩
end
theorem zgl{xs:List V}{k:Nat}:zcf xs none (some (k:Int))=xs.take k:=by
 unfold zcf
 have e:HT.sIx xs.length xs.length (some (k:Int))=min k xs.length:=by
  show(if(k:Int)<0 then((k:Int)+(xs.length:Int)).toNat else min (k:Int).toNat xs.length)=_
  rw[if_neg (by omega)];rfl
 rw[e,HT.sIx_none,List.drop_zero,Nat.sub_zero]
 exact List.take_eq_take_min.symm
theorem zlZ{ws:List Str}{i:Nat}{v:V}(h:(ws.map V.str)[i]?=some v):∃w,ws[i]?=some w/\v=.str w:=by
 rw[yh]at h
 cases hw:ws[i]? with
 | none=>rw[hw]at h;cases h
 | some w=>rw[hw]at h;exact⟨w,rfl,(yo h).symm⟩
theorem zjN{ws:List Str}{i:Nat}{w:Str}(nd:ws.Nodup)(h:ws[i]?=some w):w∉ws.take i:=fun hm=>by
 obtain⟨hi,ei⟩:=ym.mp h
 obtain⟨j,hj,ej⟩:=yZ hm
 rw[yU]at hj
 rw[List.getElem_take]at ej
 exact List.pairwise_iff_getElem.mp nd j i (by omega) hi (by omega) (ej.trans ei.symm)
def words5:List Str:=["pledge", "share", "own", "others", "level"]
def zjK(S:Nat->Int)(W:Nat->Bool):Nat->Int:=fun i=>if W i=true then S i else 0
def zma(n:Nat)(R S:Nat->Int)(W:Nat->Bool):Int:=My.mn (My.sumTo (zjK S W) n) (My.sumTo R n)
def zks(w:Str)(n:Nat)(R P S:Nat->Int)(W:Nat->Bool):Nat->Int:=
 if w = "pledge" then fun i=>My.mn (R i) (P i)else if w = "share" then fun i=>My.mn (R i) (S i)else if w = "own" then fun _=>0
 else if w = "others" then ziu (zma n R S W) n (zjK S W)else My.levelF (zma n R S W) n (zjK S W)
def zmJ(w:Str)(n:Nat)(R:Nat->Int)(own:Int):Int:=if w = "own" then My.mn own (My.sumTo R n)else 0
def zoA(w:Str)(n:Nat)(R P S:Nat->Int)(own:Int)(W:Nat->Bool):Nat->Int:=
 if w = "pledge" \/ w = "share" then zks w n R P S W else ziu (My.sumTo (zks w n R P S W) n+zmJ w n R own) n R
set_option genInjectivity false in
set_option genSizeOf false in
structure LRow where
 w:Str
 f:Nat->Int
 x:Int
 gv:Nat->Int
def zjL(n:Nat)(G P:Nat->Int)(own:Int)(w:Str)(R S:Nat->Int):LRow:=⟨w,zks w n R P S (fun i=>decide (G i=0)),zmJ w n R own,zoA w n R P S own (fun i=>decide (G i=0))⟩
def znC(r:LRow)(R:Nat->Int):Nat->Int:=fun i=>R i-r.gv i
def znN(r:LRow)(S:Nat->Int):Nat->Int:=if r.w∈(["share", "others", "level"]:List Str)then fun i=>S i-r.f i else S
def lays(n:Nat)(G P:Nat->Int)(own:Int)(ws:List Str)(S0:Nat->Int):Nat->(Nat->Int) × (Nat->Int)
 | 0=>(G,S0)
 | i+1=>(znC (zjL n G P own (ws.getD i "") (lays n G P own ws S0 i).1 (lays n G P own ws S0 i).2) (lays n G P own ws S0 i).1,znN (zjL n G P own (ws.getD i "") (lays n G P own ws S0 i).1 (lays n G P own ws S0 i).2) (lays n G P own ws S0 i).2)
def zoI(n:Nat)(G P:Nat->Int)(own:Int)(ws:List Str)(S0:Nat->Int)(i:Nat):LRow:=zjL n G P own (ws.getD i "") (lays n G P own ws S0 i).1 (lays n G P own ws S0 i).2
def LRs(H:Hp)(n:Nat)(row:Nat->LRow)(tr:List (Addr × Addr × Addr)):Prop:=∀(i:Nat) (t:Addr × Addr × Addr),tr[i]?=some t ->
 H t.1=some (.tup [.str (row i).w,.ref t.2.1,.ref t.2.2])/\H t.2.1=some (.lst ((vec n (row i).gv).map V.int))/\H t.2.2=some (.lst ((vec n (row i).f++[(row i).x]).map V.int))
def zeJ(tr:List (Addr × Addr × Addr)):List Addr:=tr.flatMap fun t=>[t.2.1,t.2.2]
set_option genInjectivity false in
set_option genSizeOf false in
structure LTold(H H':Hp)(n:Nat)(row:Nat->LRow)(rests:Nat->Int)(m:Nat)(p rs re:Addr)(tr:List (Addr × Addr × Addr)):Prop where
 same:Same H H'
 hp:H' p=some (.tup [.ref rs,.ref re])
 hrs:H' rs=some (.lst (tr.map fun t=>V.ref t.1))
 hre:H' re=some (.lst ((vec n rests).map V.int))
 len:tr.length=m
 rows:LRs H' n row tr
 fre:H re=none
 frs:H rs=none
 ffl:∀a∈zeJ tr,H a=none
 nd:(zeJ tr).Nodup
 nre:re∉zeJ tr
 nrs:rs∉zeJ tr
 ne:rs≠re
set_option genInjectivity false in
set_option genSizeOf false in
structure LT(H:Hp)(n:Nat)(row:Nat->LRow)(rests:Nat->Int)(m:Nat)(p rs re:Addr)(tr:List (Addr × Addr × Addr)):Prop where
 hp:H p=some (.tup [.ref rs,.ref re])
 hrs:H rs=some (.lst (tr.map fun t=>V.ref t.1))
 hre:H re=some (.lst ((vec n rests).map V.int))
 len:tr.length=m
 rows:LRs H n row tr
set_option genInjectivity false in
set_option genSizeOf false in
structure LMore(H H':Hp)(n:Nat)(row:Nat->LRow)(tr:List (Addr × Addr × Addr))(i:Nat):Prop where
 tup:∀c xs,H c=some (.tup xs)->H' c=some (.tup xs)
 keep:∀c o,c∉zeJ tr->H c=some o->H' c=some o
 rows:∀(j:Nat) (t:Addr × Addr × Addr),tr[j]?=some t->H' t.2.1=some (.lst ((vec n (row j).gv++if j<i then[3] else[]).map V.int))/\H' t.2.2=some (.lst ((vec n (row j).f++[(row j).x]++if j<i then[3] else[]).map V.int))
def Bef(L:Nat->Int)(i j:Nat):Prop:=L j<L i\/(L i=L j/\i<j)
set_option genInjectivity false in
set_option genSizeOf false in
structure Line(L:Nat->Int)(n:Nat)(q:List Nat):Prop where
 perm:q.Perm (List.range n)
 up:∀a b,a<=b->b<n->-L (q.getD a 0)*64+(q.getD a 0:Int)<=-L (q.getD b 0)*64+(q.getD b 0:Int)
section
variable {L:Nat->Int}{n:Nat}{q:List Nat}
theorem Line.len(h:Line L n q):q.length=n:=by have:=h.perm.length_eq;rwa [y6]at this
theorem Line.lt(h:Line L n q){i:Nat}(hi:i∈q):i<n:=y8.mp (h.perm.mem_iff.mp hi)
theorem Line.getLt(h:Line L n q)(hn:0<n)(a:Nat):q.getD a 0<n:=by
 rw[yi]
 cases e:q[a]? with
 | none=>exact hn
 | some i=>exact h.lt (yq e)
theorem Line.nd(h:Line L n q):q.Nodup:=h.perm.nodup_iff.mpr List.nodup_range
theorem Line.bef(h:Line L n q)(hn:n<=64){a b:Nat}(hab:a<b)(hb:b<n):Bef L (q.getD a 0) (q.getD b 0):=by
 have h1:=h.up a b (by omega) hb
 have l1:=h.getLt (by omega) a
 have l2:=h.getLt (by omega) b
 have ne:q.getD a 0≠q.getD b 0:=by
  have ha':a<q.length:=by rw[h.len];omega
  have hb':b<q.length:=by rw[h.len];omega
  rw[yi,yi,yr ha',yr hb']
  intro z
  have z':q[a]=q[b]:=z
  have:=zc2 h.nd (yr ha') (by rw[yr hb',z'])
  omega
 unfold Bef
 generalize L (q.getD a 0)=x at *
 generalize L (q.getD b 0)=y at *
 omega
end
theorem zlJ{q:List Nat}{i:Nat}(h:i<q.length):(zcK q)[i]?=some ((q.getD i 0:Nat):Int):=by
 unfold zcK
 rw[yh,yi,yr h];rfl
theorem ziN{q:List Nat}{k:Nat}:(zcK q).take k=zcK (q.take k):=by unfold zcK;rw[List.map_take]
theorem zfr{ms:List Int}{k:Nat}:zcf (ms.map V.int) none (some (k:Int))=(ms.take k).map V.int:=by rw[zgl,List.map_take]
theorem zos{ta:TA}{tb:TE}{j:Nat}{T:Addr}{lpos:Pos}{qu:Str}{σ:St}{H:Hp}{Q:VK} (h:ta σ H fun vs H1=>Tb H1 T lpos qu/\∃(r:Addr) (n:Nat) (u:V) (g:Nat->Int),vs=[.ref r]/\H1 r=some (.rng 0 (n:Int))/\1<=n/\n<64/\σ[j]?=some (some u) /\
 (∀(i:Nat) H2,i<n->SameT H1 H2->tb [some (.int (i:Int)),some u] H2 (fun v H3=>∃t,v=.ref t/\Same H2 H3/\H3 t=some (.tup [.int (g i),.int (i:Int)]))) /\
 ∀l (p:List Nat) H3,H1 l=none->SameT H1 H3->Tb H3 T lpos qu->p.Perm (List.range n)->(∀a b,a<=b->b<n->g (p.getD a 0)*64+(p.getD a 0:Int)<=g (p.getD b 0)*64+(p.getD b 0:Int))->H3 l=some (.lst (p.map fun i:Nat=>V.int (i:Int)))->Q (.ref l) H3):tSK ta tb j T lpos qu σ H Q:=h
def zfd(K:Fg)(lP:Pos)(lQ:Str):Sp:=fun vs H Q _=>∃(p l:Addr) (as:List Addr) (k:Nat) (f:Nat->Int) (F:Nat->Nat->Int) (m n:Int),vs=[.ref p,.ref l,.int n]/\H p=some (.lst ((vec k f).map V.int))/\H l=some (.lst (as.map V.ref))/\Rows H as k F/\Within m k f/\WithinR m as.length k F/\m<=999999999999/\k<=1000/\1<=as.length/\as.length<64/\0<=n/\TbW K "worst_days" lP lQ H /\
 ∀r H' q,H r=none->SameT H H'->TbW K "worst_days" lP lQ H'->Line (fun i=>zaq k f (F i)) as.length q->H' r=some (.lst ((zcK (q.take n.toNat)).map V.int))->Q (.ref r) H'
def ziG:=fun {K:Fg} {lP:Pos} {lQ:Str} {p l:Addr} {as:List Addr} {k:Nat} {f:Nat->Int} {F:Nat->Nat->Int} {m n:Int} {H:Hp} {Q:VK} {E:XK} h1 h2 h3 h4 h5 hm hk hl hl' hn hT q=>@id (zfd K lP lQ [.ref p,.ref l,.int n] H Q E) ⟨p,l,as,k,f,F,m,n,rfl,h1,h2,h3,h4,h5,hm,hk,hl,hl',hn,hT,q⟩
def lsum(g:Nat->Int):List Nat->Int
 | []=>0
 | d :: S=>g d+lsum g S
theorem zgL{g:Nat->Int}:∀{S M:List Nat},lsum g (S++M)=lsum g S+lsum g M
 | [],M=>by show lsum g M=0+_;omega
 | d :: S,M=>by show g d+lsum g (S++M)=g d+lsum g S+_;rw[zgL];omega
theorem zfp{f g:Nat->Int}:∀{S:List Nat},(∀d∈S,f d<=g d)->lsum f S<=lsum g S
 | [],_=>yW _
 | d :: S,h=>by
  have h1:=h d (.head _)
  have h2:=zfp (S:=S) fun x hx=>h x (.tail _ hx)
  show f d+_<=g d+_;omega
theorem zeG{v:Int}:∀{S:List Nat},lsum (fun _=>v) S=(S.length:Int)*v
 | []=>by rw[List.length_nil];show(0:Int)=(0:Int)*v;rw[Int.zero_mul]
 | d :: S=>by
  show v+lsum _ S=((S.length+1:Nat):Int)*v
  rw[zeG,Int.natCast_add,Int.add_mul]
  show v+_=_+1*v
  omega
section
variable {L:Nat->Int}{n:Nat}{q:List Nat}
theorem Line.mono(h:Line L n q)(hn:n<=64){a b:Nat}(hab:a<=b)(hb:b<n):L (q.getD b 0)<=L (q.getD a 0):=by
 rcases Nat.lt_or_eq_of_le hab with e | e
 ·have:=h.bef hn e hb
  unfold Bef at this
  omega
 ·rw[e];exact yW _
theorem zdM(L:Nat->Int)(q:List Nat):∀k,k<=q.length->lsum L (q.take k)=My.sumTo (fun i=>L (q.getD i 0)) k
 | 0,_=>by rw[List.take_zero];rfl
 | k+1,h=>by
  rw[List.take_succ,zgL,zdM L q k (by omega),yr (by omega)]
  show _+(L q[k]+0)=_+L (q.getD k 0)
  rw[yi,yr (by omega)]
  show _+(L q[k]+0)=_+L q[k]
  omega
end
def zcM(m:Bool)(L:Nat->Int)(q:List Nat)(k:Nat):Rat:=if m then Rat.divInt (lsum L (q.take k)) (k:Int) else((L (q.getD (k-1) 0):Int):Rat)
def pos0(r:Rat):Rat:=if 0<r then r else 0
section
variable {L L1 Internal':Nat->Int}{n k:Nat}{q q1 q2:List Nat}
theorem Line.ltT(h:Line L n q):∀d∈q.take k,d<n:=fun d hd=>h.lt (List.mem_of_mem_take hd)
theorem Line.lenT(h:Line L n q)(hk:k<=n):(q.take k).length=k:=by rw[yU,h.len];omega
end
section
variable {X:Cx}{tg:Expr}
end
def znB(f:Nat->Int):Nat->Int
 | 0=>0
 | r+1=>znB f r+f r
def zjv(f:Nat->Int)(q:Rat)(r:Nat):Prop:=q.num<znB f (r+1)*(q.den:Int)
instance (f:Nat->Int) (q:Rat) (r:Nat):Decidable (zjv f q r):=inferInstanceAs (Decidable (_<_))
def zkR(f:Nat->Int)(q:Rat):Nat->Option Nat
 | 0=>none
 | k+1=>match zkR f q k with
  | some r=>some r
  | none=>if zjv f q k then some k else none
abbrev zoF(ds:List Due)(qs:List Rat):List V:=zox qs.length fun m=>zkR (znZ ds m) (qs.getD m 0) 3
section
variable {f:Nat->Int}{q:Rat}
end
theorem zlP(q:Rat):My.gc (if q.num<0 then -q.num else q.num) (q.den:Int)=1:=by
 have h:=My.gc_abs q.num (q.den:Int)
 rw[if_neg (show ¬((q.den:Int)<0) by omega)]at h
 rw[h]
 have:=q.reduced
 unfold My.gc
 show((Nat.gcd q.num.natAbs (q.den:Int).natAbs:Nat):Int)=1
 rw[Int.natAbs_natCast]
 exact congrArg _ this
set_option genInjectivity false in
set_option genSizeOf false in
structure PayOk(ds:List Due)(g:Due->Rat):Prop where
 nn:∀d∈ds,0<=g d
 le:∀d∈ds,g d<=((d.a:Int):Rat)
 sz:∀d∈ds,SzQ (g d) 1000 1000
 am:∀d∈ds,0<=d.a/\d.a<=100000000000000
section
variable {ds:List Due}{qs:List Rat}
end
theorem zeh{m:Int}{f g:Nat->Int}(hm:m<=999999999999):∀{k:Nat},Within m k f->Within m k g->-((k:Int)*1000000000000000000000000)<=zaq k f g/\zaq k f g<=(k:Int)*1000000000000000000000000
 | 0,_,_=>by
  show -((0:Int)*_)<=0/\(0:Int)<=(0:Int)*_
  omega
 | k+1,h1,h2=>by
  have ih:=zeh hm (k:=k) (fun j hj=>h1 j (by omega)) (fun j hj=>h2 j (by omega))
  obtain⟨a1,a2⟩:=h1 k (by omega)
  obtain⟨b1,b2⟩:=h2 k (by omega)
  have c:(f k*g k).natAbs<=1000000000000*1000000000000:=by
   rw[Int.natAbs_mul]
   exact Nat.mul_le_mul (by omega) (by omega)
  rw[zex]
  generalize f k*g k=y at *
  omega
theorem zlM{L:Nat->Int}{B:Int}{S:List Nat}(h:∀d∈S,-B<=L d/\L d<=B):-((S.length:Int)*B)<=lsum L S/\lsum L S<=(S.length:Int)*B:=by
 have h1:=zfp (f:=L) (g:=fun _=>B) (S:=S) fun d hd=>(h d hd).2
 have h2:=zfp (f:=fun _=>-B) (g:=L) (S:=S) fun d hd=>(h d hd).1
 rw[zeG]at h1 h2
 rw[Int.mul_neg]at h2
 exact⟨h2,h1⟩
theorem zmT{mn:Bool}{L:Nat->Int}{q:List Nat}{n k:Nat}(h:Line L n q)(hk:0<k)(hkn:k<=n)(hn:n<64)(hB:∀d,d<n->-9000000000000000000000000<=L d/\L d<=9000000000000000000000000):SzQ (zcM mn L q k) 100 10:=by
 unfold zcM
 cases mn
 ·rw[if_neg (by decide)]
  have:=hB _ (h.getLt (by omega) (k-1))
  exact⟨zb3 (by show(L (q.getD (k-1) 0)).natAbs<2 ^ 100;omega),zb3 (by show(1:Int).natAbs<2 ^ 10;decide)⟩
 ·rw[if_pos rfl]
  have hb:=zlM (S:=q.take k) fun d hd=>hB d (h.ltT d hd)
  rw[h.lenT hkn]at hb
  have h1:(k:Int)*9000000000000000000000000<=64*9000000000000000000000000:=yK (by omega) (by decide)
  exact zlf (by omega) (zb3 (by omega)) (zb3 (by omega))
theorem zhd{r:Rat}{a b:Nat}(h:SzQ r a b)(hb:1<=b):SzQ (pos0 r) a b:=by
 unfold pos0
 split
 ·exact h
 ·exact⟨zb3 (by show(0:Int).natAbs<_;exact Nat.two_pow_pos _),yb (zb3 (n:=1) (by show(1:Int).natAbs<2 ^ 1;decide)) hb⟩
theorem nump{q:Rat}:0<q.num↔0<q:=by
 constructor
 ·intro h
  have h1:0<=q:=Rat.num_nonneg.mp (yak h)
  have h2:q≠0:=fun z=>by rw[z]at h;exact absurd h (by decide)
  grind
 ·intro h
  have h1:0<=q.num:=Rat.num_nonneg.mpr (Rat.le_of_lt h)
  have h2:q.num≠0:=fun z=>by rw[Rat.num_eq_zero.mp z]at h;exact absurd h (by decide)
  omega
def zb7(w:Str)(c:Int)(n:Nat):Prop:=(w = "worst" \/ w = "mean")/\1<=c/\c<=n
def zgh(K:Fg)(C:Addr):Sp:=fun vs H Q E=>∃(ru l:Addr) (w:Str) (c:Int) (xs:List V),vs=[.ref ru,.ref l]/\H ru=some (.tup [.str w,.int c])/\H l=some (.lst xs)/\(zb7 w c xs.length->∀H',Same H H'->Q .non H')/\(¬zb7 w c xs.length->∀H',Same H H'->E (.ref C) none H')
def zeI:=fun {K:Fg} {C ru l:Addr} {w:Str} {c:Int} {xs:List V} {H:Hp} {Q:VK} {E:XK} h1 h2 q1 q2=>@id (zgh K C [.ref ru,.ref l] H Q E) ⟨ru,l,w,c,xs,rfl,h1,h2,q1,q2⟩
set_option genInjectivity false in
set_option genSizeOf false in
structure NeedIn(K:Fg)(lP:Pos)(lQ:Str)(H:Hp)(p l:Addr)(as:List Addr)(k:Nat)(f:Nat->Int)(F:Nat->Nat->Int)(m:Int):Prop where
 pos:H p=some (.lst ((vec k f).map V.int))
 mov:H l=some (.lst (as.map V.ref))
 rows:Rows H as k F
 w1:Within m k f
 w2:WithinR m as.length k F
 hm:m<=999999999999
 hk:k<=9
 n1:1<=as.length
 n2:as.length<64
 tb:TbW K "worst_days" lP lQ H
def zag(w:Str)(L:Nat->Int)(q:List Nat)(c:Int):Rat:=pos0 (zcM (decide (w = "mean")) L q c.toNat)
def ziC(K:Fg)(C:Addr)(lP:Pos)(lQ:Str):Sp:=fun vs H Q E=>∃(ru p l:Addr) (w:Str) (c:Int) (as:List Addr) (k:Nat) (f:Nat->Int) (F:Nat->Nat->Int) (m:Int),vs=[.ref ru,.ref p,.ref l]/\H ru=some (.tup [.str w,.int c])/\NeedIn K lP lQ H p l as k f F m /\
 (zb7 w c as.length->∀r H' q,SameT H H'->TbW K "worst_days" lP lQ H'->Line (fun i=>zaq k f (F i)) as.length q->IsQ H' r (zag w (fun i=>zaq k f (F i)) q c)->SzQ (zag w (fun i=>zaq k f (F i)) q c) 100 10->Q (.ref r) H') /\
 (¬zb7 w c as.length->∀H',Same H H'->E (.ref C) none H')
def zgE:=fun {K:Fg} {C:Addr} {lP:Pos} {lQ:Str} {ru p l:Addr} {w:Str} {c:Int} {as:List Addr} {k:Nat} {f:Nat->Int} {F:Nat->Nat->Int} {m:Int} {H:Hp} {Q:VK} {E:XK} h1 h2 h3 q=>@id (ziC K C lP lQ [.ref ru,.ref p,.ref l] H Q E) ⟨ru,p,l,w,c,as,k,f,F,m,rfl,h1,h2,fun _=>q,fun z=>absurd h3 z⟩
theorem zmM(q:Rat):((q.num:Int):Rat)=q*(((q.den:Nat):Int):Rat):=by
 have hne:(((q.den:Nat):Int):Rat)≠0:=fun z=>by
  have h1:((q.den:Nat):Int)=0:=by exact_mod_cast z
  have:=zha q
  omega
 have e1:((q.num:Int):Rat)/(((q.den:Nat):Int):Rat)=q:=by rw[<- yah];exact Rat.num_divInt_den q
 have:=yat (a:=((q.num:Int):Rat)) hne
 rw[e1]at this;exact this.symm
set_option genInjectivity false in
set_option genSizeOf false in
structure LawIn(K:Fg)(lP:Pos)(lQ:Str)(H:Hp)(p mv:Addr)(as:List Addr)(k:Nat)(f:Nat->Int)(F:Nat->Nat->Int)(m:Int):Prop where
 pos:H p=some (.lst ((vec k f).map V.int))
 mov:H mv=some (.lst (as.map V.ref))
 rows:Rows H as k F
 w1:Within m k f
 w2:WithinR m as.length k F
 hm:m<=99999999999
 k0:1<=k
 hk:k<=9
 n1:2<=as.length
 n2:as.length<60
 tb:TbW K "worst_days" lP lQ H
def bfl(m w y:Int)(d:Addr):List (Str × V):=zao "deals" (.ref d) (zao "day" (.int y) (zao "wares" (.int w) (zao "many" (.int m) [])))
section
variable {m w y:Int}{d:Addr}
theorem ziU:(bfl m w y d).lookup ("deals" : Str)=some (.ref d):=by unfold bfl;rw[zi,if_pos rfl]
theorem zlH:(bfl m w y d).lookup ("day" : Str)=some (.int y):=by unfold bfl;rw[zi,if_neg (by decide +kernel),zi,if_pos rfl]
theorem ziB:(bfl m w y d).lookup ("wares" : Str)=some (.int w):=by unfold bfl;rw[zi,if_neg (by decide +kernel),zi,if_neg (by decide +kernel),zi,if_pos rfl]
theorem zkD:(bfl m w y d).lookup ("many" : Str)=some (.int m):=by unfold bfl;rw[zi,if_neg (by decide +kernel),zi,if_neg (by decide +kernel),zi,if_neg (by decide +kernel),zi,if_pos rfl]
theorem znj{n:Str}(h1:¬n = "deals")(h2:¬n = "day")(h3:¬n = "wares")(h4:¬n = "many"):(bfl m w y d).lookup n=none:=by
 unfold bfl
 rw[zi,if_neg h1,zi,if_neg h2,zi,if_neg h3,zi,if_neg h4]
 rfl
end
set_option genInjectivity false in
set_option genSizeOf false in
structure T7 where
 p:Int
 q:Int
 w:Int
 u:Int
 a:Int
 y:Int
 r:Int
def za2(t:T7):List V:=[.int t.p,.int t.q,.int t.w,.int t.u,.int t.a,.int t.y,.int t.r]
def zbs(x:T7 × Str):List V:=za2 x.1++[.str x.2]
set_option genInjectivity false in
set_option genSizeOf false in
structure TermOk(m w y:Int)(t:T7):Prop where
 p0:0<=t.p
 p1:t.p<m
 q0:0<=t.q
 q1:t.q<m
 pq:t.p≠t.q
 w0:0<=t.w
 w1:t.w<w
 u0:1<=t.u
 u1:t.u<=1000000
 a0:1<=t.a
 a1:t.a<=1000000000
 y0:0<=t.y
 y1:t.y<=1000000
 r0:0<=t.r
 r1:t.r<=2
 yd:y<=t.y
def ButL(d:Addr)(H H':Hp):Prop:=(∀b o,b≠d->H b=some o->H' b=some o)/\∃xs,H d=some (.lst xs)
theorem ButL.tup{d:Addr}{H H':Hp}(g:ButL d H H'){a:Addr}{xs:List V}(h:H a=some (.tup xs)):H' a=some (.tup xs):=by
 obtain⟨ys,e⟩:=g.2
 exact g.1 a _ (za0 h e (by intro z;cases z)) h
theorem ButL.at{d:Addr}{H H':Hp}(g:ButL d H H'){a:Addr}{o:HO}(h:H a=some o)(n:a≠d):H' a=some o:=g.1 a o n h
theorem ButL.ins{d:Addr}{H H':Hp}(g:ButL d H H'){a C dx:Addr}{fs:List (Str × V)}(h:H a=some (.ins C dx fs)):H' a=some (.ins C dx fs):=by
 obtain⟨ys,e⟩:=g.2
 exact g.1 a _ (za0 h e (by intro z;cases z)) h
theorem ButL.isTs{α:Type}{f:α->List V}{d:Addr}{H H':Hp}(g:ButL d H H'):∀{vs:List V} {xs:List α},IsTs f H vs xs->IsTs f H' vs xs:=fun {vs xs} h=>IsTs.keep (fun a ys z=>g.tup z) h
theorem ButL.of{d:Addr}{H H1 H2:Hp}{xs:List V}(h:H d=some (.lst xs))(e:Same H H1)(g:LBut d H1 H2):ButL d H H2:=⟨fun b o n q=>g.1.at (e b o q) n,xs,h⟩
set_option genInjectivity false in
set_option genSizeOf false in
structure Bk(C:Addr)(H:Hp)(b d:Addr)(m w y:Int)(ts:List (T7 × Str)):Prop where
 ob:∃dx,H b=some (.ins C dx (bfl m w y d))
 ds:∃xs,H d=some (.lst xs)/\IsTs zbs H xs ts
section
variable {C:Addr}{H H':Hp}{b d:Addr}{m w y:Int}{ts:List (T7 × Str)}
theorem LBut.ins{l:Addr}(g:LBut l H H'){a C dx:Addr}{fs:List (Str × V)}(h:H a=some (.ins C dx fs)):H' a=some (.ins C dx fs):=by
 obtain⟨ys,e⟩:=g.2
 exact g.1.at h (za0 h e (by intro z;cases z))
theorem Bk.but{l:Addr}(h:Bk C H b d m w y ts)(g:LBut l H H')(n:d≠l):Bk C H' b d m w y ts:=by
 obtain⟨⟨dx,h1⟩,xs,h2,h3⟩:=h
 exact⟨⟨dx,g.ins h1⟩,xs,g.lst h2 n,LBut.isTs g h3⟩
end
def zlN(C:Addr):Sp:=fun vs H Q _=>∃(p dx:Addr) (m w:Int),vs=[.ref p,.int m,.int w]/\H p=some (.ins C dx [])/\∀d H',H d=none->(∀b o,b≠p->H b=some o->H' b=some o)->H' p=some (.ins C dx (bfl m w 0 d))->H' d=some (.lst [])->Q .non H'
def zlC(C CE:Addr):Sp:=fun vs H Q E=>∃(b dx d:Addr) (m w y n:Int) (xs:List V),vs=[.ref b,.int n]/\H b=some (.ins C dx (bfl m w y d))/\H d=some (.lst xs)/\((0<=n/\∃v,xs[n.toNat]?=some v/\Q v H)\/(¬(0<=n/\n<xs.length)/\E (.ref CE) none H))
def stand(t:T7):T7 × Str:=(t,("standing" : Str))
theorem zm7{xs:List V}{k:Nat}:(zcf xs none (some (k:Int))).length<=k:=by
 unfold zcf
 rw[HT.sIx_nat,HT.sIx_none,yU]
 omega
abbrev TAr:=St->Hp->(List V->Hp->Prop)->(Addr->Hp->Prop)->Prop
def PAr(X:Cx)(es:List Expr)(t:TAr):Prop:=∀(pos:Pos) (pins:List (Addr × Obj)) (s:Shared) (σ:St) (H:Hp) (Q:List V->Hp->Prop) (Eh:Addr->Hp->Prop),Inv X pins σ H s->t σ H Q Eh->wpAny (model X.prog X.w) X.A (spliced (backTo pos (starEach es X.env))) (AP X pins σ Q) (zeA X pins fun C σ' H'=>σ'=σ/\Eh C H') s
section
variable {X:Cx}{pos:Pos}
abbrev znm(te:TEr):TAr:=fun σ H Q Eh=>te σ H (fun y H2=>Q [y] H2) Eh
abbrev znn(tc:TE)(t:TAr):TAr:=fun σ H Q Eh=>tc σ H fun x H1=>t σ H1 (fun xs H2=>Q (x :: xs) H2) Eh
abbrev znR(t:TAr):TEr:=fun σ H Q Eh=>t σ H (fun xs H1=>zdI Q xs H1) Eh
abbrev znD(i:Nat)(te:TEr):TTr:=fun D Eh σ H=>te σ H (fun y H2=>D.nx (σ.set i (some y)) H2) fun C H2=>Eh C σ H2
theorem zjT{e:Expr}{te:TEr}(he:PEr X e te)(hs:autoParam (starEach [e] X.env=[(false,eval e X.env)]) Internal.aut2._auto_1):PAr X [e] (znm te):=by
 intro pos pins s σ H Q Eh I h
 rw[hs]
 show wpAny _ _ (spliced ((false,eval e X.env) :: backTo pos [])) _ _ s
 refine Calls.spliced_cons (wpAny_mono (he pins s σ H _ _ I h) (fun u s1 ⟨x,H1,I1,r1,q1⟩=>?_) fun _ _ z=>z)
 exact Calls.spliced_nil ⟨[x],H1,I1,.cons r1 .nil,q1⟩
theorem zkB{c:Expr}{es:List Expr}{tc:TE}{t:TAr}(hc:PE X.nox c tc)(hr:PAr X es t)(hs:autoParam (starEach (c :: es) X.env=(false,eval c X.env) :: starEach es X.env) Internal.aut2._auto_1):PAr X (c :: es) (znn tc t):=by
 intro pos pins s σ H Q Eh I h
 rw[hs]
 show wpAny _ _ (spliced ((false,eval c X.env) :: backTo pos (starEach es X.env))) _ _ s
 refine Calls.spliced_cons (wpAny_mono (hc pins s σ H _ (I.wish _) h) (fun u s1 ⟨x,H1,J1,r1,q1⟩=>?_) fun _ _ z=>z.elim)
 exact wpAny_mono (hr pos pins s1 σ H1 _ _ J1.unwish q1) (fun us s2 ⟨xs,H2,I2,r2,q2⟩=>⟨x :: xs,H2,I2,.cons r1 r2,q2⟩) fun _ _ z=>z
theorem zl3{es:List Expr}{t:TAr}{x1}(h:PAr X es t):PEr X (.Tuple es x1 pos) (znR t):=by
 intro pins s σ H Q Eh I hq
 refine wpAny_Tuple_spliced (wpAny_mono (h pos pins s σ H _ _ I hq) (fun us s1 ⟨xs,H1,I1,r,z,q⟩=>⟨by rw[<- r.length];exact z,?_⟩) fun _ _ z=>z)
 have hf:H1 s1.heap.objs.size=none:=I1.hok.fresh (yg _)
 refine⟨.ref s1.heap.objs.size,upd H1 s1.heap.objs.size (.tup xs),I1.laid (t':=s1.toks) (fun b u e=>Heap.get?_push_of_some _ e) (yg _) ?_,rfl,q _ hf⟩
 exact⟨z,us,r,⟨_,Heap.get?_push_size _ rfl,rfl,_,rfl⟩⟩
theorem zlG{i:Nat}{x:Str}{e:Expr}{te:TEr}{pos':Pos}(hN:X.N.Nodup)(hi:X.N[i]?=some x)(hx:Loc X.env.scope x)(he:PEr X e te)(hs:autoParam (swapsWith e (some (.Name x pos')) pos.line X.env=pure false) Internal.aut2._auto_1)(hf:autoParam (X.fn x=true\/X.env.scope.names.lookup x=some .local) Internal.aut0._auto_1) :
  PTr X (.Assign [.Name x pos'] e pos) (znD i te):=by
 intro pins s σ H D Eh I h
 refine wpAny_Assign_Name (wpAny_mono (he pins s σ H _ _ I h) (fun v s1 ⟨y,H1,I1,r1,q1⟩=>?_) fun e s1 zz=>by obtain⟨σ',H1,s2,er,C,t,B,H',I',e1,fl,e2,q⟩:=zz;exact⟨σ',H1,s2,er,C,t,B,H',I',e1,fl,e2▸q⟩) hs
 exact zdl I1 hN hi hx r1 (fun s2 I2=>⟨_,H1,I2,q1⟩) hf
end
section
variable {σ:St}{H:Hp}{D:Ends}{Eh:Addr->Hp->Prop}{Eg:Addr->St->Hp->Prop}
end
section
variable {X:Cx}
end
def OkO(ws:List Str):Prop:=(∀w∈ws,w∈words5)/\ws.Nodup
def zir(K:Fg)(C:Addr):Sp:=fun vs H Q E=>∃(o:Addr) (ws:List Str),vs=[.ref o]/\SqL K H o (ws.map V.str)/\ws.length<=100/\((OkO ws/\∀H',Same H H'->Q .non H')\/(¬OkO ws/\∀H',Same H H'->E (.ref C) none H'))
theorem zkq{ws:List Str}{w:Str}(h:OkO ws)(h5:w∈words5)(hm:w∉ws):OkO (ws++[w]):=⟨fun u hu=>by
 rcases yv.mp hu with q | q
 ·exact h.1 u q
 ·rw[yu.mp q];exact h5,yY.mpr ⟨h.2,by simp,fun a ha b hb e=>by
 rw[yu.mp hb]at e
 exact hm (e▸ha)⟩⟩
def zbd(m p q:Int):Prop:=(0<=p/\p<m)/\(0<=q/\q<m)/\p≠q
instance (m p q:Int):Decidable (zbd m p q):=inferInstanceAs (Decidable (_/\_))
def zaB(w:Int)(t:T7):Prop:=(0<=t.w/\t.w<w)/\(1<=t.u/\t.u<=1000000)/\(1<=t.a/\t.a<=1000000000)/\(0<=t.y/\t.y<=1000000)/\(0<=t.r/\t.r<=2)
instance (w:Int) (t:T7):Decidable (zaB w t):=inferInstanceAs (Decidable (_/\_))
def zcz(m w y:Int)(t:T7):Nat:=if ¬zbd m t.p t.q then 1 else if ¬zaB w t then 2 else if t.y<y then 3 else 0
theorem IsTs.set{α:Type}{f:α->List V}{H:Hp}{a:Addr}{x:α}(ha:H a=some (.tup (f x))):∀{vs:List V} {xs:List α} (n:Nat),IsTs f H vs xs->IsTs f H (vs.set n (.ref a)) (xs.set n x)
 | [],[],_,_=>trivial
 | _ :: _,_ :: _,0,⟨_,h2⟩=>⟨⟨a,rfl,ha⟩,h2⟩
 | _ :: _,_ :: _,n+1,⟨h1,h2⟩=>⟨h1,IsTs.set ha n h2⟩
def ziP(C CM:Addr):Sp:=fun vs H Q E=>∃(b dx d:Addr) (m w y p q:Int),vs=[.ref b,.int p,.int q]/\H b=some (.ins C dx (bfl m w y d))/\((zbd m p q/\∀H',Same H H'->Q .non H')\/(¬zbd m p q/\∀H',Same H H'->E (.ref CM) none H'))
def ziL(C CT CC:Addr):Sp:=fun vs H Q E=>∃(b dx d:Addr) (m w y:Int) (t:T7),vs=[.ref b,.int t.w,.int t.u,.int t.a,.int t.y,.int t.r]/\H b=some (.ins C dx (bfl m w y d))/\((zaB w t/\y<=t.y/\Q .non H)\/(¬zaB w t/\E (.ref CT) none H)\/(zaB w t/\t.y<y/\E (.ref CC) none H))
def zjo(C CM CT CC:Addr):Sp:=fun vs H Q E=>∃(b dx d:Addr) (m w y:Int) (t:T7) (xs:List V),vs=.ref b :: za2 t/\H b=some (.ins C dx (bfl m w y d))/\H d=some (.lst xs)/\xs.length<=1000 /\
 ((zcz m w y t=0/\∀a H1 H2,Same H H1->H1 a=some (.tup (zbs (t,("standing" : Str))))->LBut d H1 H2->H2 d=some (.lst (xs++[.ref a]))->Q (.int xs.length) H2) \/
  (zcz m w y t=1/\∀H',Same H H'->E (.ref CM) none H')\/(zcz m w y t=2/\∀H',Same H H'->E (.ref CT) none H')\/(zcz m w y t=3/\∀H',Same H H'->E (.ref CC) none H'))
def zhH(C:Addr):Sp:=fun vs H Q _=>∃(b d:Addr) (m w y n:Int) (s:Str) (ts:List (T7 × Str)) (t:T7 × Str),vs=[.ref b,.int n,.str s]/\Bk C H b d m w y ts/\0<=n/\ts[n.toNat]?=some t/\∀H',Bk C H' b d m w y (ts.set n.toNat (t.1,s))->ButL d H H'->Q .non H'
def DRows(H:Hp)(as:List Addr)(ts:List (T7 × Str)):Prop:=as.Nodup/\as.length=ts.length/\∀(i:Nat) (a:Addr) (t:T7 × Str),as[i]?=some a->ts[i]?=some t->H a=some (.lst (zbs t))
section
variable {H H':Hp}{as:List Addr}{ts:List (T7 × Str)}
theorem DRows.same(h:DRows H as ts)(e:Same H H'):DRows H' as ts:=⟨h.1,h.2.1,fun i a t h1 h2=>e.at (h.2.2 i a t h1 h2)⟩
theorem DRows.keep(h:DRows H as ts)(e:∀a o,a∈as->H a=some o->H' a=some o):DRows H' as ts:=⟨h.1,h.2.1,fun i a t h1 h2=>e a _ (yq h1) (h.2.2 i a t h1 h2)⟩
theorem DRows.mem(h:DRows H as ts){a:Addr}(m:a∈as):∃(i:Nat) (t:T7 × Str),as[i]?=some a/\ts[i]?=some t/\H a=some (.lst (zbs t)):=by
 obtain⟨i,hi,e⟩:=yZ m
 have h1:as[i]?=some a:=by rw[yr hi,e]
 obtain⟨t,ht⟩:=zQ (show i<ts.length by have:=h.2.1;omega)
 exact⟨i,t,h1,ht,h.2.2 i a t h1 ht⟩
theorem DRows.fresh{p:Addr}(h:DRows H as ts)(hp:H p=none):p∉as:=fun m=>by
 obtain⟨_,_,_,_,e⟩:=h.mem m
 rw[hp]at e;cases e
theorem DRows.app{p:Addr}{t:T7 × Str}(h:DRows H as ts)(n:p∉as)(hp:H p=some (.lst (zbs t))):DRows H (as++[p]) (ts++[t]):=by
 refine⟨yY.mpr ⟨h.1,by simp,fun a ha b hb e=>n (by rw[yu]at hb;subst hb;subst e;exact ha)⟩,by rw[yl,yl,h.2.1];rfl,fun i a u h1 h2=>?_⟩
 rw[yao]at h1 h2
 have hl:=h.2.1
 split at h1
 ·rename_i hi
  rw[if_pos (by omega)]at h2
  exact h.2.2 i a u h1 h2
 ·rename_i hi
  rw[if_neg (by omega)]at h2
  have e0:i-as.length=0:=by
   cases e:i-as.length with
   | zero=>rfl
   | succ k=>rw[e]at h1;cases h1
  rw[e0]at h1
  rw[show i-ts.length=0 by omega]at h2
  cases h1;cases h2
  exact hp
theorem DRows.set{j:Nat}{a:Addr}{t:T7 × Str}(h:DRows H as ts)(ha:as[j]?=some a)(g:LBut a H H')(h':H' a=some (.lst (zbs t))):DRows H' as (ts.set j t):=by
 refine⟨h.1,by rw[yap];exact h.2.1,fun i b u h1 h2=>?_⟩
 by_cases e:i=j
 ·subst e
  rw[ha]at h1;cases h1
  rw[yaf (by have:=(ym.mp ha).1;have:=h.2.1;omega)]at h2
  cases h2;exact h'
 ·rw[yan (fun z=>e z.symm)]at h2
  exact g.lst (h.2.2 i b u h1 h2) fun z=>e (zc2 h.1 h1 (z▸ha))
end
theorem zj3{K:Fg}{H:Hp}{Q:VK}{a b:Addr}{x:T7 × Str}(h1:H a=some (.tup (zbs x)))(h2:H b=some (.tup (zbs x)))(ok:PyData.canLay0 (.str x.2)=true)(q:Q (.bl false) H):zb6 K (.ref a) (.ref b) H Q:=by
 have rep:RepAll K H (zbs x) [.int x.1.p,.int x.1.q,.int x.1.w,.int x.1.u,.int x.1.a,.int x.1.y,.int x.1.r,.str x.2]:=.cons (.int _) (.cons (.int _) (.cons (.int _) (.cons (.int _) (.cons (.int _) (.cons (.int _) (.cons (.int _) (.cons (.str _ ok) .nil)))))))
 refine zh0 (.tup (.of h1) rep) (.tup (.of h2) rep) (by simp[PyData.depth,PyData.depthAll]) ?_
 rw[yX _ (by rw[PyData.canLay0];exact rep.lay)]
 exact q
theorem zjC{K:Fg}{H:Hp}{Q:VK}{a:Addr}{xs:List V}(h:H a=some (.lst xs))(q:∀p H',H p=none->Same H H'->H' p=some (.tup xs)->Q (.ref p) H'):zet K [.ref a] H Q:=⟨a,xs,rfl,.inl ⟨.of h,fun l hl=>q l _ hl (Same.new hl _) zL⟩⟩
set_option genInjectivity false in
set_option genSizeOf false in
structure RoomH(k:Nat)(A:Around):Prop where
 dp:A.depth+3*k+5<recursionLimit
 un:A.units+16*k+200<cLine
theorem RoomH.deeper{k:Nat}{A:Around}(r:RoomH (k+1) A)(env:Env):RoomH k (A.deeper env):=
 ⟨by have:=r.dp;show A.depth+1+3*k+5<_;omega,by have:=r.un;show A.units+3+16*k+200<_;omega⟩
theorem RoomH.depth{k:Nat}{A:Around}(r:RoomH k A):A.depth<recursionLimit:=by have:=r.dp;omega
theorem RoomH.units{k:Nat}{A:Around}(r:RoomH k A):A.units+64<cLine:=by have:=r.un;omega
theorem Room.mark{k:Nat}{A:Around}(r:Room k A)(h:Option Value):RoomH k (A.mark h):=⟨r.dp,r.un⟩
abbrev Cx.toH(X:Cx)(A:Around):Cx:={ X with A:=A,calm:=false,xe:=fun _ _=>False }
theorem Inv.toH{X:Cx}{pins:List (Addr × Obj)}{σ:St}{H:Hp}{s:Shared}(I:Inv X pins σ H s)(A:Around)(hf:A.frames=some X.stack):Inv (X.toH A) pins σ H s:=
 ⟨⟨I.ok.mod,I.ok.kind,I.ok.glob,I.ok.blt,I.ok.above,I.ok.inj,I.ok.has,I.ok.cab,fun z=>(by cases z),hf,I.ok.stk,I.ok.exf,I.ok.bs,I.ok.bsz,I.ok.noex,I.ok.exfs,I.ok.funs,I.ok.frf⟩,I.os,I.bare,I.base,I.loc,I.cell,I.free,I.freeC,I.pin,I.hok,I.len⟩
set_option genInjectivity false in
set_option genSizeOf false in
structure FnOkH(P:Program)(w:World)(K:Fg)(mg:Str->Option Value)(base:Heap)(k:Nat)(f:Addr)(fd:FuncData)(ps:List Str)(sp:Sp):Prop where
 len:∀vs H Q E,sp vs H Q E->vs.length=ps.length
 run:∀(A:Around) (outer:List Env) (s:Shared) (H:Hp) (args:Args) (us:List Value) (vs:List V) (Q:VK) (E:XK),RoomH k A->Env0 P w K mg base A outer s H->BindsTo s fd args (ps.zip us)->Vals vs us->sp vs H Q E ->
  codeAny (model P w) A (.call (.ref f) args) (CR (fun _ _ _ _ _ _=>False) outer P w H s Q E) s
abbrev cxH(P:Program)(w:World)(K:Fg)(mg:Str->Option Value)(base:Heap)(N:List Str)(qual:Str)(scope:Scope)(f:Addr)(cd:Value)(A:Around)(outer:List Env)(s:Shared)(H:Hp)(E:XK):Cx:=
 (zaJ (CXF P w) P w K mg base N qual scope f cd A outer s H E).toH (A.deeper (envOfC qual scope s.heap.objs.size f cd))
theorem Fun.okH{P:Program}{w:World}{K:Fg}{mg:Str->Option Value}{base:Heap}{x qual:Str}{st:Stmt}{f:Addr}{fd:FuncData}{N ps:List Str}{k:Nat}{sp:Sp}(F:Fun K x qual st f fd)(S:FnScope N ps (ze st))(len:∀vs H Q E,sp vs H Q E->vs.length=ps.length)
  (hbody:∀(cdv:Value) (A:Around) (outer:List Env) (s:Shared) (H:Hp) (vs:List V) (Q:VK) (E:XK),RoomH k (A.deeper (envOfC qual (ze st) s.heap.objs.size f cdv))->sp vs H Q E ->
   ∃t,PSs (cxH P w K mg base N qual (ze st) f cdv A outer s H E) (zv st) t/\t { nx:=fun _ H'=>Q .non H',rt:=Q } (start N vs) H):FnOkH P w K mg base (k+1) f fd ps sp:=by
 obtain⟨oc,od,kV,doc,pm,an,cdv,ct,osl,rfl,lk,hcd⟩:=F.ex
 refine⟨len,fun A outer s H args us vs Q E hr e0 hb r hsp=>?_⟩
 have hl:=len _ _ _ _ hsp
 have KX:K.In s.heap:=e0.mod.kin.keeps fun b o e=>(e0.bs b o e).1
 have lim:s.heap.NoLimit:=e0.mod.nolimit.keeps fun b o e=>(e0.bs b o e).1
 have hkind:∀y∈ps.zip us,(ze st).names.lookup y.1=some .local\/((ze st).names.lookup y.1=some .cell/\((cellsFrom (s.heap.objs.size+1) (ze st).names []).lookup y.1).isSome=true):=fun⟨n,v⟩ hy=>by
  rcases S.par n (yaA hy).1 with q | q
  ·exact .inl q
  ·exact .inr ⟨q,yau _ _ _ (.inl q)⟩
 refine codeAny_call_function hr.depth (KX _ _ lk) rfl S.co S.gen rfl (PySem.W.codeRec_of KX hcd) (hb _ _ _ _ ?_)
 refine wpAny_newFunctionEnv_cells S.kind hkind fun env he s1 x=>?_
 subst he
 refine⟨lim.keeps x.toInCall.keep,codeAny_func ?_⟩
 obtain⟨t,ht,hq⟩:=hbody cdv A outer s H vs Q E (hr.deeper _) hsp
 have e0':Env0 P w K mg base { A with handled:=none } outer s H:=⟨e0.frames,e0.mod,e0.bs,e0.bsz,e0.funs,e0.frf,e0.hok,e0.bare⟩
 have I0:Inv (zaJ (CXF P w) P w K mg base N qual (ze st) f cdv { A with handled:=none } outer s H E) [] (start N vs) H s1:=zfC S rfl e0' hl r x
 have I:Inv (cxH P w K mg base N qual (ze st) f cdv A outer s H E) [] (start N vs) H s1:=I0.toH _ I0.ok.frames
 refine wpAny_mono (ht [] s1 (start N vs) H _ I hq) (fun fl s' hs=>?_) fun e s' hs=>hs.elim
 have fin:∀{σ':St} {H':Hp} {v:V} {u:Value},Inv (cxH P w K mg base N qual (ze st) f cdv A outer s H E) [] σ' H' s'->RelV v u->Q v H'->CE outer P w H s Q u s':=
  fun {σ' H' v u} J rv q=>⟨v,H',J.os,J.bare,J.base,J.hok,rv,q⟩
 cases fl with
 | ret u=>
  obtain⟨v,σ',H',J,rv,q⟩:=hs
  exact fin J rv q
 | next=>
  obtain⟨σ',H',J,q⟩:=hs
  exact fin (v:=V.non) (u:=Value.none) J rfl q
 | brk=>
  obtain⟨_,_,_,q⟩:=hs
  exact False.elim q
 | cont=>
  obtain⟨_,_,_,q⟩:=hs
  exact False.elim q
theorem zke{X:Cx}{k:Nat}{f:Addr}{fd:FuncData}{ps:List Str}{sp:Sp}{E:XK}{x:Str}{p pos:Pos}{e:Expr}{es:List Expr}{t:TA}(F:FnOkH X.prog X.w X.K X.mg X.base k f fd ps sp)(hr:RoomH k X.A)(hg:Gl X x)(hm:X.mg x=some (.ref f))(hk:PySem.W.keepIn X.K (.ref f)=true)(hb:Binds X.K fd ps [])
  (ha:PA X (e :: es) t) (hdb:autoParam ((x == ("__debug__" : Str))=false) Internal.aut1._auto_1) (he:autoParam (starEach (e :: es) X.env=(false,eval e X.env) :: starEach es X.env) Internal.aut2._auto_1) (hpl:autoParam ((backTo pos (starEach es X.env)).any (·.1)=false) Internal.aut2._auto_1) :
  PE X (.Call (.Name x p) (e :: es) [] pos) (zeN sp [] E t):=by
 intro pins s σ H Q I h
 refine wpAny_Call_Name_kw (zcx I hg hm ?_ hdb)
 refine yae (h₀:=X.base) I.ok.mod.kin hk (thn (ha pos pins s σ H _ I h) fun us s1 ⟨vs,H1,I1,r,q⟩=>⟨I1.kIn,?_⟩) he hpl
 have q:sp (vs++[]) H1 Q E:=q
 rw[yQ]at q
 have hl:us.length=ps.length:=by rw[<- r.length];exact F.len _ _ _ _ q
 have hbd:=hb s1 us I1.kIn (by rw[yQ];exact hl)
 rw[yQ]at hbd
 refine wpAny_call (codeAny_mono (F.run X.A X.stack s1 H1 ⟨us,[]⟩ us vs Q E hr I1.env0 hbd r q) fun res s' hq=>?_)
 cases res with
 | error e=>exact False.elim hq
 | ok fl=>
  cases fl with
  | ret u=>exact I1.after hq
  | next=>exact False.elim hq
  | brk=>exact False.elim hq
  | cont=>exact False.elim hq
def St3(ts:List (T7 × Str)):Prop:=∀t∈ts,t.2=("standing" : Str)\/t.2=("settled" : Str)\/t.2=("broken" : Str)
def zoc(w:Int)(ts:List (T7 × Str)):Prop:=∀t∈ts,(0<=t.1.w/\t.1.w<w)/\(1<=t.1.u/\t.1.u<=1000000)/\(0<=t.1.r/\t.1.r<=2)
def zhQ(C CN CG CS:Addr):Sp:=fun vs H Q E=>∃(b d:Addr) (m w y n:Int) (ts:List (T7 × Str)),vs=[.ref b,.int n]/\Bk C H b d m w y ts /\
 ((∃t,0<=n/\ts[n.toNat]?=some t/\¬t.2=("broken" : Str)/\¬t.2=("settled" : Str)/\∀x,H x=some (.tup (zbs t))->Q (.ref x) H) \/
  (¬(0<=n/\n<ts.length)/\E (.ref CN) none H)\/(∃t,0<=n/\ts[n.toNat]?=some t/\t.2=("broken" : Str)/\E (.ref CG) none H)\/(∃t,0<=n/\ts[n.toNat]?=some t/\t.2=("settled" : Str)/\E (.ref CS) none H))
set_option genInjectivity false in
set_option genSizeOf false in
structure BR(C:Addr)(H:Hp)(b d ro:Addr)(m w y:Int)(ts:List (T7 × Str))(as:List Addr):Prop where
 B:Bk C H b d m w y ts
 ro:H ro=some (.lst (as.map V.ref))
 R:DRows H as ts
 s:St3 ts
 g:zoc w ts
open PySem PySem.W PySem.Spec PySem.Calls PyProof.Rows
section
variable {prog:Program}{w:World}{A:Around}{E:Value->Shared->Prop}
end
open PySem PySem.Spec PyProof.Rows
def zaV(t:T7 × Str)(m:Int)(j:Nat):Int:=if t.2=("standing" : Str)/\t.1.w=(j:Int) then(if t.1.p=m then t.1.u else if t.1.q=m then -t.1.u else 0)else 0
def zaf:List (T7 × Str)->Int->Nat->Int
 | [],_,_=>0
 | t :: ts,m,j=>zaV t m j+zaf ts m j
theorem zee(ts us:List (T7 × Str))(m:Int)(j:Nat):zaf (ts++us) m j=zaf ts m j+zaf us m j:=by
 induction ts with
 | nil=>show zaf us m j=0+zaf us m j;omega
 | cons t ts ih=>show zaV t m j+zaf (ts++us) m j=zaV t m j+zaf ts m j+zaf us m j;rw[ih];omega
theorem zdu{ts:List (T7 × Str)}{i:Nat}{t:T7 × Str}(h:ts[i]?=some t)(m:Int)(j:Nat):zaf (ts.take (i+1)) m j=zaf (ts.take i) m j+zaV t m j:=by
 rw[List.take_succ,h,zee]
 show _+(zaV t m j+0)=_
 omega
theorem zl7{t:T7 × Str}(u0:1<=t.1.u)(u1:t.1.u<=1000000)(m:Int)(j:Nat):-1000000<=zaV t m j/\zaV t m j<=1000000:=by
 unfold zaV
 split
 ·split
  ·omega
  ·split<;>omega
 ·omega
theorem zcP:∀{ts:List (T7 × Str)},(∀t∈ts,1<=t.1.u/\t.1.u<=1000000)->∀(m:Int) (j:Nat),-((ts.length:Int)*1000000)<=zaf ts m j/\zaf ts m j<=(ts.length:Int)*1000000
 | [],_,m,j=>by show -(0*_)<=(0:Int)/\(0:Int)<=0*_;omega
 | t :: ts,h,m,j=>by
  have ih:=zcP (ts:=ts) (fun t ht=>h t (yE _ ht)) m j
  have h1:=h t yV
  have h2:=zl7 h1.1 h1.2 m j
  show -(((ts.length+1:Nat):Int)*1000000)<=zaV t m j+zaf ts m j/\zaV t m j+zaf ts m j<=((ts.length+1:Nat):Int)*1000000
  omega
def zhV(C:Addr):Sp:=fun vs H Q _=>∃(b d:Addr) (m y n:Int) (w:Nat) (ts:List (T7 × Str)),vs=[.ref b,.int n]/\Bk C H b d m (w:Int) y ts/\(∀t∈ts,0<=t.1.w/\t.1.w<(w:Int))/\w<=1000/\∀p H',H p=none->Same H H'->H' p=some (.lst ((vec w (zaf ts n)).map V.int))->Q (.ref p) H'
section
variable {ts:List (T7 × Str)}{m:Int}{i:Nat}
end
abbrev FE:=Int ⊕ List Int
def feV(H:Hp)(v:V):FE->Prop
 | .inl n=>v=.int n
 | .inr ns=>∃a,v=.ref a/\H a=some (.tup (ns.map V.int))
def Fls(H:Hp):List V->List FE->Prop
 | [],[]=>True
 | v :: vs,e :: es=>feV H v e/\Fls H vs es
 | _,_=>False
section
variable {H H':Hp}
end
set_option genInjectivity false in
set_option genSizeOf false in
structure ZE where
 t:Addr
 u:Addr
 e1:List FE
 e2:List FE
def zn4(z:ZE):List V:=[.ref z.t,.ref z.u]
def HZ(H:Hp)(z:ZE):Prop:=(∃vs,H z.t=some (.lst vs)/\Fls H vs z.e1)/\∃ws,H z.u=some (.lst ws)/\Fls H ws z.e2
set_option genInjectivity false in
set_option genSizeOf false in
structure HeldAt(H:Hp)(hl:Addr)(zs:List ZE):Prop where
 ls:∃vs,H hl=some (.lst vs)/\IsTs zn4 H vs zs
 hz:∀z∈zs,HZ H z
 nd:(zs.map (·.t)).Nodup
 tu:∀z∈zs,∀z'∈zs,z.t≠z'.u
 n:∀z∈zs,z.t≠hl/\z.u≠hl
set_option genInjectivity false in
set_option genSizeOf false in
structure HA where
 pu:Addr
 pl:Addr
 sh:Addr
 mv:Addr
 ru:Addr
 od:Addr
 bk:Addr
 ou:Addr
 re:Addr
def hfl3(pu pl sh:Addr):List (Str × V):=zao "shares" (.ref sh) (zao "pledges" (.ref pl) (zao "purses" (.ref pu) []))
def hfl(A:HA)(own:Int):List (Str × V):=zao "reports" (.ref A.re) (zao "outs" (.ref A.ou) (zao "book" (.ref A.bk) (zao "order" (.ref A.od) (zao "rule" (.ref A.ru) (zao "moves" (.ref A.mv) (zao "kept" (.int own) (hfl3 A.pu A.pl A.sh)))))))
section
variable {A:HA}{own:Int}
theorem zjI:(hfl A own).lookup ("outs" : Str)=some (.ref A.ou):=by unfold hfl hfl3;rw[zi,if_neg (by decide +kernel),zi,if_pos rfl]
theorem zkt:(hfl A own).lookup ("book" : Str)=some (.ref A.bk):=by unfold hfl hfl3;rw[zi,if_neg (by decide +kernel),zi,if_neg (by decide +kernel),zi,if_pos rfl]
theorem zkk:(hfl A own).lookup ("rule" : Str)=some (.ref A.ru):=by unfold hfl hfl3;rw[zi,if_neg (by decide +kernel),zi,if_neg (by decide +kernel),zi,if_neg (by decide +kernel),zi,if_neg (by decide +kernel),zi,if_pos rfl]
theorem zja:(hfl A own).lookup ("moves" : Str)=some (.ref A.mv):=by unfold hfl hfl3;rw[zi,if_neg (by decide +kernel),zi,if_neg (by decide +kernel),zi,if_neg (by decide +kernel),zi,if_neg (by decide +kernel),zi,if_neg (by decide +kernel),zi,if_pos rfl]
theorem zgV:(hfl A own).lookup ("pledges" : Str)=some (.ref A.pl):=by unfold hfl hfl3;rw[zi,if_neg (by decide +kernel),zi,if_neg (by decide +kernel),zi,if_neg (by decide +kernel),zi,if_neg (by decide +kernel),zi,if_neg (by decide +kernel),zi,if_neg (by decide +kernel),zi,if_neg (by decide +kernel),zi,if_neg (by decide +kernel),zi,if_pos rfl]
theorem zh9:(hfl A own).lookup ("purses" : Str)=some (.ref A.pu):=by unfold hfl hfl3;rw[zi,if_neg (by decide +kernel),zi,if_neg (by decide +kernel),zi,if_neg (by decide +kernel),zi,if_neg (by decide +kernel),zi,if_neg (by decide +kernel),zi,if_neg (by decide +kernel),zi,if_neg (by decide +kernel),zi,if_neg (by decide +kernel),zi,if_neg (by decide +kernel),zi,if_pos rfl]
def hno(n:Str):Bool:=!decide (n = "reports")&&!decide (n = "outs")&&!decide (n = "book")&&!decide (n = "order")&&!decide (n = "rule")&&!decide (n = "moves")&&!decide (n = "kept")&&!decide (n = "shares")&&!decide (n = "pledges")&&!decide (n = "purses")
theorem znt{n:Str}(h:hno n=true):(hfl A own).lookup n=none:=by
 unfold hno at h
 simp only[yA,Bool.not_eq_true',decide_eq_false_iff_not]at h
 obtain⟨⟨⟨⟨⟨⟨⟨⟨⟨h1,h2⟩,h3⟩,h4⟩,h5⟩,h6⟩,h7⟩,h8⟩,h9⟩,h10⟩:=h
 unfold hfl hfl3
 rw[zi,if_neg h1,zi,if_neg h2,zi,if_neg h3,zi,if_neg h4,zi,if_neg h5,zi,if_neg h6,zi,if_neg h7,zi,if_neg h8,zi,if_neg h9,zi,if_neg h10]
 rfl
end
def NB(p:Addr)(H H':Hp):Prop:=∀b o,b≠p->H b=some o->H' b=some o
section
variable {p:Addr}{H H1 H2:Hp}
theorem NB.at(e:NB p H H1){a:Addr}{o:HO}(h:H a=some o)(n:a≠p):H1 a=some o:=e a o n h
theorem NB.trans(e:NB p H H1)(f:NB p H1 H2):NB p H H2:=fun b o n h=>f b o n (e b o n h)
theorem Same.nb(e:Same H H1):NB p H H1:=fun b o _ h=>e b o h
theorem But.nb(e:But p H H1):NB p H H1:=fun b o n h=>e.at h n
theorem NB.no(e:NB p H H1){x:Addr}(h:H1 x=none)(n:x≠p):H x=none:=by
 cases z:H x with
 | none=>rfl
 | some o=>rw[e x o n z]at h;cases h
theorem NB.same{H0:Hp}(g:NB p H H1)(e:Same H0 H)(h:H0 p=none):Same H0 H1:=fun b o q=>g b o (zG q h) (e b o q)
end
theorem Bk.sameT{C:Addr}{H H':Hp}{b d:Addr}{m w y:Int}{ts:List (T7 × Str)}(h:Bk C H b d m w y ts)(e:SameT H H'):Bk C H' b d m w y ts:=by
 obtain⟨⟨dx,h1⟩,xs,h2,h3⟩:=h
 exact⟨⟨dx,e.ins h1⟩,xs,e.lst h2,IsTs.keep (fun a ys z=>e.tup z) h3⟩
set_option genInjectivity false in
set_option genSizeOf false in
structure HN(K:Fg)(CB:Addr)(lP:Pos)(lQ:Str)(H:Hp)(A:HA)(d:Addr)(m y:Int)(ts:List (T7 × Str))(bs:List Addr)(k:Nat)(F:Nat->Nat->Int)(w:Str)(c:Int):Prop where
 bk:Bk CB H A.bk d m (k:Int) y ts
 tok:∀t∈ts,0<=t.1.w/\t.1.w<(k:Int)
 tu:∀t∈ts,1<=t.1.u/\t.1.u<=1000000
 tl:ts.length<=1000
 ru:H A.ru=some (.tup [.str w,.int c])
 mv:H A.mv=some (.lst (bs.map V.ref))
 rows:Rows H bs k F
 fw:WithinR 1000000 bs.length k F
 ok:zb7 w c bs.length
 k9:k<=9
 n64:bs.length<64
 tb:TbW K "worst_days" lP lQ H
section
variable {K:Fg}{CB:Addr}{lP:Pos}{lQ:Str}{H H':Hp}{A:HA}{d:Addr}{m y:Int}{ts:List (T7 × Str)}{bs:List Addr}{k:Nat}{F:Nat->Nat->Int}{w:Str}{c:Int}
theorem HN.sameT(h:HN K CB lP lQ H A d m y ts bs k F w c)(e:SameT H H')(t:TbW K "worst_days" lP lQ H'):HN K CB lP lQ H' A d m y ts bs k F w c:=
 ⟨h.bk.sameT e,h.tok,h.tu,h.tl,e.tup h.ru,e.lst h.mv,e.rows h.rows,h.fw,h.ok,h.k9,h.n64,t⟩
theorem HN.same(h:HN K CB lP lQ H A d m y ts bs k F w c)(e:Same H H'):HN K CB lP lQ H' A d m y ts bs k F w c:=h.sameT e.t (TbW.same e h.tb)
theorem HN.but{l:Addr}(h:HN K CB lP lQ H A d m y ts bs k F w c)(g:LBut l H H')(n1:d≠l)(n2:A.mv≠l)(n3:l∉bs):HN K CB lP lQ H' A d m y ts bs k F w c:=
 ⟨h.bk.but g n1,h.tok,h.tu,h.tl,g.tup h.ru,g.lst h.mv n2,h.rows.but g n3,h.fw,h.ok,h.k9,h.n64,TbW.but g h.tb⟩
end
def zai(ts:List (T7 × Str))(m:Int)(k:Nat)(F:Nat->Nat->Int)(i:Nat):Int:=zaq k (zaf ts m) (F i)
def zlk(K:Fg)(C CB:Addr)(lP:Pos)(lQ:Str):Sp:=fun vs H Q _=>∃(h dx d:Addr) (A:HA) (own m y n:Int) (ts:List (T7 × Str)) (bs:List Addr) (k:Nat) (F:Nat->Nat->Int) (w:Str) (c:Int),vs=[.ref h,.int n]/\H h=some (.ins C dx (hfl A own))/\HN K CB lP lQ H A d m y ts bs k F w c /\
 ∀r H' q,SameT H H'->TbW K "worst_days" lP lQ H'->Line (zai ts n k F) bs.length q->IsQ H' r (zag w (zai ts n k F) q c)->SzQ (zag w (zai ts n k F) q c) 100 10->Q (.ref r) H'
def zfy(C:Addr):Sp:=fun vs H Q _=>∃(h dx:Addr) (A:HA) (own k:Int) (n:Nat) (f:Nat->Int),vs=[.ref h,.int k]/\H h=some (.ins C dx (hfl A own))/\H A.pl=some (.lst ((vec n f).map V.int))/\0<=k/\k<(n:Int)/\Q (.int (f k.toNat)) H
set_option genInjectivity false in
set_option genSizeOf false in
structure Stk(p:Addr)(H0 H:Hp)(l:List Addr):Prop where
 nb:NB p H0 H
 hp:H p≠none
 nd:l.Nodup
 ex:∀y∈l,H y≠none/\y≠p/\H0 y=none
section
variable {p:Addr}{H0 H H':Hp}{l:List Addr}
theorem NB.some(e:NB p H H'){y:Addr}(h:H y≠none)(n:y≠p):H' y≠none:=fun z=>h (e.no z n)
theorem Stk.nil(h:H p≠none):Stk p H H []:=⟨fun _ _ _ h=>h,h,yP,fun y hy=>nomatch hy⟩
theorem Stk.keep(s:Stk p H0 H l)(e:NB p H H')(hp:H' p≠none):Stk p H0 H' l:=⟨s.nb.trans e,hp,s.nd,fun y hy=>⟨e.some (s.ex y hy).1 (s.ex y hy).2.1,(s.ex y hy).2⟩⟩
theorem Stk.same(s:Stk p H0 H l)(e:Same H H'):Stk p H0 H' l:=s.keep e.nb fun z=>s.hp (Same.none z e)
theorem Stk.fresh(s:Stk p H0 H l){x:Addr}(h:H x=none):x≠p/\x∉l/\H0 x=none:=
 have hp:x≠p:=fun z=>s.hp (z▸h)
 ⟨hp,fun hx=>(s.ex x hx).1 h,s.nb.no h hp⟩
theorem Stk.new(s:Stk p H0 H l){x:Addr}(h:H x=none)(e:Same H H')(hx:H' x≠none):Stk p H0 H' (x :: l):=by
 obtain⟨n1,n2,n3⟩:=s.fresh h
 have s':=s.same e
 refine⟨s'.nb,s'.hp,yJ.mpr ⟨n2,s.nd⟩,fun y hy=>?_⟩
 rcases yf.mp hy with rfl | hy
 ·exact⟨hx,n1,n3⟩
 ·exact s'.ex y hy
theorem Stk.more(s:Stk p H0 H l){bs:List Addr}(h:∀b∈bs,H b=none)(nd:bs.Nodup)(e:Same H H')(hx:∀b∈bs,H' b≠none):Stk p H0 H' (bs++l):=by
 have s':=s.same e
 refine⟨s'.nb,s'.hp,yY.mpr ⟨nd,s.nd,fun a ha b hb z=>(s.fresh (h a ha)).2.1 (z▸hb)⟩,fun y hy=>?_⟩
 rcases yv.mp hy with hy | hy
 ·obtain⟨n1,n2,n3⟩:=s.fresh (h y hy)
  exact⟨hx y hy,n1,n3⟩
 ·exact s'.ex y hy
theorem z6{H:Hp}{a:Addr}{o:HO}(h:H a=some o):H a≠none:=fun z=>by rw[h]at z;cases z
end
def m3V(x:Int × Int × Int):List V:=[.int x.1,.int x.2.1,.int x.2.2]
set_option genInjectivity false in
set_option genSizeOf false in
structure HNew(CB p:Addr)(H H':Hp)(A:HA)(d:Addr)(bs:List Addr)(xs:List (Int × Int × Int))(k:Nat)(F:Nat->Nat->Int)(w:Str)(c:Int)(ws:List Str):Prop where
 pu:H' A.pu=some (.lst ((vec xs.length fun i=>(xs.getD i (0,0,0)).1).map V.int))
 pl:H' A.pl=some (.lst ((vec xs.length fun i=>(xs.getD i (0,0,0)).2.1).map V.int))
 sh:H' A.sh=some (.lst ((vec xs.length fun i=>(xs.getD i (0,0,0)).2.2).map V.int))
 mv:H' A.mv=some (.lst (bs.map V.ref))
 rows:Rows H' bs k F
 ru:H' A.ru=some (.tup [.str w,.int c])
 od:H' A.od=some (.lst (ws.map V.str))
 bk:Bk CB H' A.bk d xs.length k 0 []
 ou:H' A.ou=some (.lst ((List.replicate xs.length false).map V.bl))
 re:H' A.re=some (.lst [])
 st:Stk p H H' (A.re :: A.ou :: d :: A.bk :: A.od :: A.ru :: (bs++[A.mv,A.sh,A.pl,A.pu]))
def zlr(K:Fg)(C CB CR CL:Addr):Sp:=fun vs H Q E=>∃(p dx ms mo ru od:Addr) (us:List V) (xs:List (Int × Int × Int)) (as:List Addr) (k:Nat) (F:Nat->Nat->Int) (w:Str) (c:Int) (ws:List Str) (own:Int),
 vs=[.ref p,.ref ms,.ref mo,.ref ru,.ref od,.int own]/\H p=some (.ins C dx [])/\H ms=some (.lst us)/\IsTs m3V H us xs/\xs.length<=1000/\H mo=some (.lst (as.map V.ref))/\Rows H as k F/\1<=as.length/\as.length<=1000/\0<k/\k<=1000/\H ru=some (.tup [.str w,.int c])/\H od=some (.lst (ws.map V.str))/\ws.length<=100 /\
 (zb7 w c as.length->OkO ws->∀A d bs H',NB p H H'->H' p=some (.ins C dx (hfl A own))->bs.length=as.length->HNew CB p H H' A d bs xs k F w c ws->Q .non H')/\(¬zb7 w c as.length->∀H',Same H H'->E (.ref CR) none H')/\(zb7 w c as.length->¬OkO ws->∀H',Same H H'->E (.ref CL) none H')
def mOk(n:Nat)(m:Int):Prop:=0<=m/\m<(n:Int)
def tOk(c:Int):Prop:=0<=c/\c<=1000000000
set_option genInjectivity false in
set_option genSizeOf false in
structure HC(C:Addr)(H:Hp)(h:Addr)(A:HA)(own:Int)(n:Nat)(P L:Nat->Int):Prop where
 ob:∃dx,H h=some (.ins C dx (hfl A own))
 pu:H A.pu=some (.lst ((vec n P).map V.int))
 pl:H A.pl=some (.lst ((vec n L).map V.int))
 ne:A.pu≠A.pl
def zbb(f:Nat->Int)(m:Int)(c:Int):Nat->Int:=fun i=>if i=m.toNat then f m.toNat+c else f i
def znr(C CM CT:Addr):Sp:=fun vs H Q E=>∃(h:Addr) (A:HA) (own m c:Int) (n:Nat) (P L:Nat->Int),vs=[.ref h,.int m,.int c]/\HC C H h A own n P L/\(mOk n m->tOk c->Q .non H)/\(¬mOk n m->E (.ref CM) none H)/\(mOk n m->¬tOk c->E (.ref CT) none H)
def zko(CP:Addr):Sp:=fun vs H Q E=>∃x y:Int,vs=[.int x,.int y]/\(y<=x->Q .non H)/\(x<y->E (.ref CP) none H)
def zjq(CB:Addr):Sp:=fun vs H Q E=>∃(x:Int) (r:Addr) (q:Rat),vs=[.int x,.ref r]/\IsQ H r q/\SzQ q 60000 60000/\sz x<=60000/\(¬(x:Rat)<q->∀H',Same H H'->Q .non H')/\((x:Rat)<q->∀H',Same H H'->E (.ref CB) none H')
def zna(C CM CT:Addr):Sp:=fun vs H Q E=>∃(h:Addr) (A:HA) (own m c:Int) (n:Nat) (P L:Nat->Int),vs=[.ref h,.int m,.int c]/\HC C H h A own n P L/\(mOk n m->tOk c->∀H',LBut A.pu H H'->H' A.pu=some (.lst ((vec n (zbb P m c)).map V.int))->Q .non H')/\(¬mOk n m->E (.ref CM) none H)/\(mOk n m->¬tOk c->E (.ref CT) none H)
def ziE(C CM CT CP:Addr):Sp:=fun vs H Q E=>∃(h:Addr) (A:HA) (own m c:Int) (n:Nat) (P L:Nat->Int),vs=[.ref h,.int m,.int c]/\HC C H h A own n P L/\(mOk n m->tOk c->c<=P m.toNat->∀H1 H',LBut A.pu H H1->H1 A.pu=some (.lst ((vec n (zbb P m (-c))).map V.int))->LBut A.pl H1 H'->H' A.pl=some (.lst ((vec n (zbb L m c)).map V.int))->Q .non H')/\(¬mOk n m->E (.ref CM) none H)/\(mOk n m->¬tOk c->E (.ref CT) none H)/\(mOk n m->tOk c->P m.toNat<c->E (.ref CP) none H)
def zl5(K:Fg)(C CB:Addr)(lP:Pos)(lQ:Str)(CM CT CP CR:Addr):Sp:=fun vs H Q E=>∃(h d:Addr) (A:HA) (own m c mm y:Int) (n:Nat) (P L:Nat->Int) (ts:List (T7 × Str)) (bs:List Addr) (k:Nat) (F:Nat->Nat->Int) (w:Str) (cr:Int),vs=[.ref h,.int m,.int c]/\HC C H h A own n P L/\HN K CB lP lQ H A d mm y ts bs k F w cr/\(mOk n m->tOk c->sz (L m.toNat-c)<=60000) /\
 (mOk n m->tOk c->c<=L m.toNat->∀H1 q,SameT H H1->TbW K "worst_days" lP lQ H1->Line (zai ts m k F) bs.length q->(((L m.toNat-c:Int):Rat)<zag w (zai ts m k F) q cr->E (.ref CR) none H1)/\(¬((L m.toNat-c:Int):Rat)<zag w (zai ts m k F) q cr->∀H2 H',LBut A.pl H1 H2->H2 A.pl=some (.lst ((vec n (zbb L m (-c))).map V.int))->LBut A.pu H2 H'->H' A.pu=some (.lst ((vec n (zbb P m c)).map V.int))->Q .non H')) /\
 (¬mOk n m->E (.ref CM) none H)/\(mOk n m->¬tOk c->E (.ref CT) none H)/\(mOk n m->tOk c->L m.toNat<c->E (.ref CP) none H)
section
variable {κ:Type}[DecidableEq κ]
end
abbrev KT(H:Hp):List (List Key × V)->List (List Key × Addr × Value)->Prop:=Paired fun p q=>p.1=q.1/\H q.2.1=some (.tup (p.1.map kV))/\RelV p.2 q.2.2
section
variable {P:Program}{w:World}{H:Hp}{h:Heap}{a:Addr}
end
section
variable {X:Cx}{pins:List (Addr × Obj)}{σ:St}{H:Hp}{s:Shared}{a:Addr}{y v:V}{u r:Value}{o:Option V}{A:Around}{E:Value->Shared->Prop}
end
section
variable {X:Cx}{pins:List (Addr × Obj)}{σ:St}{H:Hp}{s:Shared}{a:Addr}{kvs:List (Key × V)}{k:Key}{u:Value}{A:Around}{E:Value->Shared->Prop}
end
section
variable {X:Cx}{o i e value:Expr}{pos pos' tpos:Pos}{td ty tv:TE}
end
section
variable {X:Cx}{pos:Pos}
end
abbrev VV:List (V × V)->List (Value × Value)->Prop:=Paired fun p q=>RelV p.1 q.1/\RelV p.2 q.2
set_option genInjectivity false in
set_option genSizeOf false in
structure M1(X:Cx)(o:Expr)(m:Str)(apos:Pos)(e:Expr)(cpos:Pos):Prop where
 base:attributeBase o m X.env (eval o X.env)=eval o X.env
 few:((backTo cpos (starEach [e] X.env)).all (fun x=>!x.1)&&(backToKw cpos (keywordEach [] X.env)).all (fun x=>x.1.isSome)
  && decide (([e]:List Expr).length+([]:List Keyword).length+(if([]:List Keyword).isEmpty then 0 else 1)<30))=true
 line:(apos.endLine == cpos.line)=true
 trees:backTo cpos (starEach [e] X.env)=[(false,eval e X.env)]
set_option genInjectivity false in
set_option genSizeOf false in
structure M2(X:Cx)(o:Expr)(m:Str)(apos:Pos)(e f:Expr)(cpos:Pos):Prop where
 base:attributeBase o m X.env (eval o X.env)=eval o X.env
 few:((backTo cpos (starEach [e,f] X.env)).all (fun x=>!x.1)&&(backToKw cpos (keywordEach [] X.env)).all (fun x=>x.1.isSome)
  && decide (([e,f]:List Expr).length+([]:List Keyword).length+(if([]:List Keyword).isEmpty then 0 else 1)<30))=true
 line:(apos.endLine == cpos.line)=true
 trees:backTo cpos (starEach [e,f] X.env)=[(false,eval e X.env),(false,eval f X.env)]
section
variable {X:Cx}{pins:List (Addr × Obj)}{σ:St}{H:Hp}{s:Shared}{a:Addr}{y d:V}{u r:Value}{o:Option V}{A:Around}{E:Value->Shared->Prop}
end
section
variable {X:Cx}{o e f:Expr}{apos cpos:Pos}{td ty tx:TE}
end
section
variable {X:Cx}{pins:List (Addr × Obj)}{σ:St}{H:Hp}{s:Shared}{a:Addr}{kvs:List (Key × V)}{A:Around}{E:Value->Shared->Prop}
end
section
variable {X:Cx}{pins:List (Addr × Obj)}{σ:St}{H:Hp}{s:Shared}{a:Addr}{y:V}{u:Value}{A:Around}{E:Value->Shared->Prop}
end
instance (n:Nat) (m:Int):Decidable (mOk n m):=inferInstanceAs (Decidable (_/\_))
instance (c:Int):Decidable (tOk c):=inferInstanceAs (Decidable (_/\_))
def dK(wd:Str)(n:Nat)(P L:Nat->Int)(m c:Int):Nat:=if ¬mOk n m then 1 else if ¬tOk c then 2 else if(wd = "free" /\ L m.toNat<c)\/((wd = "take" \/ wd = "lay")/\P m.toNat<c)then 3 else 0
section
variable {wd:Str}{n:Nat}{P L:Nat->Int}{m c:Int}
def BdF(n:Nat)(f:Nat->Int)(B:Int):Prop:=∀i,i<n->0<=f i/\f i<=B
end
set_option genInjectivity false in
set_option genSizeOf false in
structure HX where
 h:Addr
 ro:Addr
 d:Addr
 mr:Addr
 A:HA
 as:List Addr
 own:Int
 n:Nat
 S:Nat->Int
 zs:List (Addr × List V)
def mvF:Nat->Nat->Int:=fun _ j=>if j=0 then 1 else -1
set_option genInjectivity false in
set_option genSizeOf false in
structure HD(H0:Hp)(X:HX):Prop where
 n1:X.A.pu≠X.A.pl
 n2:∀x∈[X.A.sh,X.d,X.A.mv,X.mr,X.ro],x≠X.A.pu/\x≠X.A.pl
 n3:∀c∈X.as,c≠X.A.pu/\c≠X.A.pl/\c∉[X.A.sh,X.d,X.A.mv,X.mr,X.ro]
 f1:H0 X.A.pu=none
 f2:H0 X.A.pl=none
 f3:∀c∈X.as,H0 c=none
 n4:∀z∈X.zs,z.1≠X.A.pu/\z.1≠X.A.pl/\z.1∉X.as
set_option genInjectivity false in
set_option genSizeOf false in
structure HW(K:Fg)(C CB:Addr)(lP:Pos)(lQ:Str)(H0:Hp)(X:HX)(H:Hp)(P L:Nat->Int)(R:Nat->Nat->Int):Prop where
 hd:HD H0 X
 e0:SameT H0 H
 hc:HC C H X.h X.A X.own X.n P L
 sh:H X.A.sh=some (.lst ((vec X.n X.S).map V.int))
 hn:HN K CB lP lQ H X.A X.d X.n 0 [] [X.mr] 2 mvF "mean" 1
 ro:H X.ro=some (.lst (X.as.map V.ref))
 rw:Rows H X.as 3 R
 al:X.as.length=X.n
 zl:∀z∈X.zs,H z.1=some (.lst z.2)
section
variable {K:Fg}{C CB:Addr}{lP:Pos}{lQ:Str}{H0:Hp}{X:HX}{H H':Hp}{P L P' L':Nat->Int}{R:Nat->Nat->Int}
end
def HX.on(X:HX)(z:Addr)(xs:List V):HX:={ X with zs:=[(z,xs)] }
section
variable (K:Fg)(C CB:Addr)(lP:Pos)(lQ:Str)
end
theorem BdF.mono{n:Nat}{f:Nat->Int}{B B':Int}(h:BdF n f B)(hb:B<=B'):BdF n f B':=fun i hi=>by have:=h i hi;omega
def znM(m w:Int)(ts:List (T7 × Str)):Prop:=∀t∈ts,TermOk m w 0 t.1
set_option genInjectivity false in
set_option genSizeOf false in
structure BQ(C:Addr)(H:Hp)(b d ro:Addr)(m w y:Int)(ts:List (T7 × Str))(as:List Addr):Prop where
 B:Bk C H b d m w y ts
 ro:H ro=some (.lst (as.map V.ref))
 R:DRows H as ts
 s:St3 ts
 g:znM m w ts
def zg0(C CN CG CS:Addr):Sp:=fun vs H Q E=>∃(b d:Addr) (m w y n:Int) (ts:List (T7 × Str)),vs=[.ref b,.int n]/\Bk C H b d m w y ts /\
 ((∃t,0<=n/\ts[n.toNat]?=some t/\¬t.2=("broken" : Str)/\¬t.2=("settled" : Str)/\∀H',Bk C H' b d m w y (ts.set n.toNat (t.1, "broken"))->ButL d H H'->Q .non H') \/
  (¬(0<=n/\n<ts.length)/\E (.ref CN) none H)\/(∃t,0<=n/\ts[n.toNat]?=some t/\t.2=("broken" : Str)/\E (.ref CG) none H)\/(∃t,0<=n/\ts[n.toNat]?=some t/\t.2=("settled" : Str)/\E (.ref CS) none H))
def zdg(ts:List (T7 × Str))(n:Int)(wa u:Int)(j:Nat):Int:=if j=wa.toNat then zaf ts n wa.toNat+u else zaf ts n j
def zbu(ts:List (T7 × Str))(m wa u:Int)(k:Nat)(F:Nat->Nat->Int)(i:Nat):Int:=zaq k (zdg ts m wa u) (F i)
def zlx(K:Fg)(C CB:Addr)(lP:Pos)(lQ:Str):Sp:=fun vs H Q _=>∃(h dx d:Addr) (A:HA) (own m y n wa u:Int) (ts:List (T7 × Str)) (bs:List Addr) (k:Nat) (F:Nat->Nat->Int) (w:Str) (c:Int),vs=[.ref h,.int n,.int wa,.int u]/\H h=some (.ins C dx (hfl A own))/\HN K CB lP lQ H A d m y ts bs k F w c/\0<=wa/\wa<(k:Int)/\-1000000<=u/\u<=1000000 /\
 ∀r H' q,SameT H H'->TbW K "worst_days" lP lQ H'->Line (zbu ts n wa u k F) bs.length q->IsQ H' r (zag w (zbu ts n wa u k F) q c)->SzQ (zag w (zbu ts n wa u k F) q c) 100 10->Q (.ref r) H'
def zmg(C CB:Addr):Sp:=fun vs H Q _=>∃(h dx d:Addr) (A:HA) (own m y n:Int) (w:Nat) (ts:List (T7 × Str)),vs=[.ref h,.int n]/\H h=some (.ins C dx (hfl A own))/\Bk CB H A.bk d m (w:Int) y ts/\(∀t∈ts,0<=t.1.w/\t.1.w<(w:Int))/\w<=1000/\∀p H',H p=none->Same H H'->H' p=some (.lst ((vec w (zaf ts n)).map V.int))->Q (.ref p) H'
def zlS(C CB CE:Addr):Sp:=fun vs H Q E=>∃(h dx dxb d:Addr) (A:HA) (own m w y n:Int) (xs:List V),vs=[.ref h,.int n]/\H h=some (.ins C dx (hfl A own))/\H A.bk=some (.ins CB dxb (bfl m w y d))/\H d=some (.lst xs)/\((0<=n/\∃v,xs[n.toNat]?=some v/\Q v H)\/(¬(0<=n/\n<xs.length)/\E (.ref CE) none H))
def zjB(C CB CN CG CS:Addr):Sp:=fun vs H Q E=>∃(h dx d:Addr) (A:HA) (own m w y n:Int) (ts:List (T7 × Str)) (t:T7 × Str),vs=[.ref h,.int n]/\H h=some (.ins C dx (hfl A own))/\Bk CB H A.bk d m w y ts/\0<=n/\ts[n.toNat]?=some t/\t.2=("standing" : Str)/\∀H',Bk CB H' A.bk d m w y (ts.set n.toNat (t.1, "broken"))->ButL d H H'->Q .non H'
def zis(K:Fg)(C CB:Addr)(lP:Pos)(lQ:Str)(CM CT CR:Addr):Sp:=fun vs H Q E=>∃(h d:Addr) (A:HA) (own y:Int) (n:Nat) (P L:Nat->Int) (t:T7) (xs:List V) (ts:List (T7 × Str)) (bs:List Addr) (k:Nat) (F:Nat->Nat->Int) (w:Str) (cr:Int),vs=.ref h :: za2 t/\HC C H h A own n P L/\HN K CB lP lQ H A d (n:Int) y ts bs k F w cr/\H d=some (.lst xs)/\xs.length<=1000/\H A.ou=some (.lst ((List.replicate n false).map V.bl))/\(∀i,i<n->sz (L i)<=60000)/\(zaB (k:Int) t->y<=t.y) /\
 (¬zbd (n:Int) t.p t.q->∀H',Same H H'->E (.ref CM) none H') /\
 (zbd (n:Int) t.p t.q->¬zaB (k:Int) t->∀H',Same H H'->E (.ref CT) none H') /\
 (zbd (n:Int) t.p t.q->zaB (k:Int) t ->
  (∀H1 q1,SameT H H1->TbW K "worst_days" lP lQ H1->Line (zbu ts t.p t.w t.u k F) bs.length q1->((L t.p.toNat:Int):Rat)<zag w (zbu ts t.p t.w t.u k F) q1 cr->E (.ref CR) none H1) /\
  (∀H1 q1 q2,SameT H H1->TbW K "worst_days" lP lQ H1->Line (zbu ts t.p t.w t.u k F) bs.length q1->Line (zbu ts t.q t.w (-t.u) k F) bs.length q2->¬((L t.p.toNat:Int):Rat)<zag w (zbu ts t.p t.w t.u k F) q1 cr->((L t.q.toNat:Int):Rat)<zag w (zbu ts t.q t.w (-t.u) k F) q2 cr->E (.ref CR) none H1) /\
  (∀H1 q1 q2 a H2 H3,SameT H H1->TbW K "worst_days" lP lQ H1->Line (zbu ts t.p t.w t.u k F) bs.length q1->Line (zbu ts t.q t.w (-t.u) k F) bs.length q2->¬((L t.p.toNat:Int):Rat)<zag w (zbu ts t.p t.w t.u k F) q1 cr->¬((L t.q.toNat:Int):Rat)<zag w (zbu ts t.q t.w (-t.u) k F) q2 cr->Same H1 H2->H2 a=some (.tup (zbs (t,("standing" : Str))))->LBut d H2 H3->H3 d=some (.lst (xs++[.ref a]))->Q (.int xs.length) H3))
def ze2(K:Fg):Sp:=fun vs H Q _=>∃(a:Addr) (ns:List Int) (k:Int),vs=[.ref a,.int k]/\SqL K H a (ns.map V.int)/\0<=k/\k<=5000/\∀i,0<=i->i<=1000000000->Q (.int i) H
def zgI:=fun {K:Fg} {a:Addr} {ns:List Int} {k:Int} {H:Hp} {Q:VK} {E:XK} h h0 h1 q=>@id (ze2 K [.ref a,.int k] H Q E) ⟨a,ns,k,rfl,h,h0,h1,q⟩
theorem zgs{f g:Nat->Int}:∀k,0-zcc (vec k fun j=>f j*g j)=zaq k f g
 | 0=>rfl
 | k+1=>by
  rw[zaF,zc4,zex,<- zgs k];omega
def zjp(K:Fg):Sp:=fun vs H Q _=>∃(a:Addr) (ns:List Int) (st n k:Int),vs=[.ref a,.int st,.int n,.int k]/\SqL K H a (ns.map V.int)/\0<=st/\st<=1000/\1<=n/\n<=60/\1<=k/\k<=9 /\
 ∀l H' as F,H l=none->Same H H'->H' l=some (.lst (as.map V.ref))->as.length=n.toNat->Rows H' as k.toNat F->WithinR 1000000 n.toNat k.toNat F->(∀b∈as,H b=none)->Q (.ref l) H'
def zjG(K:Fg):Sp:=fun vs H Q _=>∃(p l:Addr) (k:Nat) (f g:Nat->Int) (m:Int),vs=[.ref p,.ref l]/\H p=some (.lst ((vec k f).map V.int))/\H l=some (.lst ((vec k g).map V.int))/\Within m k f/\Within m k g/\m<=999999999999/\k<=1000/\∀H',Same H H'->Q (.int (zaq k f g)) H'
theorem zkI{L:Nat->Int}{q:List Nat}{c:Nat}(h:c<=q.length):(q.map L).take c=vec c fun i=>L (q.getD i 0):=by
 refine yaN fun i=>?_
 rw[List.getElem?_take]
 by_cases hi:i<c
 ·rw[if_pos hi,yh,zbf hi,yi,yr (by omega)];rfl
 ·rw[if_neg hi,List.getElem?_eq_none (by rw[zO];omega)]
theorem zd9{L:Nat->Int}{n:Nat}{q:List Nat}{ms:List Int}(h:Line L n q)(hn:n<=64)(hp:ms.Perm (vec n L))(hs:ms.Pairwise (·≥·)):ms=q.map L:=by
 have p2:(q.map L).Perm (vec n L):=h.perm.map L
 have s2:(q.map L).Pairwise (·≥·):=by
  rw[List.pairwise_iff_getElem]
  intro i j hi hj hij
  rw[ya]at hi hj
  have:=h.mono hn (a:=i) (b:=j) (by omega) (by rw[<- h.len];exact hj)
  rw[yi,yi,yr hi,yr hj]at this
  rw[List.getElem_map,List.getElem_map]
  exact this
 exact List.Perm.eq_of_pairwise (fun a b _ _ h1 h2=>by omega) hs s2 (hp.trans p2.symm)
theorem zgU{X:Cx}{p pos kp cp lp:Pos}{elt:Expr}{gens:List Comprehension}{sc:Scope}{ta:TA}{kn:Nat}(hg:Gl X "sorted")(hm:X.mg "sorted" = none)(hv:bootBuiltins "sorted" = some (.builtin "sorted"))(ha:PA X [.ListComp elt gens sc lp] ta):PE X (.Call (.Name "sorted" p) [.ListComp elt gens sc lp] [⟨some "reverse",.Constant (.bool true) kn cp,kp⟩] pos) (tCB (zec X.K) ta):=zhZ hg hm hv ha
theorem zd6{d n:Int}(hn:0<n):0<Rat.divInt d n↔0<d:=by
 have e:=yah d n
 have hp:(0:Rat)<((n:Int):Rat):=by exact_mod_cast hn
 have hc:Rat.divInt d n*((n:Int):Rat)=((d:Int):Rat):=by
  rw[e]
  refine yat fun z=>?_
  rw[z]at hp;exact absurd hp (by decide)
 constructor
 ·intro h
  have:=Rat.mul_pos h hp
  rw[hc]at this
  exact_mod_cast this
 ·intro h
  rcases Classical.em (0<Rat.divInt d n)with z | z
  ·exact z
  ·have z':Rat.divInt d n<=0:=Rat.not_lt.mp z
   have h1:=yaE z' (Rat.le_of_lt hp)
   rw[hc,Rat.zero_mul]at h1
   have:d<=0:=by exact_mod_cast h1
   omega
section
variable {X:Cx}
def zeX(K:Fg):List V->Hp->VK->Prop:=fun xs H Q=>∃a ns,xs=[.ref a]/\SqL K H a (List.map V.int ns)/\ns≠[]/\∀x,x∈ns->(∀y∈ns,y<=x)->Q (.int x) H
theorem zdE(hc:X.calm=true):CallR X (.builtin "max") (zeX X.K):=by
 intro pins s σ H xs us Q I r h
 obtain⟨a,ns,rfl,hq,hne0,q⟩:=h
 obtain⟨u,rfl,r1⟩:=vals1 r
 cases r1
 obtain⟨its,rv,pl,hl,hlt⟩:=I.walk hq
 refine call_max_walkS (wpAny_pyIter_list pl ?_)
 have hne:a≠s.heap.objs.size:=yn hlt
 have hn:(its.toArray).size=ns.length:=by rw[ya]at hl;simpa using hl
 have hpos:0<ns.length:=List.length_pos_iff.mpr hne0
 refine⟨_,_,_,_,_,_,_,_,rfl,(Walks.list (prog:=X.prog) (w:=X.w) (A:=X.A.in1) (I.ok.hd hc) s.heap.objs.size a hne its.toArray).toS,⟨⟨_,Heap.get?_push_size _ rfl,rfl,rfl⟩,pl.at fun o e=>Heap.get?_push_of_some _ e⟩,fun b hb=>?_,by rw[hn];exact hpos,CmpOf.ints_gt (fun i=>ns.getD i 0) (fun i v hv=>zdD rv hv),fun v s' hv hm=>?_⟩
 ·rw[Heap.size_push]
  simp only[yf,yz,or_false]at hb
  rcases hb with rfl | rfl
  ·exact y3 _
  ·exact yaM hlt
 ·obtain⟨t,rfl⟩:=zdD rv hv
  obtain⟨b1,b2⟩:=argBest_gt (fun i=>ns.getD i 0) (its.toArray.size-1)
  rw[hn]at b1 b2 ⊢
  have hg:s'.gens=s.gens:=by have:=hm.gens;first | exact this | exact this.symm
  have hd:=hm.drawn
  have ho:=hm.os
  have I1:Inv X pins σ H { s with heap:=s'.heap,toks:=s'.toks }:=I.kept fun b o e=>hm.heap b o (fun z=>by
   simp only[yf,yz,or_false]at z
   subst z
   exact absurd (Heap.lt_size e) (yN _)) (Heap.get?_push_of_some _ e)
  have e:({ s with heap:=s'.heap,toks:=s'.toks }:Shared)=s':=by
   cases s';cases s
   simp only at hg hd ho
   subst hg hd ho;rfl
  rw[e]at I1
  refine⟨.int (ns.getD (argBest (fun i j=>decide (ns.getD i 0>ns.getD j 0)) (ns.length-1)) 0),H,I1,⟨t,rfl⟩,q _ ?_ fun y hy=>?_⟩
  ·exact yq (zgC (by omega))
  ·obtain⟨i,hi,ei⟩:=yZ hy
   have:=b2 i (by omega)
   rwa [show ns.getD i 0=y by rw[yi,yr hi,ei];rfl]at this
def zhL:List V->Hp->VK->Prop:=fun xs H Q=>∃i j k,xs=[.int i,.int j,.int k]/\Q (.int (if j<i then(if k<j then k else j) else(if k<i then k else i))) H
theorem vals3{x y z:V}{us:List Value}(r:Vals [x,y,z] us):∃u w' w'',us=[u,w',w'']/\RelV x u/\RelV y w'/\RelV z w'':=by
 cases r with
 | cons r1 r2=>
  obtain⟨a,b,rfl,h1,h2⟩:=vals2 r2
  exact⟨_,_,_,rfl,r1,h1,h2⟩
theorem zi2(hc:X.calm=true):CallR X (.builtin "min") zhL:=by
 intro pins s σ H xs us Q I r h
 obtain⟨i,j,k,rfl,q⟩:=h
 obtain⟨u,w',w'',rfl,⟨t,rfl⟩,⟨t',rfl⟩,⟨t'',rfl⟩⟩:=vals3 r
 refine min_three_ints (I.ok.hd hc) fun h' tk k'=>⟨_,H,I.kept k',?_,q⟩
 by_cases hj:j<i
 ·rw[if_pos hj,if_pos hj]
  by_cases hk:k<j
  ·rw[if_pos hk,if_pos hk];exact⟨_,rfl⟩
  ·rw[if_neg hk,if_neg hk];exact⟨_,rfl⟩
 ·rw[if_neg hj,if_neg hj]
  by_cases hk:k<i
  ·rw[if_pos hk,if_pos hk];exact⟨_,rfl⟩
  ·rw[if_neg hk,if_neg hk];exact⟨_,rfl⟩
end
theorem zgN{K:Fg}{H:Hp}{Q:VK}{a:Addr}{ns:List Int}(h:SqL K H a (ns.map V.int))(ne:ns≠[])(q:∀x,x∈ns->(∀y∈ns,y<=x)->Q (.int x) H):zeX K [.ref a] H Q:=⟨a,ns,rfl,h,ne,q⟩
theorem zmG{H:Hp}{Q:VK}{i j k:Int}(q:∀x,x<=i->x<=j->x<=k->(x=i\/x=j\/x=k)->Q (.int x) H):zhL [.int i,.int j,.int k] H Q:=⟨i,j,k,rfl,q _ (by split<;>split<;>omega) (by split<;>split<;>omega) (by split<;>split<;>omega) (by split<;>split<;>omega)⟩
def zcr(a b:Int):Int:=0-(0-a)/b
theorem zlc{x a b:Int}(hb:0<b):((x:Int):Rat)<Rat.divInt a b↔x*b<a:=by
 have hp:(0:Rat)<((b:Int):Rat):=by exact_mod_cast hb
 have hc:Rat.divInt a b*((b:Int):Rat)=((a:Int):Rat):=by
  rw[yah]
  exact yat fun z=>by rw[z]at hp;exact absurd hp (by decide)
 constructor
 ·intro h
  have:=yaJ h hp
  rw[hc]at this
  exact_mod_cast this
 ·intro h
  rcases Classical.em (((x:Int):Rat)<Rat.divInt a b)with z | z
  ·exact z
  ·have h1:=yaE (Rat.not_lt.mp z) (Rat.le_of_lt hp)
   rw[hc]at h1
   have:a<=x*b:=by exact_mod_cast h1
   omega
theorem zdT{x a b:Int}(hb:0<b):((x:Int):Rat)<Rat.divInt a b↔x<zcr a b:=by
 rw[zlc hb]
 unfold zcr
 have h1:=yal (0-a) b
 have h2:=yR (0-a) (b:=b) (by omega)
 have h3:=yL (0-a) hb
 generalize (0-a)/b=c at *
 generalize (0-a)%b=r at *
 constructor
 ·intro h
  rcases Classical.em (x<0-c)with z | z
  ·exact z
  ·have:(0-c)*b<=x*b:=yK (by omega) (by omega)
   rw[Int.sub_mul,Int.zero_mul,Int.mul_comm c b]at this
   omega
 ·intro h
  have:x*b<=(0-c-1)*b:=yK (by omega) (by omega)
  rw[Int.sub_mul,Int.sub_mul,Int.zero_mul,Int.mul_comm c b,Int.one_mul]at this
  omega
theorem zkL{a b:Int}(hb:0<b):(a+b-1)/b=zcr a b:=by
 unfold zcr
 have h1:=yal (0-a) b
 have h2:=yR (0-a) (b:=b) (by omega)
 have h3:=yL (0-a) hb
 have g1:=yal (a+b-1) b
 have g2:=yR (a+b-1) (b:=b) (by omega)
 have g3:=yL (a+b-1) hb
 generalize (0-a)/b=c at *
 generalize (0-a)%b=r at *
 generalize (a+b-1)/b=d at *
 generalize (a+b-1)%b=s at *
 have e:b*(c+d)=b*c+b*d:=Int.mul_add ..
 rcases Int.lt_trichotomy (c+d) 0 with z | z | z
 ·have:b*(c+d)<=b*(-1):=yaF (by omega) (by omega)
  omega
 ·omega
 ·have:b*1<=b*(c+d):=yaF (by omega) (by omega)
  omega
def zaK(x:Int):Int:=if x>0 then x else 0
set_option genInjectivity false in
set_option genSizeOf false in
structure IsNd(w:Str)(L:Nat->Int)(n:Nat)(c a b:Int):Prop where
 a0:0<=a
 a1:a<=1000000000000000000000000000
 b0:1<=b
 b1:b<=64
 q:∀q,Line L n q->zag w L q c=Rat.divInt a b
theorem zih{L:Nat->Int}{q:List Nat}{c:Int}:zag "worst" L q c=Rat.divInt (zaK (L (q.getD (c.toNat-1) 0))) 1:=by
 unfold zag zcM pos0 zaK
 rw[show decide (("worst" : Str) = "mean")=false by decide +kernel,if_neg (show ¬false=true by decide)]
 have e:∀x:Int,Rat.divInt x 1=((x:Int):Rat):=fun x=>by rw[yah];show((x:Int):Rat)/1=_;grind
 rw[e]
 by_cases h:L (q.getD (c.toNat-1) 0)>0
 ·rw[if_pos h,if_pos (by exact_mod_cast h)]
 ·rw[if_neg h,if_neg (fun z=>h (by exact_mod_cast z))];rfl
theorem zi6{L:Nat->Int}{q:List Nat}{c:Int}(hc:1<=c):zag "mean" L q c=Rat.divInt (zaK (lsum L (q.take c.toNat))) c:=by
 unfold zag zcM pos0 zaK
 rw[show decide (("mean" : Str) = "mean")=true by decide +kernel,if_pos rfl,show((c.toNat:Nat):Int)=c by omega]
 by_cases h:lsum L (q.take c.toNat)>0
 ·rw[if_pos h,if_pos ((zd6 (by omega)).mpr h)]
 ·rw[if_neg h,if_neg (fun z=>h ((zd6 (by omega)).mp z)),Rat.zero_divInt]
theorem zmZ(x:Int)(xs:List Int):zcc (x :: xs)=x+zcc xs:=by
 have:∀(ys:List Int) (a:Int),ys.foldl (·+·) a=a+ys.foldl (·+·) 0:=fun ys=>by
  induction ys with
  | nil=>intro a;show a=a+0;omega
  | cons z ys ih=>intro a;rw[yaB,yaB,ih (a+z),ih (0+z)];omega
 show(x :: xs).foldl (·+·) 0=x+xs.foldl (·+·) 0
 rw[yaB,this xs (0+x)];omega
theorem zhp{B:Int}:∀{xs:List Int},(∀x∈xs,x<=B)->zcc xs<=(xs.length:Int)*B
 | [],_=>by show(0:Int)<=(0:Int)*B;omega
 | x :: xs,h=>by
  have h1:=h x (.head _)
  have h2:=zhp (xs:=xs) fun y hy=>h y (.tail _ hy)
  rw[zmZ,yM,Int.natCast_add,Int.add_mul]
  show x+zcc xs<=_+1*B
  omega
theorem zh3{L:Nat->Int}{n:Nat}{c:Int}{ms:List Int}{x:Int}(hn:n<=64)(hp:ms.Perm (vec n L))(hs:ms.Pairwise (·≥·))(c0:1<=c)(c1:c<=n)(hx:ms[(c-1).toNat]?=some x)(hb:∀i,i<n->L i<=9000000000000000000000000):IsNd "worst" L n c (zaK x) 1:=by
 have hm:x∈vec n L:=hp.mem_iff.mp (yq hx)
 have hxb:x<=9000000000000000000000000:=by
  unfold vec at hm
  obtain⟨i,hi,e⟩:=yas.mp hm
  rw[<- e];exact hb i (y8.mp hi)
 refine⟨by unfold zaK;split<;>omega,by unfold zaK;split<;>omega,by omega,by omega,fun q hL=>?_⟩
 have e:=zd9 hL hn hp hs
 rw[e,yh]at hx
 rw[zih,yi,show c.toNat-1=(c-1).toNat by omega]
 cases h:q[(c-1).toNat]? with
 | none=>rw[h]at hx;cases hx
 | some d=>rw[h]at hx;rw[<- yo hx];rfl
theorem ziA{L:Nat->Int}{n:Nat}{c:Int}{ms:List Int}(hn:n<=64)(hp:ms.Perm (vec n L))(hs:ms.Pairwise (·≥·))(c0:1<=c)(c1:c<=n)(hb:∀i,i<n->L i<=9000000000000000000000000):IsNd "mean" L n c (zaK (zcc (ms.take c.toNat))) c:=by
 have hxb:∀x∈ms.take c.toNat,x<=9000000000000000000000000:=fun x hx=>by
  have hm:=hp.mem_iff.mp (List.mem_of_mem_take hx)
  unfold vec at hm
  obtain⟨i,hi,e⟩:=yas.mp hm
  rw[<- e];exact hb i (y8.mp hi)
 have h1:=zhp hxb
 have h2:((ms.take c.toNat).length:Int)<=64:=by rw[yU];omega
 have h3:=yK h2 (show(0:Int)<=9000000000000000000000000 by decide)
 refine⟨by unfold zaK;split<;>omega,by unfold zaK;split<;>omega,c0,by omega,fun q hL=>?_⟩
 have e:=zd9 hL hn hp hs
 rw[zi6 c0,e,zkI (by rw[hL.len];omega),zeq,<- zdM _ _ _ (by rw[hL.len];omega)]
def zkx(K:Fg):Sp:=fun vs H Q _=>∃(p ru l:Addr) (w:Str) (c:Int) (as:List Addr) (k:Nat) (f:Nat->Int) (F:Nat->Nat->Int) (m:Int),vs=[.ref p,.ref ru,.ref l]/\H p=some (.lst ((vec k f).map V.int))/\H ru=some (.tup [.str w,.int c])/\H l=some (.lst (as.map V.ref))/\Rows H as k F/\Within m k f/\WithinR m as.length k F/\m<=999999999999/\k<=9/\as.length<64/\zb7 w c as.length /\
 ∀r H' a b,H r=none->Same H H'->H' r=some (.tup [.int a,.int b])->IsNd w (fun i=>zaq k f (F i)) as.length c a b->Q (.ref r) H'
set_option genInjectivity false in
set_option genSizeOf false in
structure KD8(n k:Int)(t:T7 × Str):Prop where
 p0:0<=t.1.p
 p1:t.1.p<n
 q0:0<=t.1.q
 q1:t.1.q<n
 pq:t.1.p≠t.1.q
 w0:0<=t.1.w
 w1:t.1.w<k
 u0:1<=t.1.u
 u1:t.1.u<=1000000
 st:t.2=("standing" : Str)\/t.2=("broken" : Str)
theorem KD8.lay{n k:Int}{t:T7 × Str}(h:KD8 n k t):PyData.canLay0 (.str t.2)=true:=by
 rcases h.st with e | e<;>rw[e]<;>decide +kernel
def zlE:Sp:=fun vs H Q _=>∃(ro:Addr) (n k:Int) (us:List (T7 × Str)) (as:List Addr),vs=[.ref ro,.int n,.int k]/\H ro=some (.lst (as.map V.ref))/\DRows H as us/\(∀t∈us,KD8 n k t)/\0<=n/\n<=100/\1<=k/\k<=100/\us.length<=1000 /\
 ∀r H' ps,H r=none->Same H H'->H' r=some (.lst (ps.map V.ref))->ps.length=n.toNat->Rows H' ps k.toNat (fun i=>zaf us (i:Int))->(∀b∈ps,H b=none)->Q (.ref r) H'
theorem zju{t:T7 × Str}{j:Nat}(hs:t.2=("standing" : Str))(w0:0<=t.1.w):zaV t t.1.p j=if j=t.1.w.toNat then t.1.u else 0:=by
 unfold zaV
 by_cases h:j=t.1.w.toNat
 ·rw[if_pos ⟨hs,by omega⟩,if_pos rfl,if_pos h]
 ·rw[if_neg (fun z=>h (by have:=z.2;omega)),if_neg h]
theorem zin{t:T7 × Str}{j:Nat}(hs:t.2=("standing" : Str))(w0:0<=t.1.w)(pq:t.1.p≠t.1.q):zaV t t.1.q j=if j=t.1.w.toNat then -t.1.u else 0:=by
 unfold zaV
 by_cases h:j=t.1.w.toNat
 ·rw[if_pos ⟨hs,by omega⟩,if_neg pq,if_pos rfl,if_pos h]
 ·rw[if_neg (fun z=>h (by have:=z.2;omega)),if_neg h]
theorem zno{t:T7 × Str}{m:Int}{j:Nat}(h1:t.1.p≠m)(h2:t.1.q≠m):zaV t m j=0:=by
 unfold zaV
 rw[if_neg h1,if_neg h2];split<;>rfl
theorem zm8{t:T7 × Str}{m:Int}{j:Nat}(h:¬t.2=("standing" : Str)):zaV t m j=0:=by
 unfold zaV
 rw[if_neg fun z=>h z.1]
theorem zfj{ts:List (T7 × Str)}{t:T7}{k:Nat}{F:Nat->Nat->Int}(w0:0<=t.w):zbu ts t.p t.w t.u k F=zai (ts++[(t,("standing" : Str))]) t.p k F:=by
 funext i
 unfold zbu zai
 congr 1
 funext j
 rw[zee]
 show zdg ts t.p t.w t.u j=_+(zaV (t,("standing" : Str)) t.p j+0)
 rw[show zaV (t,("standing" : Str)) t.p j=_ from zju (t:=(t,("standing" : Str))) rfl w0]
 unfold zdg
 split
 ·rename_i h;rw[<- h];show _+t.u=_+(t.u+0);omega
 ·omega
theorem zht{ts:List (T7 × Str)}{t:T7}{k:Nat}{F:Nat->Nat->Int}(w0:0<=t.w)(pq:t.p≠t.q):zbu ts t.q t.w (-t.u) k F=zai (ts++[(t,("standing" : Str))]) t.q k F:=by
 funext i
 unfold zbu zai
 congr 1
 funext j
 rw[zee]
 show zdg ts t.q t.w (-t.u) j=_+(zaV (t,("standing" : Str)) t.q j+0)
 rw[show zaV (t,("standing" : Str)) t.q j=_ from zin (t:=(t,("standing" : Str))) rfl w0 pq]
 unfold zdg
 split
 ·rename_i h;rw[<- h];show _ + -t.u=_+(-t.u+0);omega
 ·omega
def zhy:Sp:=fun vs H Q _=>∃(r t:Addr) (q:Rat) (a b:Int),vs=[.ref r,.ref t]/\IsQ H r q/\H t=some (.tup [.int a,.int b])/\SzQ q 100 10/\0<=a/\a<=1000000000000000000000000000/\1<=b/\b<=64/\q=Rat.divInt a b/\∀H',Same H H'->Q (.bl true) H'
theorem LBut.l{l:Addr}{H H':Hp}(g:LBut l H H'):ButL l H H':=⟨fun b o n q=>g.1.at q n,g.2⟩
theorem ButL.sameT{l:Addr}{H0 H H':Hp}(g:ButL l H H')(e:SameT H0 H)(h:H0 l=none):SameT H0 H':=
 ⟨fun b o q n=>g.1 b o (zG q h) (e.keep b o q n),fun b ps q=>by obtain⟨ps',q'⟩:=e.tb b ps q;exact⟨ps',g.1 b _ (zG q h) q'⟩⟩
theorem ButL.tb{l:Addr}{H H':Hp}{K:Fg}{x qual:Str}{pos:Pos}(g:ButL l H H')(h:TbW K x pos qual H):TbW K x pos qual H':=by
 obtain⟨ys,e⟩:=g.2
 obtain⟨ps,h1,h2,h3⟩:=h
 refine⟨ps,g.1 _ _ (za0 h1 e (by intro z;cases z)) h1,h2,h3.imp id fun⟨c,a,b⟩=>⟨c,a,g.1 _ _ (za0 b e (by intro z;cases z)) b⟩⟩
theorem Rows.butL{l:Addr}{H H':Hp}{as:List Addr}{k:Nat}{F:Nat->Nat->Int}(h:Rows H as k F)(g:ButL l H H')(n:l∉as):Rows H' as k F:=
 ⟨h.1,fun i a q=>g.at (h.2 i a q) fun z=>n (z▸yq q)⟩
theorem HN.butL{K:Fg}{CB:Addr}{lP:Pos}{lQ:Str}{H H':Hp}{A:HA}{d:Addr}{m y:Int}{ts:List (T7 × Str)}{bs:List Addr}{k:Nat}{F:Nat->Nat->Int}{w:Str}{c:Int}{l:Addr}(h:HN K CB lP lQ H A d m y ts bs k F w c)(g:ButL l H H')(n1:d≠l)(n2:A.mv≠l)(n3:l∉bs):HN K CB lP lQ H' A d m y ts bs k F w c:=by
 obtain⟨⟨dx,h1⟩,xs,h2,h3⟩:=id h.bk
 exact⟨⟨⟨dx,g.ins h1⟩,xs,g.at h2 n1,g.isTs h3⟩,h.tok,h.tu,h.tl,g.tup h.ru,g.at h.mv n2,h.rows.butL g n3,h.fw,h.ok,h.k9,h.n64,g.tb h.tb⟩
set_option genInjectivity false in
set_option genSizeOf false in
structure KX where
 h:Addr
 ro:Addr
 d:Addr
 lp:Addr
 mv:Addr
 ru:Addr
 A:HA
 bs:List Addr
 ms:List Addr
 own:Int
 n:Nat
 k:Nat
 F:Nat->Nat->Int
 w:Str
 c:Int
def muts(X:KX)(as:List Addr):List Addr:=X.A.pu :: X.A.pl :: X.d :: X.ro :: X.lp :: as
def imms(X:KX)(zs:List (Addr × List V)):List Addr:=X.A.ou :: X.A.mv :: X.mv :: (X.bs++(X.ms++zs.map (·.1)))
set_option genInjectivity false in
set_option genSizeOf false in
structure KW(K:Fg)(C CB:Addr)(lP:Pos)(lQ:Str)(H0:Hp)(X:KX)(H:Hp)(P L G:Nat->Int)(ts us:List (T7 × Str))(as:List Addr)(zs:List (Addr × List V)):Prop where
 e0:SameT H0 H
 hc:HC C H X.h X.A X.own X.n P L
 hn:HN K CB lP lQ H X.A X.d X.n 0 ts X.bs X.k X.F X.w X.c
 ou:H X.A.ou=some (.lst ((List.replicate X.n false).map V.bl))
 ro:H X.ro=some (.lst (as.map V.ref))
 dr:DRows H as us
 uk:∀t∈us,KD8 X.n X.k t
 lp:H X.lp=some (.lst ((vec X.n G).map V.int))
 mv:H X.mv=some (.lst (X.ms.map V.ref))
 mr:Rows H X.ms X.k X.F
 ml:X.ms.length=X.bs.length
 ru:H X.ru=some (.tup [.str X.w,.int X.c])
 zl:∀z∈zs,H z.1=some (.lst z.2)
 n1:(muts X as).Nodup
 n2:∀x∈imms X zs,x∉muts X as
 f:∀x∈muts X as,H0 x=none
section
variable {K:Fg}{C CB:Addr}{lP:Pos}{lQ:Str}{H0:Hp}{X:KX}{H H':Hp}{P L G P' L' G':Nat->Int}{ts us:List (T7 × Str)}{as:List Addr}{zs:List (Addr × List V)}
theorem KW.sameT(h:KW K C CB lP lQ H0 X H P L G ts us as zs)(e:SameT H H')(t:TbW K "worst_days" lP lQ H'):KW K C CB lP lQ H0 X H' P L G ts us as zs:=by
 obtain⟨⟨dx,h1⟩,h2,h3,h4⟩:=h.hc
 exact⟨h.e0.trans e,⟨⟨dx,e.ins h1⟩,e.lst h2,e.lst h3,h4⟩,h.hn.sameT e t,e.lst h.ou,e.lst h.ro,⟨h.dr.1,h.dr.2.1,fun i a t q1 q2=>e.lst (h.dr.2.2 i a t q1 q2)⟩,h.uk,e.lst h.lp,e.lst h.mv,e.rows h.mr,h.ml,e.tup h.ru,fun z hz=>e.lst (h.zl z hz),h.n1,h.n2,h.f⟩
theorem KW.same(h:KW K C CB lP lQ H0 X H P L G ts us as zs)(e:Same H H'):KW K C CB lP lQ H0 X H' P L G ts us as zs:=h.sameT e.t (TbW.same e h.hn.tb)
theorem KW.ne(h:KW K C CB lP lQ H0 X H P L G ts us as zs):(X.A.pu≠X.A.pl/\X.A.pu≠X.d/\X.A.pu≠X.ro/\X.A.pu≠X.lp/\X.A.pu∉as)/\(X.A.pl≠X.d/\X.A.pl≠X.ro/\X.A.pl≠X.lp/\X.A.pl∉as)/\(X.d≠X.ro/\X.d≠X.lp/\X.d∉as)/\(X.ro≠X.lp/\X.ro∉as)/\X.lp∉as/\as.Nodup:=by
 have n:=h.n1
 unfold muts at n
 simpa only[yJ,yf,not_or]using n
theorem KW.imm(h:KW K C CB lP lQ H0 X H P L G ts us as zs){l x:Addr}(hl:l∈muts X as)(hx:x∈imms X zs):x≠l:=fun e=>h.n2 x hx (e▸hl)
theorem KW.keep(h:KW K C CB lP lQ H0 X H P L G ts us as zs){l:Addr}(hl:l∈muts X as)(g:ButL l H H'):SameT H0 H'/\H' X.A.ou=some (.lst ((List.replicate X.n false).map V.bl))/\H' X.mv=some (.lst (X.ms.map V.ref))/\Rows H' X.ms X.k X.F/\H' X.ru=some (.tup [.str X.w,.int X.c])/\(∀z∈zs,H' z.1=some (.lst z.2))/\(∃dx,H' X.h=some (.ins C dx (hfl X.A X.own)))/\(X.d≠l->HN K CB lP lQ H' X.A X.d X.n 0 ts X.bs X.k X.F X.w X.c):=by
 have im:∀{x},x∈imms X zs->x≠l:=fun hx=>h.imm hl hx
 obtain⟨dx,h1⟩:=h.hc.ob
 have mb:∀b∈X.bs,b∈imms X zs:=fun b hb=>by unfold imms;exact .tail _ (.tail _ (.tail _ (yO _ hb)))
 have mm:∀b∈X.ms,b∈imms X zs:=fun b hb=>by unfold imms;exact .tail _ (.tail _ (.tail _ (yw _ (yO _ hb))))
 have mz:∀z∈zs,z.1∈imms X zs:=fun z hz=>by unfold imms;exact .tail _ (.tail _ (.tail _ (yw _ (yw _ (yas.mpr ⟨z,hz,rfl⟩)))))
 have i1:X.A.ou∈imms X zs:=.head _
 have i2:X.A.mv∈imms X zs:=.tail _ (.head _)
 have i3:X.mv∈imms X zs:=.tail _ (.tail _ (.head _))
 refine⟨g.sameT h.e0 (h.f l hl),g.at h.ou (im i1),g.at h.mv (im i3),h.mr.butL g fun z=>im (mm _ z) rfl,g.tup h.ru,fun z hz=>g.at (h.zl z hz) (im (mz z hz)),⟨dx,g.ins h1⟩,fun nd=>h.hn.butL g nd (im i2) fun z=>im (mb _ z) rfl⟩
theorem KW.drk(h:KW K C CB lP lQ H0 X H P L G ts us as zs){l:Addr}(g:ButL l H H')(n:l∉as):DRows H' as us:=h.dr.keep fun a o ha q=>g.at q fun z=>n (z▸ha)
theorem KW.pu(h:KW K C CB lP lQ H0 X H P L G ts us as zs)(g:ButL X.A.pu H H')(q:H' X.A.pu=some (.lst ((vec X.n P').map V.int))):KW K C CB lP lQ H0 X H' P' L G ts us as zs:=by
 obtain⟨⟨a1,a2,a3,a4,a5⟩,_⟩:=h.ne
 obtain⟨k1,k2,k3,k4,k5,k6,k7,k8⟩:=h.keep (l:=X.A.pu) (.head _) g
 exact⟨k1,⟨k7,q,g.at h.hc.pl a1.symm,h.hc.ne⟩,k8 a2.symm,k2,g.at h.ro a3.symm,h.drk g a5,h.uk,g.at h.lp a4.symm,k3,k4,h.ml,k5,k6,h.n1,h.n2,h.f⟩
theorem KW.pl(h:KW K C CB lP lQ H0 X H P L G ts us as zs)(g:ButL X.A.pl H H')(q:H' X.A.pl=some (.lst ((vec X.n L').map V.int))):KW K C CB lP lQ H0 X H' P L' G ts us as zs:=by
 obtain⟨⟨a1,a2,a3,a4,a5⟩,⟨b1,b2,b3,b4⟩,_⟩:=h.ne
 obtain⟨k1,k2,k3,k4,k5,k6,k7,k8⟩:=h.keep (l:=X.A.pl) (.tail _ (.head _)) g
 exact⟨k1,⟨k7,g.at h.hc.pu a1,q,h.hc.ne⟩,k8 b1.symm,k2,g.at h.ro b2.symm,h.drk g b4,h.uk,g.at h.lp b3.symm,k3,k4,h.ml,k5,k6,h.n1,h.n2,h.f⟩
theorem KW.lq(h:KW K C CB lP lQ H0 X H P L G ts us as zs)(g:ButL X.lp H H')(q:H' X.lp=some (.lst ((vec X.n G').map V.int))):KW K C CB lP lQ H0 X H' P L G' ts us as zs:=by
 obtain⟨⟨a1,a2,a3,a4,a5⟩,⟨b1,b2,b3,b4⟩,⟨c1,c2,c3⟩,⟨d1,d2⟩,e1,_⟩:=h.ne
 obtain⟨k1,k2,k3,k4,k5,k6,k7,k8⟩:=h.keep (l:=X.lp) (.tail _ (.tail _ (.tail _ (.tail _ (.head _))))) g
 exact⟨k1,⟨k7,g.at h.hc.pu a4,g.at h.hc.pl b3,h.hc.ne⟩,k8 c2,k2,g.at h.ro d1,h.drk g e1,h.uk,q,k3,k4,h.ml,k5,k6,h.n1,h.n2,h.f⟩
theorem KW.dl{ts':List (T7 × Str)}(h:KW K C CB lP lQ H0 X H P L G ts us as zs)(g:ButL X.d H H')(q:Bk CB H' X.A.bk X.d X.n X.k 0 ts')(h1:∀t∈ts',0<=t.1.w/\t.1.w<(X.k:Int))(h2:∀t∈ts',1<=t.1.u/\t.1.u<=1000000)(h3:ts'.length<=1000):KW K C CB lP lQ H0 X H' P L G ts' us as zs:=by
 obtain⟨⟨a1,a2,a3,a4,a5⟩,⟨b1,b2,b3,b4⟩,⟨c1,c2,c3⟩,⟨d1,d2⟩,e1,_⟩:=h.ne
 have m:X.d∈muts X as:=.tail _ (.tail _ (.head _))
 obtain⟨k1,k2,k3,k4,k5,k6,k7,_⟩:=h.keep m g
 have i2:X.A.mv∈imms X zs:=.tail _ (.head _)
 have mb:∀b∈X.bs,b∈imms X zs:=fun b hb=>by unfold imms;exact .tail _ (.tail _ (.tail _ (yO _ hb)))
 exact⟨k1,⟨k7,g.at h.hc.pu a2,g.at h.hc.pl b1,h.hc.ne⟩,⟨q,h1,h2,h3,g.tup h.hn.ru,g.at h.hn.mv (h.imm m i2),h.hn.rows.butL g fun z=>h.imm m (mb _ z) rfl,h.hn.fw,h.hn.ok,h.hn.k9,h.hn.n64,g.tb h.hn.tb⟩,k2,g.at h.ro c1.symm,h.drk g c3,h.uk,g.at h.lp c2.symm,k3,k4,h.ml,k5,k6,h.n1,h.n2,h.f⟩
theorem KW.row{c:Addr}{j:Nat}{t:T7 × Str}(h:KW K C CB lP lQ H0 X H P L G ts us as zs)(g:LBut c H H')(hc:as[j]?=some c)(q:H' c=some (.lst (zbs t)))(hk:KD8 X.n X.k t):KW K C CB lP lQ H0 X H' P L G ts (us.set j t) as zs:=by
 obtain⟨⟨a1,a2,a3,a4,a5⟩,⟨b1,b2,b3,b4⟩,⟨c1,c2,c3⟩,⟨d1,d2⟩,e1,_⟩:=h.ne
 have hm:=yq hc
 have m:c∈muts X as:=by unfold muts;exact .tail _ (.tail _ (.tail _ (.tail _ (.tail _ hm))))
 obtain⟨k1,k2,k3,k4,k5,k6,k7,k8⟩:=h.keep m g.l
 have ne:∀{x},x∉as->x≠c:=fun hx z=>hx (z▸hm)
 exact⟨k1,⟨k7,g.lst h.hc.pu (ne a5),g.lst h.hc.pl (ne b4),h.hc.ne⟩,k8 (ne c3),k2,g.lst h.ro (ne d2),h.dr.set hc g q,fun u hu=>(List.mem_or_eq_of_mem_set hu).elim (h.uk u) fun e=>e▸hk,g.lst h.lp (ne e1),k3,k4,h.ml,k5,k6,h.n1,h.n2,h.f⟩
theorem KW.fresh(h:KW K C CB lP lQ H0 X H P L G ts us as zs){p:Addr}(hp:H p=none):p∉muts X as/\p∉imms X zs/\H0 p=none:=by
 have no:∀{x:Addr} {o:HO},H x=some o->p≠x:=fun q z=>by rw[<- z,hp]at q;cases q
 obtain⟨_,xs,hd,_⟩:=h.hn.bk
 refine⟨fun z=>?_,fun z=>?_,SameT.none hp h.e0⟩
 ·unfold muts at z
  simp only[yf]at z
  rcases z with z | z | z | z | z | z
  ·exact no h.hc.pu z
  ·exact no h.hc.pl z
  ·exact no hd z
  ·exact no h.ro z
  ·exact no h.lp z
  ·exact h.dr.fresh hp z
 ·unfold imms at z
  simp only[yf,yv]at z
  rcases z with z | z | z | z | z | z
  ·exact no h.ou z
  ·exact no h.hn.mv z
  ·exact no h.mv z
  ·exact h.hn.rows.fresh hp z
  ·exact h.mr.fresh hp z
  ·obtain⟨y,hy,e⟩:=yas.mp z
   exact no (h.zl y hy) e.symm
theorem KW.more(h:KW K C CB lP lQ H0 X H P L G ts us as zs){l:Addr}{vs:List V}(hl:H l=some (.lst vs))(n:l∉muts X as):KW K C CB lP lQ H0 X H P L G ts us as ((l,vs) :: zs):=
 ⟨h.e0,h.hc,h.hn,h.ou,h.ro,h.dr,h.uk,h.lp,h.mv,h.mr,h.ml,h.ru,fun z hz=>(yf.mp hz).elim (fun e=>by rw[e];exact hl) (h.zl z),h.n1,fun x hx=>by
  unfold imms at hx
  simp only[yf,yv,yH]at hx
  have go:∀{y},y∈imms X zs->y∉muts X as:=fun {y} hy=>h.n2 y hy
  unfold imms at go
  simp only[yf,yv]at go
  rcases hx with z | z | z | z | z | z | z
  ·exact go (.inl z)
  ·exact go (.inr (.inl z))
  ·exact go (.inr (.inr (.inl z)))
  ·exact go (.inr (.inr (.inr (.inl z))))
  ·exact go (.inr (.inr (.inr (.inr (.inl z)))))
  ·rw[z];exact n
  ·exact go (.inr (.inr (.inr (.inr (.inr z))))),h.f⟩
theorem KW.less{z0:Addr × List V}(h:KW K C CB lP lQ H0 X H P L G ts us as (z0 :: zs)):KW K C CB lP lQ H0 X H P L G ts us as zs:=
 ⟨h.e0,h.hc,h.hn,h.ou,h.ro,h.dr,h.uk,h.lp,h.mv,h.mr,h.ml,h.ru,fun z hz=>h.zl z (.tail _ hz),h.n1,fun x hx=>h.n2 x (by
  unfold imms at hx ⊢
  simp only[yf,yv,yH]at hx ⊢
  rcases hx with z | z | z | z | z | z
  ·exact .inl z
  ·exact .inr (.inl z)
  ·exact .inr (.inr (.inl z))
  ·exact .inr (.inr (.inr (.inl z)))
  ·exact .inr (.inr (.inr (.inr (.inl z))))
  ·exact .inr (.inr (.inr (.inr (.inr (.inr z)))))),h.f⟩
theorem KW.add{p:Addr}{t:T7 × Str}(h:KW K C CB lP lQ H0 X H P L G ts us as zs)(g:ButL X.ro H H')(hp:H p=some (.lst (zbs t)))(f1:p∉muts X as)(f2:p∉imms X zs)(f3:H0 p=none)(q:H' X.ro=some (.lst ((as++[p]).map V.ref)))(hk:KD8 X.n X.k t):KW K C CB lP lQ H0 X H' P L G ts (us++[t]) (as++[p]) zs:=by
 obtain⟨⟨a1,a2,a3,a4,a5⟩,⟨b1,b2,b3,b4⟩,⟨c1,c2,c3⟩,⟨d1,d2⟩,e1,_⟩:=h.ne
 obtain⟨k1,k2,k3,k4,k5,k6,k7,k8⟩:=h.keep (l:=X.ro) (.tail _ (.tail _ (.tail _ (.head _)))) g
 have em:muts X (as++[p])=muts X as++[p]:=rfl
 have pro:p≠X.ro:=fun z=>f1 (by rw[z];exact .tail _ (.tail _ (.tail _ (.head _))))
 have pas:p∉as:=fun z=>f1 (.tail _ (.tail _ (.tail _ (.tail _ (.tail _ z)))))
 refine⟨k1,⟨k7,g.at h.hc.pu a3,g.at h.hc.pl b2,h.hc.ne⟩,k8 c1,k2,q,(h.drk g d2).app pas (g.at hp pro),fun u hu=>(yv.mp hu).elim (h.uk u) fun e=>yu.mp e▸hk,g.at h.lp d1.symm,k3,k4,h.ml,k5,k6,?_,fun x hx z=>?_,fun x hx=>?_⟩
 ·rw[em]
  exact yY.mpr ⟨h.n1,by simp,fun a ha b hb e=>f1 (by rw[yu]at hb;subst hb;subst e;exact ha)⟩
 ·rw[em]at z
  rcases yv.mp z with z | z
  ·exact h.n2 x hx z
  ·exact f2 (yu.mp z▸hx)
 ·rw[em]at hx
  rcases yv.mp hx with z | z
  ·exact h.f x z
  ·rw[yu.mp z];exact f3
end
def word78(n:Nat):Str:=if n=1 then "member" else if n=2 then "terms" else if n=3 then "bare" else "deal"
theorem zb1(n:Nat):PyData.canLay0 (.str (word78 n))=true:=by
 unfold word78
 split
 ·decide +kernel
 ·split
  ·decide +kernel
  ·split<;>decide +kernel
def zjM(CM CT CR CD:Addr):Sp:=fun vs H Q _=>∃(er C:Addr) (n:Nat),vs=[.ref er]/\H er=some (zca er C)/\((C=CM/\n=1)\/(C=CT/\n=2)\/(C=CR/\n=3)\/(C=CD/\n=4))/\∀H',Same H H'->Q (.str (word78 n)) H'
section
variable (K:Fg)(C CB:Addr)(lP:Pos)(lQ:Str)
def zh6:Sp:=fun vs H Q _=>∃(H0:Hp) (X:KX) (P L:Nat->Int) (ts:List (T7 × Str)) (as:List Addr) (zs:List (Addr × List V)),vs=[.ref X.h,.ref X.ro,.ref X.lp,.ref X.ru,.ref X.mv]/\KW K C CB lP lQ H0 X H P L L ts ts as zs/\X.n<=9/\1<=X.k/\ts.length<=100/\(∀i,i<X.n->sz (L i)<=60000)/\∀H',SameT H H'->TbW K "worst_days" lP lQ H'->Q (.bl true) H'
def zbT(CM CT CR CD:Addr):Sp:=fun vs H Q E=>∃(H0:Hp) (X:KX) (P L G:Nat->Int) (ts us:List (T7 × Str)) (as:List Addr) (zs:List (Addr × List V)) (l:Addr),vs=[.ref X.h,.ref l]/\KW K C CB lP lQ H0 X H P L G ts us as zs/\(∀i,i<X.n->sz (L i)<=60000)/\ts.length<=100 /\
 ((∃m:Int,H l=some (.lst [.str "deal",.int m])/\m=ts.length/\∀H',Same H H'->E (.ref CD) none H') \/
  (∃m c:Int,H l=some (.lst [.str "free",.int m,.int c])/\mOk X.n m/\tOk c/\c<=L m.toNat/\sz (L m.toNat-c)<=60000/\∀q,Line (zai ts m X.k X.F) X.bs.length q ->
   (((L m.toNat-c:Int):Rat)<zag X.w (zai ts m X.k X.F) q X.c->∀H',KW K C CB lP lQ H0 X H' P L G ts us as zs->E (.ref CR) none H') /\
   (¬((L m.toNat-c:Int):Rat)<zag X.w (zai ts m X.k X.F) q X.c->∀H',KW K C CB lP lQ H0 X H' (zbb P m c) (zbb L m (-c)) G ts us as zs->Q .non H')) \/
  (∃t:T7,H l=some (.lst (.str "strike" :: za2 t))/\(zaB (X.k:Int) t->0<=t.y) /\
   (¬zbd (X.n:Int) t.p t.q->∀H',KW K C CB lP lQ H0 X H' P L G ts us as zs->E (.ref CM) none H') /\
   (zbd (X.n:Int) t.p t.q->¬zaB (X.k:Int) t->∀H',KW K C CB lP lQ H0 X H' P L G ts us as zs->E (.ref CT) none H') /\
   (zbd (X.n:Int) t.p t.q->zaB (X.k:Int) t->∀q1,Line (zai (ts++[(t,("standing" : Str))]) t.p X.k X.F) X.bs.length q1 ->
    (((L t.p.toNat:Int):Rat)<zag X.w (zai (ts++[(t,("standing" : Str))]) t.p X.k X.F) q1 X.c->∀H',KW K C CB lP lQ H0 X H' P L G ts us as zs->E (.ref CR) none H') /\
    (¬((L t.p.toNat:Int):Rat)<zag X.w (zai (ts++[(t,("standing" : Str))]) t.p X.k X.F) q1 X.c->∀q2,Line (zai (ts++[(t,("standing" : Str))]) t.q X.k X.F) X.bs.length q2 ->
     (((L t.q.toNat:Int):Rat)<zag X.w (zai (ts++[(t,("standing" : Str))]) t.q X.k X.F) q2 X.c->∀H',KW K C CB lP lQ H0 X H' P L G ts us as zs->E (.ref CR) none H') /\
     (¬((L t.q.toNat:Int):Rat)<zag X.w (zai (ts++[(t,("standing" : Str))]) t.q X.k X.F) q2 X.c->∀H',KW K C CB lP lQ H0 X H' P L G (ts++[(t,("standing" : Str))]) us as zs->Q (.int ts.length) H')))))
end
theorem zgX{K:Fg}{C CB:Addr}{lP:Pos}{lQ:Str}{CM CT CR CD:Addr}{vs:List V}{H H1:Hp}{Q Q':VK}{E E':XK}(h:zbT K C CB lP lQ CM CT CR CD vs H Q E)(e:Same H H1)(hq:∀v H',Q v H'->Q' v H')(he:∀c H',E c none H'->E' c none H'):zbT K C CB lP lQ CM CT CR CD vs H1 Q' E':=by
 obtain⟨H0,X,P,L,G,ts,us,as,zs,l,rfl,hW,hz,htl,hD⟩:=h
 refine⟨H0,X,P,L,G,ts,us,as,zs,l,rfl,hW.same e,hz,htl,?_⟩
 rcases hD with⟨m,hl,hm,q⟩ | ⟨m,c,hl,hm,ht,hle,hsz,q⟩ | ⟨t,hl,hy,q1,q2,q3⟩
 ·exact .inl ⟨m,e.at hl,hm,fun H' e'=>he _ _ (q H' (e.trans e'))⟩
 ·exact .inr (.inl ⟨m,c,e.at hl,hm,ht,hle,hsz,fun ql hL=>⟨fun z H' k=>he _ _ ((q ql hL).1 z H' k),fun z H' k=>hq _ _ ((q ql hL).2 z H' k)⟩⟩)
 ·exact .inr (.inr ⟨t,e.at hl,hy,fun z H' k=>he _ _ (q1 z H' k),fun z z' H' k=>he _ _ (q2 z z' H' k),fun a b ql hL=>⟨fun z H' k=>he _ _ ((q3 a b ql hL).1 z H' k),fun z ql2 hL2=>⟨fun z' H' k=>he _ _ (((q3 a b ql hL).2 z ql2 hL2).1 z' H' k),fun z' H' k=>hq _ _ (((q3 a b ql hL).2 z ql2 hL2).2 z' H' k)⟩⟩⟩)
def zoB(CM CT CR CD C:Addr)(n:Nat):Prop:=(C=CM/\n=1)\/(C=CT/\n=2)\/(C=CR/\n=3)\/(C=CD/\n=4)
def zcG(CM CT CR CD:Addr)(D:Sp):Sp:=fun vs H Q _=>D vs H (fun v H'=>∀r H'',Same H' H''->H'' r=some (.tup [.str "told",v])->Q (.ref r) H'') (fun c _ H'=>∃(A:Addr) (n:Nat),c=.ref A/\zoB CM CT CR CD A n/\∀r H'',Same H' H''->H'' r=some (.tup [.str "refused",.str (word78 n)])->Q (.ref r) H'')
theorem zde{K:Fg}{H:Hp}{s t:Str}(l1:PyData.canLay0 (.str s)=true)(l2:PyData.canLay0 (.str t)=true):RepAll K H [.str s,.str t] [.str s,.str t]:=.cons (.str _ l1) (.cons (.str _ l2) .nil)
theorem ze1{K:Fg}{H:Hp}{Q:VK}{a b:Addr}{s t:Str}(h1:H a=some (.tup [.str s,.str t]))(h2:H b=some (.tup [.str s,.str t]))(l1:PyData.canLay0 (.str s)=true)(l2:PyData.canLay0 (.str t)=true)(q:Q (.bl true) H):z3 K (.ref a) (.ref b) H Q:=by
 refine zic (.tup (.of h1) (zde l1 l2)) (.tup (.of h2) (zde l1 l2)) (by simp[PyData.depth,PyData.depthAll]) ?_
 rw[yX _ (by rw[PyData.canLay0];exact(zde (K:=K) (H:=H) l1 l2).lay)]
 exact q
theorem zi5{K:Fg}{H:Hp}{Q:VK}{a b:Addr}{s t:Str}(h1:H a=some (.tup [.str s,.str t]))(h2:H b=some (.tup [.str s,.str t]))(l1:PyData.canLay0 (.str s)=true)(l2:PyData.canLay0 (.str t)=true)(q:Q (.bl false) H):zb6 K (.ref a) (.ref b) H Q:=by
 refine zh0 (.tup (.of h1) (zde l1 l2)) (.tup (.of h2) (zde l1 l2)) (by simp[PyData.depth,PyData.depthAll]) ?_
 rw[yX _ (by rw[PyData.canLay0];exact(zde (K:=K) (H:=H) l1 l2).lay)]
 exact q
theorem zmH{K:Fg}{H:Hp}{Q:VK}{a b:Addr}{s:Str}{i:Int}(h1:H a=some (.tup [.str s,.int i]))(h2:H b=some (.tup [.str s,.int i]))(l1:PyData.canLay0 (.str s)=true)(q:Q (.bl true) H):z3 K (.ref a) (.ref b) H Q:=by
 have rep:RepAll K H [.str s,.int i] [.str s,.int i]:=.cons (.str _ l1) (.cons (.int _) .nil)
 refine zic (.tup (.of h1) rep) (.tup (.of h2) rep) (by simp[PyData.depth,PyData.depthAll]) ?_
 rw[yX _ (by rw[PyData.canLay0];exact rep.lay)]
 exact q
theorem zmY{K:Fg}{H:Hp}{Q:VK}{a b:Addr}{s:Str}(h1:H a=some (.tup [.str s,.non]))(h2:H b=some (.tup [.str s,.non]))(l1:PyData.canLay0 (.str s)=true)(q:Q (.bl true) H):z3 K (.ref a) (.ref b) H Q:=by
 have rep:RepAll K H [.str s,.non] [.str s,.none]:=.cons (.str _ l1) (.cons .non .nil)
 refine zic (.tup (.of h1) rep) (.tup (.of h2) rep) (by simp[PyData.depth,PyData.depthAll]) ?_
 rw[yX _ (by rw[PyData.canLay0];exact rep.lay)]
 exact q
theorem zgH:PyData.canLay0 (.str "told")=true:=by decide +kernel
theorem zbR:PyData.canLay0 (.str "refused")=true:=by decide +kernel
def DOk(k:Int)(t:T7):Prop:=zaB k t\/t.w<0\/t.u<0\/t.a<0\/t.y<0\/t.r<0
def zjP(K:Fg):Sp:=fun vs H Q _=>∃(a:Addr) (ns:List Int) (z n k:Int),vs=[.ref a,.int z,.int n,.int k]/\SqL K H a (ns.map V.int)/\0<=z/\z<=4000/\2<=n/\n<=9/\1<=k/\k<=9/\∀l H' t,H l=none->Same H H'->H' l=some (.lst (.str "strike" :: za2 t))->DOk k t->Q (.ref l) H'
theorem zgv{x:Int}:∀{ns:List Int},x∈ns->∃j:Nat,ns[j]?=some x/\∀m:Nat,m<j->ns[m]?≠some x
 | [],h=>nomatch h
 | y :: ns,h=>by
  by_cases e:y=x
  ·exact⟨0,by rw[e];rfl,fun m hm=>absurd hm (by omega)⟩
  ·have h2:x∈ns:=(yf.mp h).resolve_left fun z=>e z.symm
   obtain⟨j,h3,h4⟩:=zgv h2
   refine⟨j+1,h3,fun m hm=>?_⟩
   cases m with
   | zero=>exact fun z=>e (yo z)
   | succ m=>exact h4 m (by omega)
set_option genInjectivity false in
set_option genSizeOf false in
structure Miss(X:KX)(ts:List (T7 × Str))(t:T7)(G M:Nat->Int)(cp cq:Int):Prop where
 p:M t.p.toNat=zaK (cp-G t.p.toNat)
 q:M t.q.toNat=zaK (cq-G t.q.toNat)
 o:∀i,i≠t.p.toNat->i≠t.q.toNat->M i=0
 lp:∀ql,Line (zai ts t.p X.k X.F) X.bs.length ql->∀x:Int,((x:Int):Rat)<zag X.w (zai ts t.p X.k X.F) ql X.c↔x<cp
 lq:∀ql,Line (zai ts t.q X.k X.F) X.bs.length ql->∀x:Int,((x:Int):Rat)<zag X.w (zai ts t.q X.k X.F) ql X.c↔x<cq
theorem KD8.of{n k:Int}{t:T7}(h1:zbd n t.p t.q)(h2:zaB k t):KD8 n k (t,("standing" : Str)):=⟨h1.1.1,h1.1.2,h1.2.1.1,h1.2.1.2,h1.2.2,h2.1.1,h2.1.2,h2.2.1.1,h2.2.1.2,.inl rfl⟩
def ziv(K:Fg)(C CB:Addr)(lP:Pos)(lQ:Str):Sp:=fun vs H Q _=>∃(H0:Hp) (X:KX) (P L:Nat->Int) (ts:List (T7 × Str)) (as:List Addr) (zs:List (Addr × List V)) (l:Addr) (t:T7),vs=[.ref X.ro,.ref X.lp,.ref X.ru,.ref X.mv,.ref l]/\KW K C CB lP lQ H0 X H P L L ts ts as zs/\H l=some (.lst (.str "strike" :: za2 t))/\zbd X.n t.p t.q/\zaB X.k t/\X.n<=9/\1<=X.k/\ts.length<=99 /\
 ∀r H' M cp cq,H r=none->Same H H'->H' r=some (.lst ((vec X.n M).map V.int))->Miss X (ts++[(t,("standing" : Str))]) t L M cp cq->Q (.ref r) H'
def zhJ(K:Fg)(C CB:Addr)(lP:Pos)(lQ:Str):Sp:=fun vs H Q _=>∃(H0:Hp) (X:KX) (P L:Nat->Int) (ts:List (T7 × Str)) (as:List Addr) (zs:List (Addr × List V)) (l:Addr) (t:T7) (B:Int),vs=[.ref X.h,.ref X.ro,.ref X.lp,.ref X.ru,.ref X.mv,.ref l]/\KW K C CB lP lQ H0 X H P L L ts ts as zs/\H l=some (.lst (.str "strike" :: za2 t))/\l∉muts X as/\DOk X.k t/\X.n<=9/\2<=X.n/\1<=X.k/\ts.length<=98/\BdF X.n L B/\0<=B/\B<=1000000000000/\(∀i,i<X.n->0<=P i) /\
 ∀H' P' L' ts' as',KW K C CB lP lQ H0 X H' P' L' L' ts' ts' as' zs->BdF X.n L' (B+1000000000)->(∀i,i<X.n->0<=P' i)->ts'.length<=ts.length+1->Q (.bl true) H'
def zix(K:Fg)(C CB:Addr)(lP:Pos)(lQ:Str):Sp:=fun vs H Q _=>∃(H0:Hp) (X:KX) (P L:Nat->Int) (ts:List (T7 × Str)) (as:List Addr) (zs:List (Addr × List V)) (a:Addr) (ns:List Int) (z:Int) (B:Int),vs=[.ref a,.int z,.ref X.h,.ref X.ro,.ref X.lp,.ref X.ru,.ref X.mv]/\SqL K H0 a (ns.map V.int)/\0<=z/\z<=4000/\KW K C CB lP lQ H0 X H P L L ts ts as zs/\X.n<=9/\2<=X.n/\1<=X.k/\ts.length<=98/\BdF X.n L B/\0<=B/\B<=1000000000000/\(∀i,i<X.n->0<=P i) /\
 ∀H' P' L',KW K C CB lP lQ H0 X H' P' L' L' ts ts as zs->BdF X.n L' B->(∀i,i<X.n->0<=P' i)->Q (.bl true) H'
theorem zi0{x i j:Int}(h0:0<=x)(h1:x<2):∃v:Int,atI [V.int i,V.int j] x=some (V.int v):=by
 obtain rfl | rfl:x=0\/x=1:=by omega
 ·exact⟨i,rfl⟩
 ·exact⟨j,rfl⟩
theorem Miss.of{X:KX}{ts:List (T7 × Str)}{t:T7}{G M:Nat->Int}{ap bp aq bq:Int}(hp:IsNd X.w (zai ts t.p X.k X.F) X.bs.length X.c ap bp)(hq:IsNd X.w (zai ts t.q X.k X.F) X.bs.length X.c aq bq)(h1:M t.p.toNat=zaK (zcr ap bp-G t.p.toNat))(h2:M t.q.toNat=zaK (zcr aq bq-G t.q.toNat))(h3:∀i,i≠t.p.toNat->i≠t.q.toNat->M i=0):Miss X ts t G M (zcr ap bp) (zcr aq bq):=by
 refine⟨h1,h2,h3,fun ql hL x=>?_,fun ql hL x=>?_⟩
 ·rw[hp.q ql hL];exact zdT (by have:=hp.b0;omega)
 ·rw[hq.q ql hL];exact zdT (by have:=hq.b0;omega)
section
variable {K:Fg}{C CB:Addr}{lP:Pos}{lQ:Str}{CM CT CR CD:Addr}{H0:Hp}{X:KX}{H:Hp}{P L G P' L' G':Nat->Int}{ts us:List (T7 × Str)}{as:List Addr}{zs:List (Addr × List V)}{l:Addr}{t:T7}{Q:VK}{E:XK}
theorem KW.congr(h:KW K C CB lP lQ H0 X H P L G ts us as zs)(h1:∀i,i<X.n->P i=P' i)(h2:∀i,i<X.n->L i=L' i)(h3:∀i,i<X.n->G i=G' i):KW K C CB lP lQ H0 X H P' L' G' ts us as zs:=by
 obtain⟨a1,⟨b1,b2,b3,b4⟩,a3,a4,a5,a6,a7,a8,a9,a10,a11,a12,a13,a14,a15,a16⟩:=h
 exact⟨a1,⟨b1,by rw[b2,zaI h1],by rw[b3,zaI h2],b4⟩,a3,a4,a5,a6,a7,by rw[a8,zaI h3],a9,a10,a11,a12,a13,a14,a15,a16⟩
theorem zjQ(hW:KW K C CB lP lQ H0 X H P L G ts us as zs)(hz:∀i,i<X.n->sz (L i)<=60000)(htl:ts.length<=100)(hl:H l=some (.lst (.str "strike" :: za2 t)))(hm:¬zbd (X.n:Int) t.p t.q)(q:∀r H',KW K C CB lP lQ H0 X H' P L G ts us as zs->H' r=some (.tup [.str "refused",.str (word78 1)])->Q (.ref r) H'):zcG CM CT CR CD (zbT K C CB lP lQ CM CT CR CD) [.ref X.h,.ref l] H Q E:=
 ⟨H0,X,P,L,G,ts,us,as,zs,l,rfl,hW,hz,htl,.inr (.inr ⟨t,hl,fun h=>h.2.2.2.1.1,fun _ H' k=>⟨_,1,rfl,.inl ⟨rfl,rfl⟩,fun r H'' e h=>q r H'' (k.same e) h⟩,fun z=>absurd z hm,fun z=>absurd z hm⟩)⟩
theorem zj9(hW:KW K C CB lP lQ H0 X H P L G ts us as zs)(hz:∀i,i<X.n->sz (L i)<=60000)(htl:ts.length<=100)(hl:H l=some (.lst (.str "strike" :: za2 t)))(hm:zbd (X.n:Int) t.p t.q)(ht:¬zaB (X.k:Int) t)(q:∀r H',KW K C CB lP lQ H0 X H' P L G ts us as zs->H' r=some (.tup [.str "refused",.str (word78 2)])->Q (.ref r) H'):zcG CM CT CR CD (zbT K C CB lP lQ CM CT CR CD) [.ref X.h,.ref l] H Q E:=
 ⟨H0,X,P,L,G,ts,us,as,zs,l,rfl,hW,hz,htl,.inr (.inr ⟨t,hl,fun h=>h.2.2.2.1.1,fun z=>absurd hm z,fun _ _ H' k=>⟨_,2,rfl,.inr (.inl ⟨rfl,rfl⟩),fun r H'' e h=>q r H'' (k.same e) h⟩,fun _ z=>absurd z ht⟩)⟩
theorem zgQ{M G2:Nat->Int}{cp cq:Int}(hW:KW K C CB lP lQ H0 X H P L G ts us as zs)(hz:∀i,i<X.n->sz (L i)<=60000)(htl:ts.length<=100)(hl:H l=some (.lst (.str "strike" :: za2 t)))(hm:zbd (X.n:Int) t.p t.q)(ht:zaB (X.k:Int) t)(hM:Miss X (ts++[(t,("standing" : Str))]) t G2 M cp cq)(hb:L t.p.toNat<cp\/L t.q.toNat<cq)(q:∀r H',KW K C CB lP lQ H0 X H' P L G ts us as zs->H' r=some (.tup [.str "refused",.str (word78 3)])->Q (.ref r) H'):zcG CM CT CR CD (zbT K C CB lP lQ CM CT CR CD) [.ref X.h,.ref l] H Q E:=
 ⟨H0,X,P,L,G,ts,us,as,zs,l,rfl,hW,hz,htl,.inr (.inr ⟨t,hl,fun h=>h.2.2.2.1.1,fun z=>absurd hm z,fun _ z=>absurd ht z,fun _ _ q1 hL=>⟨fun _ H' k=>⟨_,3,rfl,.inr (.inr (.inl ⟨rfl,rfl⟩)),fun r H'' e h=>q r H'' (k.same e) h⟩,fun n1 q2 hL2=>⟨fun _ H' k=>⟨_,3,rfl,.inr (.inr (.inl ⟨rfl,rfl⟩)),fun r H'' e h=>q r H'' (k.same e) h⟩,fun n2=>(hb.elim (fun z=>n1 ((hM.lp q1 hL _).mpr z)) fun z=>n2 ((hM.lq q2 hL2 _).mpr z)).elim⟩⟩⟩)⟩
theorem zkv{M G2:Nat->Int}{cp cq:Int}(hW:KW K C CB lP lQ H0 X H P L G ts us as zs)(hz:∀i,i<X.n->sz (L i)<=60000)(htl:ts.length<=100)(hl:H l=some (.lst (.str "strike" :: za2 t)))(hm:zbd (X.n:Int) t.p t.q)(ht:zaB (X.k:Int) t)(hM:Miss X (ts++[(t,("standing" : Str))]) t G2 M cp cq)(hp:¬L t.p.toNat<cp)(hq:¬L t.q.toNat<cq)(q:∀r H',KW K C CB lP lQ H0 X H' P L G (ts++[(t,("standing" : Str))]) us as zs->H' r=some (.tup [.str "told",.int ts.length])->Q (.ref r) H'):zcG CM CT CR CD (zbT K C CB lP lQ CM CT CR CD) [.ref X.h,.ref l] H Q E:=
 ⟨H0,X,P,L,G,ts,us,as,zs,l,rfl,hW,hz,htl,.inr (.inr ⟨t,hl,fun h=>h.2.2.2.1.1,fun z=>absurd hm z,fun _ z=>absurd ht z,fun _ _ q1 hL=>⟨fun z=>absurd ((hM.lp q1 hL _).mp z) hp,fun n1 q2 hL2=>⟨fun z=>absurd ((hM.lq q2 hL2 _).mp z) hq,fun _ H' k r H'' e h=>q r H'' (k.same e) h⟩⟩⟩)⟩
end
def gA(p q i m:Nat):Prop:=(m=p/\0<i)\/(m=q/\1<i)
instance (p q i m:Nat):Decidable (gA p q i m):=inferInstanceAs (Decidable (_\/_))
def dj(j m:Nat):Int:=if m=j then 1 else 0
def zc6(p q i j m:Nat):Int:=if gA p q i m then dj j m else 0
def zdv(M:Nat->Int)(p q i j m:Nat):Int:=if gA p q i m then M m-dj j m else 0
theorem zf4(j m:Nat):dj j m=0\/dj j m=1:=by unfold dj;split<;>omega
theorem zda(j:Nat):dj j j=1:=if_pos rfl
theorem zeL{j m:Nat}(h:m≠j):dj j m=0:=if_neg h
section
variable {p q i j en m:Nat}{M P L P' L':Nat->Int}{e c:Int}
theorem ziO(h:(i=0/\en=p)\/(i=1/\en=q))(pq:p≠q):¬gA p q i en/\gA p q (i+1) en:=by unfold gA;omega
theorem zeS(h:(i=0/\en=p)\/(i=1/\en=q))(hm:m≠en):gA p q (i+1) m↔gA p q i m:=by unfold gA;omega
theorem zjS(h:(i=0/\e.toNat=p)\/(i=1/\e.toNat=q))(pq:p≠q)(hP:P' m=P m+zc6 p q i j m):zbb (zbb P' e (M e.toNat)) e (-(M e.toNat-dj j e.toNat)) m=P m+zc6 p q (i+1) j m:=by
 unfold zbb
 by_cases c:m=e.toNat
 ·rw[if_pos c,if_pos rfl]
  obtain⟨g1,g2⟩:=ziO h pq
  unfold zc6 at hP ⊢
  rw[c]at hP ⊢
  rw[if_neg g1]at hP
  rw[if_pos g2]
  omega
 ·rw[if_neg c,if_neg c,hP]
  unfold zc6
  by_cases g:gA p q i m
  ·rw[if_pos g,if_pos ((zeS h c).mpr g)]
  ·rw[if_neg g,if_neg (fun z=>g ((zeS h c).mp z))]
theorem zjE(h:(i=0/\e.toNat=p)\/(i=1/\e.toNat=q))(pq:p≠q)(hL:L' m=L m+zdv M p q i j m):zbb L' e (M e.toNat-dj j e.toNat) m=L m+zdv M p q (i+1) j m:=by
 unfold zbb
 by_cases c:m=e.toNat
 ·rw[if_pos c]
  obtain⟨g1,g2⟩:=ziO h pq
  unfold zdv at hL ⊢
  rw[c]at hL ⊢
  rw[if_neg g1]at hL
  rw[if_pos g2]
  omega
 ·rw[if_neg c,hL]
  unfold zdv
  by_cases g:gA p q i m
  ·rw[if_pos g,if_pos ((zeS h c).mpr g)]
  ·rw[if_neg g,if_neg (fun z=>g ((zeS h c).mp z))]
theorem zgg:zc6 p q 0 j m=0/\zdv M p q 0 j m=0:=by
 have g:¬gA p q 0 m:=by unfold gA;omega
 exact⟨if_neg g,if_neg g⟩
theorem zlW(hj:j=p\/j=q)(hM:m≠p->m≠q->M m=0):zc6 p q 2 j m=dj j m/\zdv M p q 2 j m=M m-dj j m:=by
 by_cases g:gA p q 2 m
 ·exact⟨if_pos g,if_pos g⟩
 ·have h:m≠p/\m≠q:=by unfold gA at g;omega
  have hjm:m≠j:=by omega
  unfold zc6 zdv
  rw[if_neg g,if_neg g,zeL hjm,hM h.1 h.2]
  exact⟨rfl,rfl⟩
theorem zl2:0<=zc6 p q i j m:=by
 unfold zc6
 have:=zf4 j m
 split<;>omega
theorem zgA{x:Int}(h:0<zaK x):zaK x=x:=by unfold zaK at h ⊢;split at h<;>omega
theorem zhr(x:Int):x<=zaK x/\0<=zaK x:=by unfold zaK;split<;>omega
end
section
variable {K:Fg}{C CB:Addr}{lP:Pos}{lQ:Str}{H0:Hp}{X:KX}{H H':Hp}{P L G:Nat->Int}{ts us:List (T7 × Str)}{as:List Addr}{zs:List (Addr × List V)}{l:Addr}
theorem KW.other(h:KW K C CB lP lQ H0 X H P L G ts us as zs)(g:ButL l H H')(n1:l∉muts X as)(n2:l∉imms X zs)(f:H0 l=none):KW K C CB lP lQ H0 X H' P L G ts us as zs:=by
 have m:∀{x},x∈muts X as->x≠l:=fun hx z=>n1 (z▸hx)
 have i:∀{x},x∈imms X zs->x≠l:=fun hx z=>n2 (z▸hx)
 have m1:X.A.pu∈muts X as:=.head _
 have m2:X.A.pl∈muts X as:=.tail _ (.head _)
 have m3:X.d∈muts X as:=.tail _ (.tail _ (.head _))
 have m4:X.ro∈muts X as:=.tail _ (.tail _ (.tail _ (.head _)))
 have m5:X.lp∈muts X as:=.tail _ (.tail _ (.tail _ (.tail _ (.head _))))
 have m6:∀b∈as,b∈muts X as:=fun b hb=>.tail _ (.tail _ (.tail _ (.tail _ (.tail _ hb))))
 have i1:X.A.ou∈imms X zs:=.head _
 have i2:X.A.mv∈imms X zs:=.tail _ (.head _)
 have i3:X.mv∈imms X zs:=.tail _ (.tail _ (.head _))
 have mb:∀b∈X.bs,b∈imms X zs:=fun b hb=>by unfold imms;exact .tail _ (.tail _ (.tail _ (yO _ hb)))
 have mm:∀b∈X.ms,b∈imms X zs:=fun b hb=>by unfold imms;exact .tail _ (.tail _ (.tail _ (yw _ (yO _ hb))))
 have mz:∀z∈zs,z.1∈imms X zs:=fun z hz=>by unfold imms;exact .tail _ (.tail _ (.tail _ (yw _ (yw _ (yas.mpr ⟨z,hz,rfl⟩)))))
 obtain⟨dx,h1⟩:=h.hc.ob
 exact⟨g.sameT h.e0 f,⟨⟨dx,g.ins h1⟩,g.at h.hc.pu (m m1),g.at h.hc.pl (m m2),h.hc.ne⟩,h.hn.butL g (m m3) (i i2) (fun z=>i (mb _ z) rfl),g.at h.ou (i i1),g.at h.ro (m m4),h.dr.keep fun a o ha q=>g.at q (m (m6 a ha)),h.uk,g.at h.lp (m m5),g.at h.mv (i i3),h.mr.butL g fun z=>i (mm _ z) rfl,h.ml,g.tup h.ru,fun z hz=>g.at (h.zl z hz) (i (mz z hz)),h.n1,h.n2,h.f⟩
end
theorem zgY{re ou d bk od ru mv sh pl pu:Addr}{bs:List Addr}(nd:(re :: ou :: d :: bk :: od :: ru :: (bs++[mv,sh,pl,pu])).Nodup):pu≠pl/\pu≠d/\pl≠d/\∀x∈ou :: mv :: bs,x≠pu/\x≠pl/\x≠d:=by
 simp only[yJ,yY,yf,yv,yz,or_false,not_or,yP,and_true,not_false_eq_true]at nd
 obtain⟨_,ho,hd,_,_,_,hb,hm,hx⟩:=nd
 refine⟨fun z=>hm.2.2 z.symm,fun z=>hd.2.2.2.2.2.2.2 z.symm,fun z=>hd.2.2.2.2.2.2.1 z.symm,fun x h=>?_⟩
 rcases yf.mp h with rfl | h
 ·exact⟨ho.2.2.2.2.2.2.2.2,ho.2.2.2.2.2.2.2.1,ho.1⟩
 ·rcases yf.mp h with rfl | h
  ·exact⟨hm.1.2.2,hm.1.2.1,fun z=>hd.2.2.2.2.1 z.symm⟩
  ·exact⟨hx x h pu (by simp),hx x h pl (by simp),fun z=>hd.2.2.2.1 (z▸h)⟩
end Internal
namespace Internal.K
open PySem Internal
theorem ite_iff{p q:Prop}[Decidable p][Decidable q]{α:Type}{a b:α}(h:p↔q):(if p then a else b)=if q then a else b:=by
 by_cases hp:p
 ·rw[if_pos hp,if_pos (h.mp hp)]
 ·rw[if_neg hp,if_neg fun z=>hp (h.mpr z)]
local macro_rules | `(tactic| walk_at "z")=>`(tactic| first
 | assumption
 | exact sz200 (by omega) (by omega)
 | exact szL (by decide) (by omega) (by omega)
 | ((with_reducible apply yb (m:=_));(focus assumption);omega))
local macro_rules | `(tactic| walk_at "h")=>`(tactic| first
 | assumption
 | (with_reducible exact Same.refl _)
 | ((with_reducible apply Same.isQ);(focus assumption);walk_at "h")
 | ((with_reducible apply Same.at);(focus assumption);walk_at "h")
 | ((with_reducible apply LBut.tup);(focus assumption);walk_at "h")
 | ((with_reducible apply LBut.lst);(focus assumption);(focus walk_at "h");walk_at "h")
 | ((with_reducible apply SqL.keep);(focus (show SqL _ _ _ _;assumption));walk_at "h")
 | ((with_reducible apply SqL.of);walk_at "h")
 | ((with_reducible apply Same.after);(focus assumption);walk_at "h")
 | ((with_reducible apply LBut.same);(focus assumption);(focus walk_at "h");walk_at "h")
 | ((with_reducible apply Same.none);(focus assumption);walk_at "h")
 | ((with_reducible apply TbW.same);(focus assumption);walk_at "h")
 | ((with_reducible apply TbW.but);(focus assumption);walk_at "h")
 | ((with_reducible apply SameT.lst);(focus assumption);walk_at "h")
 | ((with_reducible apply SameT.tup);(focus assumption);walk_at "h")
 | ((with_reducible apply SameT.ins);(focus assumption);walk_at "h")
 | ((with_reducible apply SameT.seq);(focus assumption);walk_at "h")
 | ((with_reducible apply SameT.rows);(focus assumption);walk_at "h")
 | ((with_reducible apply LBut.isTs);(focus assumption);walk_at "h")
 | ((with_reducible apply Same.rows);(focus assumption);walk_at "h")
 | ((with_reducible apply LBut.ins);(focus assumption);walk_at "h")
 | ((with_reducible apply zmy);(focus assumption);walk_at "h")
 | ((with_reducible apply zcy);(focus assumption);walk_at "h"))
local macro_rules | `(tactic| walk_at "x1")=>`(tactic| first
 | ((with_reducible apply zn2);(focus (exact rfl)))
 | (with_reducible (first
   | apply zoo
   | apply zml
   | apply zof
   | apply zn0
   | apply zod
   | apply zoq
   | apply zob
   | apply zmC
   | apply zn5
   | apply znK
   | apply zog
   | apply zmm
   | apply zmB
   | apply zdJ
   | apply zeF
   | apply zlT
   | apply zly))
 | (with_reducible refine znq (by assumption) ?_)
 | (with_reducible refine znA (by assumption) ?_)
 | (with_reducible refine zlu (by assumption) ?_)
 | (with_reducible refine znW (fun _=>?_) (fun _=>?_))
 | (with_reducible refine zmQ (fun _=>?_) (fun _=>?_))
 | (with_reducible (first
   | apply znE
   | apply znG))
 | ((with_reducible show rIx _ (V.ref _) (V.int _) _ _);first
   | refine ziw (by assumption) (by rfl) ?_
   | refine zhk (by assumption) (by omega) (by omega) ?_
   | refine zlo (by assumption) (by omega) (by assumption) ?_
   | refine ziw (by walk_at "h") (by rfl) ?_
   | refine zhk (by walk_at "h") (by omega) (by omega) ?_
   | refine zeK (by walk_at "h") (by assumption) ?_
   | refine zhD (by walk_at "h") (by assumption) ?_
   | refine zeK (by walk_at "h") (by rfl) ?_)
 | ((with_reducible show zaU _ [V.int _,_] _ _);refine zfX ?_)
 | ((with_reducible show zaU _ [V.bl _,_] _ _);refine zfX ?_)
 | (with_reducible (first
   | apply znz
   | apply zm5))
 | ((with_reducible show zaU _ [V.ref _,V.ty "tuple"] _ _);refine zfX ?_;first | refine IsQ.isT (by walk_at "h") ?_ | refine ziZ (by walk_at "h") ?_ | refine x_isLT (by walk_at "h") ?_)
 | ((with_reducible show zaU _ [V.ref _,V.ty "list"] _ _);refine zfX ?_;first | refine x_isLL (by walk_at "h") ?_ | refine x_isTL (by walk_at "h") ?_)
 | ((with_reducible show zaU _ [V.ref _,V.ref _] _ _);refine zk2 (by walk_at "h") (by assumption) rfl (by assumption) ?_)
 | ((with_reducible show zaU _ [V.ref _,V.ty "ValueError"] _ _);refine zk2 (by walk_at "h") (by assumption) rfl (by assumption) ?_)
 | (with_reducible refine zg3 (by assumption) (fun _ _ _ _ _=>?_))
 | ((with_reducible show zdI _ [] _);refine zan (by first | decide | simp) (fun _ _ _ _ _=>?_))
 | ((with_reducible show zdI _ [_] _);refine zan (by first | decide | simp) (fun _ _ _ _ _=>?_))
 | ((with_reducible show zdI _ (_ :: _ :: _ :: _) _);refine zan (by first | decide | simp) (fun _ _ _ _ _=>?_))
 | (with_reducible (first
   | apply zld
   | apply zng
   | apply zlK))
 | ((with_reducible show zam _ [V.ref _] _ _);first | refine IsQ.len (by walk_at "h") ?_ | refine zm3 (by walk_at "h") ?_ | refine x_lenT' (by walk_at "h") ?_)
 | (with_reducible (first
   | apply zlm
   | apply zoa
   | apply znx
   | apply zmi
   | apply zor
   | apply znl
   | apply zlp))
 | ((with_reducible show zgi _ _ _ (V.ref _) _ _ _);refine zm6 (by assumption) rfl ?_)
 | ((with_reducible show zcn _ (V.ref _) (V.int _) _ _);first
   | refine zkK (by walk_at "h") (by omega) (by omega) ?_
   | refine zi1 (by walk_at "h") (by assumption) ?_)
 | ((with_reducible show zew (V.ref _) (V.int _) (V.int _) _ _);refine zjR (by walk_at "h") (by omega) (by omega) (fun _ _ _=>?_))
 | ((with_reducible show zdR (V.ref _) (V.int _) _ _);first | refine zkn (by walk_at "h") (by omega) (by omega) (fun _ _ _ _ _=>?_) | refine x_repOpt (by walk_at "h") (by omega) (by omega) (fun _ _ _ _ _=>?_) | refine x_repBl (by walk_at "h") (by omega) (by omega) (fun _ _ _ _ _=>?_))
 | ((with_reducible show zeH [V.int _] _ _);refine zkm (fun _ _ _ _ _=>?_))
 | ((with_reducible show zer _ _ _ _ _);refine zhI (by walk_at "h") (by walk_at "h") (by walk_at "h") (by assumption) (by assumption) (by assumption) (by omega) (by omega) (fun _ _ _ _ _=>?_))
 | ((with_reducible show zf1 _ [V.ref _] _ _);first | refine x_minK (by walk_at "h") (by assumption) ?_ | refine zil (by walk_at "h") (by assumption) (fun _ _ _=>?_))
 | ((with_reducible show zfd _ _ _ _ _ _ _);refine ziG (by walk_at "h") (by walk_at "h") (by walk_at "h") (by assumption) (by assumption) (by assumption) (by omega) (by omega) (by omega) (by omega) (by walk_at "h") (fun _ _ _ _ _ _ _ _=>?_))
 | (with_reducible (first
   | apply znU
   | apply zmf
   | apply zm4
   | apply zmk
   | apply znL
   | apply znP))
 | ((with_reducible show zhx _ _ _ (V.ref _) _);refine ziz (by walk_at "h") (by assumption) (by assumption) (by with_reducible first | exact zkD | exact ziB | exact zlH | exact ziU) ?_)
 | ((with_reducible show zfY _ _ _ _ _ _ _ (V.ref _) _);refine zhs (by walk_at "h") (znj (by decide +kernel) (by decide +kernel) (by decide +kernel) (by decide +kernel)) ?_)
 | ((with_reducible show zhx _ _ _ (V.ref _) _);refine ziz (by walk_at "h") (by assumption) (by assumption) (by with_reducible first | exact zh9 | exact zgV | exact hfl_shares | exact hfl_kept | exact zja | exact zkk | exact hfl_order | exact zkt | exact zjI | exact hfl_reports) ?_)
 | ((with_reducible show zfY _ _ _ _ _ _ _ (V.ref _) _);refine zhs (by walk_at "h") (znt (by decide +kernel)) ?_)
 | ((with_reducible show zfy _ _ _ _ _);refine⟨_,_,_,_,_,_,_,rfl,(by walk_at "h"),(by walk_at "h"),(by omega),(by omega),?_⟩)
 | ((with_reducible show zes _ [V.ref _] _ _);refine znF (by walk_at "h") ?_)
 | ((with_reducible show zhY _ [V.int _] _);refine zlv (by omega) (by omega) ?_)
 | ((with_reducible show zjJ _ _ (V.ref _) _);refine zn8 (by walk_at "h") ?_)
 | ((with_reducible show zhz _ _ [V.ref _] _);refine zl0 (by walk_at "h") ?_)
 | ((with_reducible show zkb _ _ [V.ref _,V.ref _] _);refine znb (by walk_at "h") (by walk_at "h") ?_)
 | ((with_reducible show zff _ _ _ _ _);refine ziJ (by walk_at "h") (by omega) (fun _=>?_))
 | ((with_reducible show zfn _ _ _ _ _);refine zjg (by walk_at "h") (by omega) (by omega) (by omega) (fun _ _ _=>?_))
 | ((with_reducible show zed _ _ _ _ _);refine zh4 (by walk_at "h") (by omega) (by omega) (by omega) (by omega) (fun _ _ _=>?_))
 | ((with_reducible show zcN (Itr _ _) _ _ zej (tC (V.int _)) _ _ _);refine zlQ rfl (by omega) (fun _ _ _ _ _=>?_))
 | ((with_reducible show zcN (Itl _ _) _ _ zej (tC (V.int _)) _ _ _);refine zjD (by walk_at "h") rfl (by first | omega | (simp only[ya,zO];omega)) (fun _ _ _ _ _=>?_))
 | ((with_reducible show zb6 _ (V.ref _) (V.ref _) _ _);first | refine zkN (by walk_at "h") (by walk_at "h") rfl ?_ | refine x_neRows (by walk_at "h") (by walk_at "h") (by walk_at "h") (by walk_at "h") (by omega) (fun _ _ _ _=>rfl) ?_ | refine x_neSh (by walk_at "h") (by walk_at "h") rfl ?_ | refine x_neQs (by walk_at "h") (by walk_at "h") (by walk_at "h") (by walk_at "h") ?_)
 | (with_reducible (first
   | apply zmW
   | apply zn9
   | apply zop
   | apply zne
   | apply zlB))
 | ((with_reducible show tyV _ "list" (V.ref _) _/\_);refine zoe (by walk_at "h") ?_)
 | ((with_reducible show zbQ (V.ref _) [_] _ _);refine zcq (by walk_at "h") (by omega) (fun _ _ _=>?_))
 | ((with_reducible show NewQ _ _ _);intro _ _ _ _)
 | ((with_reducible show zkd _ _ _);refine zmq (by first | decide | simp) (fun _ _ _ _ _=>?_))
 | ((with_reducible show zcl _ _ _ _);refine zjb (by walk_at "h") (fun _ _ _ _ _=>?_))
 | ((with_reducible show zcU _ _ _ _ _ _);refine zmA (by walk_at "h") (fun _ _ _ _ _=>?_))
 | ((with_reducible show zfb _ _ _ _ _);refine ziW (by walk_at "h") (by walk_at "h") (by walk_at "h") (by walk_at "h") ?_)
 | ((with_reducible show zij _ _ _ _);refine znJ (by first | decide | omega) ?_)
 | ((with_reducible show zdR _ _ _ _);refine zik (by first | assumption | (apply CMulS.of;(focus walk_at "z");(focus walk_at "z");first | decide | omega)) ?_)
 | ((with_reducible show zf2 _ _ _ _);refine znH (by first | walk_at "h" | decide) (by first | walk_at "h" | exact szL (by decide) (by decide) (by decide)) ?_)
 | ((with_reducible show rI zii _ _ _ _ _);refine znT ⟨by decide,by decide,by decide⟩ rfl ?_;(try simp only[Int.reduceToNat,Int.reducePow]))
 | ((with_reducible show Ends.nx _ _ _);dsimp only[List.set,Ends.gone]))
local macro_rules | `(tactic| walk_at "x")=>`(tactic| repeat' (walk_at "x1"))
def top(i:Nat):Stmt:=PySem.Challenge.pw_quits_k78_needs_and_pledges.main.body.getD i (.Pass ⟨0,0,0,0⟩)
abbrev zaE:Stmt:=zab (top 29) 0
abbrev za9:Stmt:=zab (top 29) 1
abbrev z7:Stmt:=zab (top 29) 2
abbrev zah:Stmt:=zab (top 29) 3
abbrev zat:Stmt:=zab (top 29) 5
abbrev zaa:Stmt:=zab (top 29) 6
abbrev zav:Stmt:=zab (top 29) 7
abbrev zbB:Stmt:=zab (top 29) 14
abbrev zaC:Stmt:=zab (top 29) 18
abbrev zas:Stmt:=zab (top 107) 0
abbrev zbz:Stmt:=zab (top 107) 1
abbrev zbE:Stmt:=zab (top 107) 3
abbrev zbo:Stmt:=zab (top 107) 4
abbrev zac:Stmt:=zab (top 107) 5
abbrev zaQ:Stmt:=zab (top 107) 6
abbrev zal:Stmt:=zab (top 107) 8
abbrev zaN:Stmt:=zab (top 107) 15
abbrev zbm:Stmt:=zab (top 107) 19
abbrev zak:Stmt:=zab (top 107) 20
abbrev zbl:Stmt:=zab (top 107) 23
abbrev zar:Stmt:=zab (top 107) 26
abbrev za7:Stmt:=top 46
abbrev zbW:Stmt:=top 51
abbrev zcZ:Stmt:=top 53
abbrev zcC:Stmt:=top 58
abbrev zby:Stmt:=top 63
abbrev zbk:Stmt:=top 64
abbrev zbX:Stmt:=top 66
abbrev zbr:Stmt:=top 67
abbrev zaP:Stmt:=top 108
abbrev zaD:Stmt:=top 109
abbrev zbD:Stmt:=top 112
abbrev zbH:Stmt:=top 113
abbrev zbj:Stmt:=top 114
abbrev za5:Stmt:=top 115
abbrev zbh:Stmt:=top 116
abbrev zbC:Stmt:=top 117
abbrev zbx:Stmt:=top 118
abbrev zau:Stmt:=top 119
abbrev zaR:Stmt:=top 120
abbrev za6:Stmt:=top 121
abbrev zbG:Stmt:=top 122
abbrev zbA:Stmt:=top 123
abbrev zbg:Stmt:=top 124
abbrev zbF:Stmt:=top 125
abbrev zaG:Stmt:=top 126
abbrev za4:Stmt:=top 127
abbrev zbq:Stmt:=top 128
abbrev zdk:Stmt:=top 129
theorem zei:FnScope ["self", "many", "wares"] ["self", "many", "wares"] (ze zaE):=⟨rfl,rfl,rfl,by decide +kernel,rfl,by decide +kernel,by decide +kernel⟩
theorem zfi:FnScope ["self", "payer", "payee", "ware", "units", "amount", "day", "rank"] ["self", "payer", "payee", "ware", "units", "amount", "day", "rank"] (ze za9):=⟨rfl,rfl,rfl,by decide +kernel,rfl,by decide +kernel,by decide +kernel⟩
theorem sc_Book_check_members:FnScope ["self", "payer", "payee", "member"] ["self", "payer", "payee"] (ze z7):=⟨rfl,rfl,rfl,by decide +kernel,rfl,by decide +kernel,by decide +kernel⟩
theorem zds:FnScope ["self", "ware", "units", "amount", "day", "rank"] ["self", "ware", "units", "amount", "day", "rank"] (ze zah):=⟨rfl,rfl,rfl,by decide +kernel,rfl,by decide +kernel,by decide +kernel⟩
theorem zd4:FnScope ["self", "number"] ["self", "number"] (ze zat):=⟨rfl,rfl,rfl,by decide +kernel,rfl,by decide +kernel,by decide +kernel⟩
theorem sc_Book_standing_deal:FnScope ["self", "number", "found"] ["self", "number"] (ze zaa):=⟨rfl,rfl,rfl,by decide +kernel,rfl,by decide +kernel,by decide +kernel⟩
theorem zdY:FnScope ["self", "number", "state"] ["self", "number", "state"] (ze zav):=⟨rfl,rfl,rfl,by decide +kernel,rfl,by decide +kernel,by decide +kernel⟩
theorem zgM:FnScope ["self", "number"] ["self", "number"] (ze zbB):=⟨rfl,rfl,rfl,by decide +kernel,rfl,by decide +kernel,by decide +kernel⟩
theorem sc_Book_position:FnScope ["self", "member", "made", "one"] ["self", "member"] (ze zaC):=⟨rfl,rfl,rfl,by decide +kernel,rfl,by decide +kernel,by decide +kernel⟩
theorem zd5:FnScope ["self", "members", "moves", "rule", "order", "own"] ["self", "members", "moves", "rule", "order", "own"] (ze zas):=⟨rfl,rfl,rfl,by decide +kernel,rfl,by decide +kernel,by decide +kernel⟩
theorem zgR:FnScope ["self", "member", "coins"] ["self", "member", "coins"] (ze zbz):=⟨rfl,rfl,rfl,by decide +kernel,rfl,by decide +kernel,by decide +kernel⟩
theorem zgt:FnScope ["self", "member", "coins"] ["self", "member", "coins"] (ze zbE):=⟨rfl,rfl,rfl,by decide +kernel,rfl,by decide +kernel,by decide +kernel⟩
theorem zfT:FnScope ["self", "member", "coins"] ["self", "member", "coins"] (ze zbo):=⟨rfl,rfl,rfl,by decide +kernel,rfl,by decide +kernel,by decide +kernel⟩
theorem zdn:FnScope ["self", "member", "coins"] ["self", "member", "coins"] (ze zac):=⟨rfl,rfl,rfl,by decide +kernel,rfl,by decide +kernel,by decide +kernel⟩
theorem zeZ:FnScope ["self", "payer", "payee", "ware", "units", "amount", "day", "rank"] ["self", "payer", "payee", "ware", "units", "amount", "day", "rank"] (ze zaQ):=⟨rfl,rfl,rfl,by decide +kernel,rfl,by decide +kernel,by decide +kernel⟩
theorem zdB:FnScope ["self", "number"] ["self", "number"] (ze zal):=⟨rfl,rfl,rfl,by decide +kernel,rfl,by decide +kernel,by decide +kernel⟩
theorem zeE:FnScope ["self", "member"] ["self", "member"] (ze zaN):=⟨rfl,rfl,rfl,by decide +kernel,rfl,by decide +kernel,by decide +kernel⟩
theorem zfJ:FnScope ["self", "member"] ["self", "member"] (ze zbm):=⟨rfl,rfl,rfl,by decide +kernel,rfl,by decide +kernel,by decide +kernel⟩
theorem sc_House_need_with:FnScope ["self", "member", "ware", "units", "held"] ["self", "member", "ware", "units"] (ze zak):=⟨rfl,rfl,rfl,by decide +kernel,rfl,by decide +kernel,by decide +kernel⟩
theorem zfL:FnScope ["self", "number"] ["self", "number"] (ze zbl):=⟨rfl,rfl,rfl,by decide +kernel,rfl,by decide +kernel,by decide +kernel⟩
theorem zd1:FnScope ["self", "member"] ["self", "member"] (ze zar):=⟨rfl,rfl,rfl,by decide +kernel,rfl,by decide +kernel,by decide +kernel⟩
theorem sc_check_order:FnScope ["order", "place", "word"] ["order"] (ze za7):=⟨rfl,rfl,rfl,by decide +kernel,rfl,by decide +kernel,by decide +kernel⟩
theorem sc_divisor:FnScope ["one", "other", "kept", "rest", "further"] ["one", "other"] (ze zbW):=⟨rfl,rfl,rfl,by decide +kernel,rfl,by decide +kernel,by decide +kernel⟩
theorem sc_part:FnScope ["top", "bottom", "common"] ["top", "bottom"] (ze zcZ):=⟨rfl,rfl,rfl,by decide +kernel,rfl,by decide +kernel,by decide +kernel⟩
theorem zj6:FnScope ["one", "other"] ["one", "other"] (ze zcC):=⟨rfl,rfl,rfl,by decide +kernel,rfl,by decide +kernel,by decide +kernel⟩
theorem zgJ:FnScope ["position", "moves"] ["position", "moves"] (ze zby):=⟨rfl,rfl,rfl,by decide +kernel,rfl,by decide +kernel,by decide +kernel⟩
theorem sc_worst_days:FnScope ["position", "moves", "k", "losses"] ["position", "moves", "k"] (ze zbk):=⟨rfl,rfl,rfl,by decide +kernel,rfl,by decide +kernel,by decide +kernel⟩
theorem sc_need_of:FnScope ["rule", "position", "moves", "losses", "worst", "need"] ["rule", "position", "moves"] (ze zbX):=⟨rfl,rfl,rfl,by decide +kernel,rfl,by decide +kernel,by decide +kernel⟩
theorem zfG:FnScope ["rule", "moves"] ["rule", "moves"] (ze zbr):=⟨rfl,rfl,rfl,by decide +kernel,rfl,by decide +kernel,by decide +kernel⟩
theorem ze0:FnScope ["coins", "wanted"] ["coins", "wanted"] (ze zaP):=⟨rfl,rfl,rfl,by decide +kernel,rfl,by decide +kernel,by decide +kernel⟩
theorem zef:FnScope ["pledge", "need"] ["pledge", "need"] (ze zaD):=⟨rfl,rfl,rfl,by decide +kernel,rfl,by decide +kernel,by decide +kernel⟩
theorem zgo:FnScope ["_law_script", "_law_k"] ["_law_script", "_law_k"] (ze zbD):=⟨rfl,rfl,rfl,by decide +kernel,rfl,by decide +kernel,by decide +kernel⟩
theorem zgp:FnScope ["_law_script", "_law_k", "_law_many"] ["_law_script", "_law_k", "_law_many"] (ze zbH):=⟨rfl,rfl,rfl,by decide +kernel,rfl,by decide +kernel,by decide +kernel⟩
theorem zfM:FnScope ["_law_script", "_law_k", "_law_many"] ["_law_script", "_law_k", "_law_many"] (ze zbj):=⟨rfl,rfl,rfl,by decide +kernel,rfl,by decide +kernel,by decide +kernel⟩
theorem sc__law_pledge:FnScope ["_law_script", "_law_k", "_law_way"] ["_law_script", "_law_k"] (ze za5):=⟨rfl,rfl,rfl,by decide +kernel,rfl,by decide +kernel,by decide +kernel⟩
theorem sc__law_moves:FnScope ["_law_script", "_law_start", "_law_days", "_law_wares", "_law_moves_here", "_law_day", "_law_row", "_law_ware", "_law_at"] ["_law_script", "_law_start", "_law_days", "_law_wares"] (ze zbh):=⟨rfl,rfl,rfl,by decide +kernel,rfl,by decide +kernel,by decide +kernel⟩
theorem zgz:FnScope ["_law_position", "_law_move"] ["_law_position", "_law_move"] (ze zbC):=⟨rfl,rfl,rfl,by decide +kernel,rfl,by decide +kernel,by decide +kernel⟩
theorem sc__law_need:FnScope ["_law_position", "_law_rule", "_law_moves_here", "_law_losses"] ["_law_position", "_law_rule", "_law_moves_here"] (ze zbx):=⟨rfl,rfl,rfl,by decide +kernel,rfl,by decide +kernel,by decide +kernel⟩
theorem sc__law_positions:FnScope ["_law_rows", "_law_many", "_law_wares", "_law_positions_here", "_law_row", "_law_payer", "_law_payee"] ["_law_rows", "_law_many", "_law_wares"] (ze zau):=⟨rfl,rfl,rfl,by decide +kernel,rfl,by decide +kernel,by decide +kernel⟩
theorem sc__law_part_is:FnScope ["_law_told", "_law_due", "_law_one", "_law_top", "_law_bottom", "_law_rest"] ["_law_told", "_law_due"] (ze zaR):=⟨rfl,rfl,rfl,by decide +kernel,rfl,by decide +kernel,by decide +kernel⟩
theorem sc__law_stands:FnScope ["_law_house", "_law_rows", "_law_pledges", "_law_rule", "_law_moves_here", "_law_positions_here", "_law_k", "_law_told", "_law_number"] ["_law_house", "_law_rows", "_law_pledges", "_law_rule", "_law_moves_here"] (ze za6):=⟨rfl,rfl,rfl,by decide +kernel,rfl,by decide +kernel,by decide +kernel⟩
theorem sc__law_name:FnScope ["_law_e", "_law_found_here"] ["_law_e"] (ze zbG):=⟨rfl,rfl,rfl,by decide +kernel,rfl,by decide +kernel,by decide +kernel⟩
theorem zf9:FnScope ["_law_house", "_law_deed_here"] ["_law_house", "_law_deed_here"] (ze zbA):=⟨rfl,rfl,rfl,by decide +kernel,rfl,by decide +kernel,by decide +kernel⟩
theorem sc__law_found:FnScope ["_law_house", "_law_deed_here", "_law_found_here", "_law_e"] ["_law_house", "_law_deed_here"] (ze zbg):=⟨rfl,rfl,rfl,by decide +kernel,rfl,by decide +kernel,by decide +kernel⟩
theorem sc__law_deed:FnScope ["_law_script", "_law_at", "_law_many", "_law_wares", "_law_payer", "_law_payee", "_law_units", "_law_deed_here", "_law_way"] ["_law_script", "_law_at", "_law_many", "_law_wares"] (ze zbF):=⟨rfl,rfl,rfl,by decide +kernel,rfl,by decide +kernel,by decide +kernel⟩
theorem sc__law_short_of:FnScope ["_law_rows", "_law_pledges", "_law_rule", "_law_moves_here", "_law_deed_here", "_law_positions_here", "_law_needs", "_law_missing", "_law_k"] ["_law_rows", "_law_pledges", "_law_rule", "_law_moves_here", "_law_deed_here"] (ze zaG):=⟨rfl,rfl,rfl,by decide +kernel,rfl,by decide +kernel,by decide +kernel⟩
theorem sc__law_struck:FnScope ["_law_house", "_law_rows", "_law_pledges", "_law_rule", "_law_moves_here", "_law_deed_here", "_law_many", "_law_missing", "_law_last", "_law_k", "_law_found_here"] ["_law_house", "_law_rows", "_law_pledges", "_law_rule", "_law_moves_here", "_law_deed_here"] (ze za4):=⟨rfl,rfl,rfl,by decide +kernel,rfl,by decide +kernel,by decide +kernel⟩
theorem sc__law_freed:FnScope ["_law_script", "_law_at", "_law_house", "_law_rows", "_law_pledges", "_law_rule", "_law_moves_here", "_law_member", "_law_need_here", "_law_most", "_law_coins", "_law_found_here"] ["_law_script", "_law_at", "_law_house", "_law_rows", "_law_pledges", "_law_rule", "_law_moves_here"] (ze zbq):=⟨rfl,rfl,rfl,by decide +kernel,rfl,by decide +kernel,by decide +kernel⟩
theorem sc_law:FnScope ["_law_script", "_law_many", "_law_wares", "_law_days", "_law_moves_here", "_law_rule", "_law_pledges", "_law_rows", "_law_handed", "_law_house", "_law_row", "_law_k", "_law_at", "_law_way", "_law_right", "_law_deed_here", "_law_number"] ["_law_script"] (ze zdk):=⟨rfl,rfl,rfl,by decide +kernel,rfl,by decide +kernel,by decide +kernel⟩
theorem zdF{α:Type}{us:List α}(h:us.length=0):us=[]:=List.eq_nil_of_length_eq_zero h
theorem zae{α:Type}{us:List α}{n:Nat}(h:us.length=n+1):∃a vs,us=a :: vs/\vs.length=n:=by
 cases us with
 | nil=>cases h
 | cons a vs=>exact⟨a,vs,rfl,Nat.succ.inj h⟩
theorem len1{α:Type}{us:List α}(h:us.length=1):∃a0,us=[a0]:=by
 obtain⟨a0,us0,rfl,h0⟩:=zae h
 obtain rfl:=zdF h0
 exact⟨a0,rfl⟩
theorem len2{α:Type}{us:List α}(h:us.length=2):∃a0 a1,us=[a0,a1]:=by
 obtain⟨a0,us0,rfl,h0⟩:=zae h
 obtain⟨a1,us1,rfl,h1⟩:=zae h0
 obtain rfl:=zdF h1
 exact⟨a0,a1,rfl⟩
theorem len3{α:Type}{us:List α}(h:us.length=3):∃a0 a1 a2,us=[a0,a1,a2]:=by
 obtain⟨a0,us0,rfl,h0⟩:=zae h
 obtain⟨a1,us1,rfl,h1⟩:=zae h0
 obtain⟨a2,us2,rfl,h2⟩:=zae h1
 obtain rfl:=zdF h2
 exact⟨a0,a1,a2,rfl⟩
theorem len4{α:Type}{us:List α}(h:us.length=4):∃a0 a1 a2 a3,us=[a0,a1,a2,a3]:=by
 obtain⟨a0,us0,rfl,h0⟩:=zae h
 obtain⟨a1,us1,rfl,h1⟩:=zae h0
 obtain⟨a2,us2,rfl,h2⟩:=zae h1
 obtain⟨a3,us3,rfl,h3⟩:=zae h2
 obtain rfl:=zdF h3
 exact⟨a0,a1,a2,a3,rfl⟩
theorem len5{α:Type}{us:List α}(h:us.length=5):∃a0 a1 a2 a3 a4,us=[a0,a1,a2,a3,a4]:=by
 obtain⟨a0,us0,rfl,h0⟩:=zae h
 obtain⟨a1,us1,rfl,h1⟩:=zae h0
 obtain⟨a2,us2,rfl,h2⟩:=zae h1
 obtain⟨a3,us3,rfl,h3⟩:=zae h2
 obtain⟨a4,us4,rfl,h4⟩:=zae h3
 obtain rfl:=zdF h4
 exact⟨a0,a1,a2,a3,a4,rfl⟩
theorem len6{α:Type}{us:List α}(h:us.length=6):∃a0 a1 a2 a3 a4 a5,us=[a0,a1,a2,a3,a4,a5]:=by
 obtain⟨a0,us0,rfl,h0⟩:=zae h
 obtain⟨a1,us1,rfl,h1⟩:=zae h0
 obtain⟨a2,us2,rfl,h2⟩:=zae h1
 obtain⟨a3,us3,rfl,h3⟩:=zae h2
 obtain⟨a4,us4,rfl,h4⟩:=zae h3
 obtain⟨a5,us5,rfl,h5⟩:=zae h4
 obtain rfl:=zdF h5
 exact⟨a0,a1,a2,a3,a4,a5,rfl⟩
theorem len7{α:Type}{us:List α}(h:us.length=7):∃a0 a1 a2 a3 a4 a5 a6,us=[a0,a1,a2,a3,a4,a5,a6]:=by
 obtain⟨a0,us0,rfl,h0⟩:=zae h
 obtain⟨a1,us1,rfl,h1⟩:=zae h0
 obtain⟨a2,us2,rfl,h2⟩:=zae h1
 obtain⟨a3,us3,rfl,h3⟩:=zae h2
 obtain⟨a4,us4,rfl,h4⟩:=zae h3
 obtain⟨a5,us5,rfl,h5⟩:=zae h4
 obtain⟨a6,us6,rfl,h6⟩:=zae h5
 obtain rfl:=zdF h6
 exact⟨a0,a1,a2,a3,a4,a5,a6,rfl⟩
theorem len8{α:Type}{us:List α}(h:us.length=8):∃a0 a1 a2 a3 a4 a5 a6 a7,us=[a0,a1,a2,a3,a4,a5,a6,a7]:=by
 obtain⟨a0,us0,rfl,h0⟩:=zae h
 obtain⟨a1,us1,rfl,h1⟩:=zae h0
 obtain⟨a2,us2,rfl,h2⟩:=zae h1
 obtain⟨a3,us3,rfl,h3⟩:=zae h2
 obtain⟨a4,us4,rfl,h4⟩:=zae h3
 obtain⟨a5,us5,rfl,h5⟩:=zae h4
 obtain⟨a6,us6,rfl,h6⟩:=zae h5
 obtain⟨a7,us7,rfl,h7⟩:=zae h6
 obtain rfl:=zdF h7
 exact⟨a0,a1,a2,a3,a4,a5,a6,a7,rfl⟩
set_option genInjectivity false in
set_option genSizeOf false in
set_option genInjectivity false in
set_option genSizeOf false in
structure Dfn(K:Fg)(mg:Str->Option Value)(x qual:Str)(st:Stmt)(ps:List Str) where
 a:Addr
 fd:FuncData
 F:Fun K x qual st a fd
 b:Binds K fd ps []
 m:mg x=some (.ref a)
set_option genInjectivity false in
set_option genSizeOf false in
set_option genInjectivity false in
set_option genSizeOf false in
structure DfnM(K:Fg)(C:Addr)(x qual:Str)(st:Stmt)(ps:List Str) where
 a:Addr
 fd:FuncData
 F:Fun K x qual st a fd
 b:Binds K fd ps []
 mt:Meth K C x a
set_option genInjectivity false in
set_option genSizeOf false in
set_option genInjectivity false in
set_option genSizeOf false in
structure Txt(K:Fg)(mg:Str->Option Value) where
 c_Bare:Addr
 m_Bare:mg "Bare" = some (.ref c_Bare)
 c_Closed:Addr
 m_Closed:mg "Closed" = some (.ref c_Closed)
 c_Gone:Addr
 m_Gone:mg "Gone" = some (.ref c_Gone)
 c_NoDeal:Addr
 m_NoDeal:mg "NoDeal" = some (.ref c_NoDeal)
 c_NoLayer:Addr
 m_NoLayer:mg "NoLayer" = some (.ref c_NoLayer)
 c_NoMember:Addr
 m_NoMember:mg "NoMember" = some (.ref c_NoMember)
 c_NoPart:Addr
 m_NoPart:mg "NoPart" = some (.ref c_NoPart)
 c_NoRule:Addr
 m_NoRule:mg "NoRule" = some (.ref c_NoRule)
 c_NoTerms:Addr
 m_NoTerms:mg "NoTerms" = some (.ref c_NoTerms)
 c_Out:Addr
 m_Out:mg "Out" = some (.ref c_Out)
 c_Poor:Addr
 m_Poor:mg "Poor" = some (.ref c_Poor)
 c_QuitsError:Addr
 m_QuitsError:mg "QuitsError" = some (.ref c_QuitsError)
 c_Settled:Addr
 m_Settled:mg "Settled" = some (.ref c_Settled)
 e_Bare:errOk K c_Bare=true
 i_Bare_Bare:PySem.W.kitOne K (.ref c_Bare) (.ref c_Bare)=some true
 i_Bare_Closed:PySem.W.kitOne K (.ref c_Bare) (.ref c_Closed)=some false
 i_Bare_Gone:PySem.W.kitOne K (.ref c_Bare) (.ref c_Gone)=some false
 i_Bare_NoDeal:PySem.W.kitOne K (.ref c_Bare) (.ref c_NoDeal)=some false
 i_Bare_NoLayer:PySem.W.kitOne K (.ref c_Bare) (.ref c_NoLayer)=some false
 i_Bare_NoMember:PySem.W.kitOne K (.ref c_Bare) (.ref c_NoMember)=some false
 i_Bare_NoPart:PySem.W.kitOne K (.ref c_Bare) (.ref c_NoPart)=some false
 i_Bare_NoRule:PySem.W.kitOne K (.ref c_Bare) (.ref c_NoRule)=some false
 i_Bare_NoTerms:PySem.W.kitOne K (.ref c_Bare) (.ref c_NoTerms)=some false
 i_Bare_Out:PySem.W.kitOne K (.ref c_Bare) (.ref c_Out)=some false
 i_Bare_Poor:PySem.W.kitOne K (.ref c_Bare) (.ref c_Poor)=some false
 i_Bare_QuitsError:PySem.W.kitOne K (.ref c_Bare) (.ref c_QuitsError)=some true
 i_Bare_Settled:PySem.W.kitOne K (.ref c_Bare) (.ref c_Settled)=some false
 i_Bare_ValueError:PySem.W.kitOne K (.ref c_Bare) (.type "ValueError")=some true
 q_Bare_QuitsError:PySem.W.exmOne K (.ref c_Bare) (.ref c_QuitsError)=some true
 e_Closed:errOk K c_Closed=true
 i_Closed_Bare:PySem.W.kitOne K (.ref c_Closed) (.ref c_Bare)=some false
 i_Closed_Closed:PySem.W.kitOne K (.ref c_Closed) (.ref c_Closed)=some true
 i_Closed_Gone:PySem.W.kitOne K (.ref c_Closed) (.ref c_Gone)=some false
 i_Closed_NoDeal:PySem.W.kitOne K (.ref c_Closed) (.ref c_NoDeal)=some false
 i_Closed_NoLayer:PySem.W.kitOne K (.ref c_Closed) (.ref c_NoLayer)=some false
 i_Closed_NoMember:PySem.W.kitOne K (.ref c_Closed) (.ref c_NoMember)=some false
 i_Closed_NoPart:PySem.W.kitOne K (.ref c_Closed) (.ref c_NoPart)=some false
 i_Closed_NoRule:PySem.W.kitOne K (.ref c_Closed) (.ref c_NoRule)=some false
 i_Closed_NoTerms:PySem.W.kitOne K (.ref c_Closed) (.ref c_NoTerms)=some false
 i_Closed_Out:PySem.W.kitOne K (.ref c_Closed) (.ref c_Out)=some false
 i_Closed_Poor:PySem.W.kitOne K (.ref c_Closed) (.ref c_Poor)=some false
 i_Closed_QuitsError:PySem.W.kitOne K (.ref c_Closed) (.ref c_QuitsError)=some true
 i_Closed_Settled:PySem.W.kitOne K (.ref c_Closed) (.ref c_Settled)=some false
 i_Closed_ValueError:PySem.W.kitOne K (.ref c_Closed) (.type "ValueError")=some true
 q_Closed_QuitsError:PySem.W.exmOne K (.ref c_Closed) (.ref c_QuitsError)=some true
 e_Gone:errOk K c_Gone=true
 i_Gone_Bare:PySem.W.kitOne K (.ref c_Gone) (.ref c_Bare)=some false
 i_Gone_Closed:PySem.W.kitOne K (.ref c_Gone) (.ref c_Closed)=some false
 i_Gone_Gone:PySem.W.kitOne K (.ref c_Gone) (.ref c_Gone)=some true
 i_Gone_NoDeal:PySem.W.kitOne K (.ref c_Gone) (.ref c_NoDeal)=some false
 i_Gone_NoLayer:PySem.W.kitOne K (.ref c_Gone) (.ref c_NoLayer)=some false
 i_Gone_NoMember:PySem.W.kitOne K (.ref c_Gone) (.ref c_NoMember)=some false
 i_Gone_NoPart:PySem.W.kitOne K (.ref c_Gone) (.ref c_NoPart)=some false
 i_Gone_NoRule:PySem.W.kitOne K (.ref c_Gone) (.ref c_NoRule)=some false
 i_Gone_NoTerms:PySem.W.kitOne K (.ref c_Gone) (.ref c_NoTerms)=some false
 i_Gone_Out:PySem.W.kitOne K (.ref c_Gone) (.ref c_Out)=some false
 i_Gone_Poor:PySem.W.kitOne K (.ref c_Gone) (.ref c_Poor)=some false
 i_Gone_QuitsError:PySem.W.kitOne K (.ref c_Gone) (.ref c_QuitsError)=some true
 i_Gone_Settled:PySem.W.kitOne K (.ref c_Gone) (.ref c_Settled)=some false
 i_Gone_ValueError:PySem.W.kitOne K (.ref c_Gone) (.type "ValueError")=some true
 q_Gone_QuitsError:PySem.W.exmOne K (.ref c_Gone) (.ref c_QuitsError)=some true
 e_NoDeal:errOk K c_NoDeal=true
 i_NoDeal_Bare:PySem.W.kitOne K (.ref c_NoDeal) (.ref c_Bare)=some false
 i_NoDeal_Closed:PySem.W.kitOne K (.ref c_NoDeal) (.ref c_Closed)=some false
 i_NoDeal_Gone:PySem.W.kitOne K (.ref c_NoDeal) (.ref c_Gone)=some false
 i_NoDeal_NoDeal:PySem.W.kitOne K (.ref c_NoDeal) (.ref c_NoDeal)=some true
 i_NoDeal_NoLayer:PySem.W.kitOne K (.ref c_NoDeal) (.ref c_NoLayer)=some false
 i_NoDeal_NoMember:PySem.W.kitOne K (.ref c_NoDeal) (.ref c_NoMember)=some false
 i_NoDeal_NoPart:PySem.W.kitOne K (.ref c_NoDeal) (.ref c_NoPart)=some false
 i_NoDeal_NoRule:PySem.W.kitOne K (.ref c_NoDeal) (.ref c_NoRule)=some false
 i_NoDeal_NoTerms:PySem.W.kitOne K (.ref c_NoDeal) (.ref c_NoTerms)=some false
 i_NoDeal_Out:PySem.W.kitOne K (.ref c_NoDeal) (.ref c_Out)=some false
 i_NoDeal_Poor:PySem.W.kitOne K (.ref c_NoDeal) (.ref c_Poor)=some false
 i_NoDeal_QuitsError:PySem.W.kitOne K (.ref c_NoDeal) (.ref c_QuitsError)=some true
 i_NoDeal_Settled:PySem.W.kitOne K (.ref c_NoDeal) (.ref c_Settled)=some false
 i_NoDeal_ValueError:PySem.W.kitOne K (.ref c_NoDeal) (.type "ValueError")=some true
 q_NoDeal_QuitsError:PySem.W.exmOne K (.ref c_NoDeal) (.ref c_QuitsError)=some true
 e_NoLayer:errOk K c_NoLayer=true
 i_NoLayer_Bare:PySem.W.kitOne K (.ref c_NoLayer) (.ref c_Bare)=some false
 i_NoLayer_Closed:PySem.W.kitOne K (.ref c_NoLayer) (.ref c_Closed)=some false
 i_NoLayer_Gone:PySem.W.kitOne K (.ref c_NoLayer) (.ref c_Gone)=some false
 i_NoLayer_NoDeal:PySem.W.kitOne K (.ref c_NoLayer) (.ref c_NoDeal)=some false
 i_NoLayer_NoLayer:PySem.W.kitOne K (.ref c_NoLayer) (.ref c_NoLayer)=some true
 i_NoLayer_NoMember:PySem.W.kitOne K (.ref c_NoLayer) (.ref c_NoMember)=some false
 i_NoLayer_NoPart:PySem.W.kitOne K (.ref c_NoLayer) (.ref c_NoPart)=some false
 i_NoLayer_NoRule:PySem.W.kitOne K (.ref c_NoLayer) (.ref c_NoRule)=some false
 i_NoLayer_NoTerms:PySem.W.kitOne K (.ref c_NoLayer) (.ref c_NoTerms)=some false
 i_NoLayer_Out:PySem.W.kitOne K (.ref c_NoLayer) (.ref c_Out)=some false
 i_NoLayer_Poor:PySem.W.kitOne K (.ref c_NoLayer) (.ref c_Poor)=some false
 i_NoLayer_QuitsError:PySem.W.kitOne K (.ref c_NoLayer) (.ref c_QuitsError)=some true
 i_NoLayer_Settled:PySem.W.kitOne K (.ref c_NoLayer) (.ref c_Settled)=some false
 i_NoLayer_ValueError:PySem.W.kitOne K (.ref c_NoLayer) (.type "ValueError")=some true
 q_NoLayer_QuitsError:PySem.W.exmOne K (.ref c_NoLayer) (.ref c_QuitsError)=some true
 e_NoMember:errOk K c_NoMember=true
 i_NoMember_Bare:PySem.W.kitOne K (.ref c_NoMember) (.ref c_Bare)=some false
 i_NoMember_Closed:PySem.W.kitOne K (.ref c_NoMember) (.ref c_Closed)=some false
 i_NoMember_Gone:PySem.W.kitOne K (.ref c_NoMember) (.ref c_Gone)=some false
 i_NoMember_NoDeal:PySem.W.kitOne K (.ref c_NoMember) (.ref c_NoDeal)=some false
 i_NoMember_NoLayer:PySem.W.kitOne K (.ref c_NoMember) (.ref c_NoLayer)=some false
 i_NoMember_NoMember:PySem.W.kitOne K (.ref c_NoMember) (.ref c_NoMember)=some true
 i_NoMember_NoPart:PySem.W.kitOne K (.ref c_NoMember) (.ref c_NoPart)=some false
 i_NoMember_NoRule:PySem.W.kitOne K (.ref c_NoMember) (.ref c_NoRule)=some false
 i_NoMember_NoTerms:PySem.W.kitOne K (.ref c_NoMember) (.ref c_NoTerms)=some false
 i_NoMember_Out:PySem.W.kitOne K (.ref c_NoMember) (.ref c_Out)=some false
 i_NoMember_Poor:PySem.W.kitOne K (.ref c_NoMember) (.ref c_Poor)=some false
 i_NoMember_QuitsError:PySem.W.kitOne K (.ref c_NoMember) (.ref c_QuitsError)=some true
 i_NoMember_Settled:PySem.W.kitOne K (.ref c_NoMember) (.ref c_Settled)=some false
 i_NoMember_ValueError:PySem.W.kitOne K (.ref c_NoMember) (.type "ValueError")=some true
 q_NoMember_QuitsError:PySem.W.exmOne K (.ref c_NoMember) (.ref c_QuitsError)=some true
 e_NoPart:errOk K c_NoPart=true
 i_NoPart_Bare:PySem.W.kitOne K (.ref c_NoPart) (.ref c_Bare)=some false
 i_NoPart_Closed:PySem.W.kitOne K (.ref c_NoPart) (.ref c_Closed)=some false
 i_NoPart_Gone:PySem.W.kitOne K (.ref c_NoPart) (.ref c_Gone)=some false
 i_NoPart_NoDeal:PySem.W.kitOne K (.ref c_NoPart) (.ref c_NoDeal)=some false
 i_NoPart_NoLayer:PySem.W.kitOne K (.ref c_NoPart) (.ref c_NoLayer)=some false
 i_NoPart_NoMember:PySem.W.kitOne K (.ref c_NoPart) (.ref c_NoMember)=some false
 i_NoPart_NoPart:PySem.W.kitOne K (.ref c_NoPart) (.ref c_NoPart)=some true
 i_NoPart_NoRule:PySem.W.kitOne K (.ref c_NoPart) (.ref c_NoRule)=some false
 i_NoPart_NoTerms:PySem.W.kitOne K (.ref c_NoPart) (.ref c_NoTerms)=some false
 i_NoPart_Out:PySem.W.kitOne K (.ref c_NoPart) (.ref c_Out)=some false
 i_NoPart_Poor:PySem.W.kitOne K (.ref c_NoPart) (.ref c_Poor)=some false
 i_NoPart_QuitsError:PySem.W.kitOne K (.ref c_NoPart) (.ref c_QuitsError)=some true
 i_NoPart_Settled:PySem.W.kitOne K (.ref c_NoPart) (.ref c_Settled)=some false
 i_NoPart_ValueError:PySem.W.kitOne K (.ref c_NoPart) (.type "ValueError")=some true
 q_NoPart_QuitsError:PySem.W.exmOne K (.ref c_NoPart) (.ref c_QuitsError)=some true
 e_NoRule:errOk K c_NoRule=true
 i_NoRule_Bare:PySem.W.kitOne K (.ref c_NoRule) (.ref c_Bare)=some false
 i_NoRule_Closed:PySem.W.kitOne K (.ref c_NoRule) (.ref c_Closed)=some false
 i_NoRule_Gone:PySem.W.kitOne K (.ref c_NoRule) (.ref c_Gone)=some false
 i_NoRule_NoDeal:PySem.W.kitOne K (.ref c_NoRule) (.ref c_NoDeal)=some false
 i_NoRule_NoLayer:PySem.W.kitOne K (.ref c_NoRule) (.ref c_NoLayer)=some false
 i_NoRule_NoMember:PySem.W.kitOne K (.ref c_NoRule) (.ref c_NoMember)=some false
 i_NoRule_NoPart:PySem.W.kitOne K (.ref c_NoRule) (.ref c_NoPart)=some false
 i_NoRule_NoRule:PySem.W.kitOne K (.ref c_NoRule) (.ref c_NoRule)=some true
 i_NoRule_NoTerms:PySem.W.kitOne K (.ref c_NoRule) (.ref c_NoTerms)=some false
 i_NoRule_Out:PySem.W.kitOne K (.ref c_NoRule) (.ref c_Out)=some false
 i_NoRule_Poor:PySem.W.kitOne K (.ref c_NoRule) (.ref c_Poor)=some false
 i_NoRule_QuitsError:PySem.W.kitOne K (.ref c_NoRule) (.ref c_QuitsError)=some true
 i_NoRule_Settled:PySem.W.kitOne K (.ref c_NoRule) (.ref c_Settled)=some false
 i_NoRule_ValueError:PySem.W.kitOne K (.ref c_NoRule) (.type "ValueError")=some true
 q_NoRule_QuitsError:PySem.W.exmOne K (.ref c_NoRule) (.ref c_QuitsError)=some true
 e_NoTerms:errOk K c_NoTerms=true
 i_NoTerms_Bare:PySem.W.kitOne K (.ref c_NoTerms) (.ref c_Bare)=some false
 i_NoTerms_Closed:PySem.W.kitOne K (.ref c_NoTerms) (.ref c_Closed)=some false
 i_NoTerms_Gone:PySem.W.kitOne K (.ref c_NoTerms) (.ref c_Gone)=some false
 i_NoTerms_NoDeal:PySem.W.kitOne K (.ref c_NoTerms) (.ref c_NoDeal)=some false
 i_NoTerms_NoLayer:PySem.W.kitOne K (.ref c_NoTerms) (.ref c_NoLayer)=some false
 i_NoTerms_NoMember:PySem.W.kitOne K (.ref c_NoTerms) (.ref c_NoMember)=some false
 i_NoTerms_NoPart:PySem.W.kitOne K (.ref c_NoTerms) (.ref c_NoPart)=some false
 i_NoTerms_NoRule:PySem.W.kitOne K (.ref c_NoTerms) (.ref c_NoRule)=some false
 i_NoTerms_NoTerms:PySem.W.kitOne K (.ref c_NoTerms) (.ref c_NoTerms)=some true
 i_NoTerms_Out:PySem.W.kitOne K (.ref c_NoTerms) (.ref c_Out)=some false
 i_NoTerms_Poor:PySem.W.kitOne K (.ref c_NoTerms) (.ref c_Poor)=some false
 i_NoTerms_QuitsError:PySem.W.kitOne K (.ref c_NoTerms) (.ref c_QuitsError)=some true
 i_NoTerms_Settled:PySem.W.kitOne K (.ref c_NoTerms) (.ref c_Settled)=some false
 i_NoTerms_ValueError:PySem.W.kitOne K (.ref c_NoTerms) (.type "ValueError")=some true
 q_NoTerms_QuitsError:PySem.W.exmOne K (.ref c_NoTerms) (.ref c_QuitsError)=some true
 e_Out:errOk K c_Out=true
 i_Out_Bare:PySem.W.kitOne K (.ref c_Out) (.ref c_Bare)=some false
 i_Out_Closed:PySem.W.kitOne K (.ref c_Out) (.ref c_Closed)=some false
 i_Out_Gone:PySem.W.kitOne K (.ref c_Out) (.ref c_Gone)=some false
 i_Out_NoDeal:PySem.W.kitOne K (.ref c_Out) (.ref c_NoDeal)=some false
 i_Out_NoLayer:PySem.W.kitOne K (.ref c_Out) (.ref c_NoLayer)=some false
 i_Out_NoMember:PySem.W.kitOne K (.ref c_Out) (.ref c_NoMember)=some false
 i_Out_NoPart:PySem.W.kitOne K (.ref c_Out) (.ref c_NoPart)=some false
 i_Out_NoRule:PySem.W.kitOne K (.ref c_Out) (.ref c_NoRule)=some false
 i_Out_NoTerms:PySem.W.kitOne K (.ref c_Out) (.ref c_NoTerms)=some false
 i_Out_Out:PySem.W.kitOne K (.ref c_Out) (.ref c_Out)=some true
 i_Out_Poor:PySem.W.kitOne K (.ref c_Out) (.ref c_Poor)=some false
 i_Out_QuitsError:PySem.W.kitOne K (.ref c_Out) (.ref c_QuitsError)=some true
 i_Out_Settled:PySem.W.kitOne K (.ref c_Out) (.ref c_Settled)=some false
 i_Out_ValueError:PySem.W.kitOne K (.ref c_Out) (.type "ValueError")=some true
 q_Out_QuitsError:PySem.W.exmOne K (.ref c_Out) (.ref c_QuitsError)=some true
 e_Poor:errOk K c_Poor=true
 i_Poor_Bare:PySem.W.kitOne K (.ref c_Poor) (.ref c_Bare)=some false
 i_Poor_Closed:PySem.W.kitOne K (.ref c_Poor) (.ref c_Closed)=some false
 i_Poor_Gone:PySem.W.kitOne K (.ref c_Poor) (.ref c_Gone)=some false
 i_Poor_NoDeal:PySem.W.kitOne K (.ref c_Poor) (.ref c_NoDeal)=some false
 i_Poor_NoLayer:PySem.W.kitOne K (.ref c_Poor) (.ref c_NoLayer)=some false
 i_Poor_NoMember:PySem.W.kitOne K (.ref c_Poor) (.ref c_NoMember)=some false
 i_Poor_NoPart:PySem.W.kitOne K (.ref c_Poor) (.ref c_NoPart)=some false
 i_Poor_NoRule:PySem.W.kitOne K (.ref c_Poor) (.ref c_NoRule)=some false
 i_Poor_NoTerms:PySem.W.kitOne K (.ref c_Poor) (.ref c_NoTerms)=some false
 i_Poor_Out:PySem.W.kitOne K (.ref c_Poor) (.ref c_Out)=some false
 i_Poor_Poor:PySem.W.kitOne K (.ref c_Poor) (.ref c_Poor)=some true
 i_Poor_QuitsError:PySem.W.kitOne K (.ref c_Poor) (.ref c_QuitsError)=some true
 i_Poor_Settled:PySem.W.kitOne K (.ref c_Poor) (.ref c_Settled)=some false
 i_Poor_ValueError:PySem.W.kitOne K (.ref c_Poor) (.type "ValueError")=some true
 q_Poor_QuitsError:PySem.W.exmOne K (.ref c_Poor) (.ref c_QuitsError)=some true
 e_Settled:errOk K c_Settled=true
 i_Settled_Bare:PySem.W.kitOne K (.ref c_Settled) (.ref c_Bare)=some false
 i_Settled_Closed:PySem.W.kitOne K (.ref c_Settled) (.ref c_Closed)=some false
 i_Settled_Gone:PySem.W.kitOne K (.ref c_Settled) (.ref c_Gone)=some false
 i_Settled_NoDeal:PySem.W.kitOne K (.ref c_Settled) (.ref c_NoDeal)=some false
 i_Settled_NoLayer:PySem.W.kitOne K (.ref c_Settled) (.ref c_NoLayer)=some false
 i_Settled_NoMember:PySem.W.kitOne K (.ref c_Settled) (.ref c_NoMember)=some false
 i_Settled_NoPart:PySem.W.kitOne K (.ref c_Settled) (.ref c_NoPart)=some false
 i_Settled_NoRule:PySem.W.kitOne K (.ref c_Settled) (.ref c_NoRule)=some false
 i_Settled_NoTerms:PySem.W.kitOne K (.ref c_Settled) (.ref c_NoTerms)=some false
 i_Settled_Out:PySem.W.kitOne K (.ref c_Settled) (.ref c_Out)=some false
 i_Settled_Poor:PySem.W.kitOne K (.ref c_Settled) (.ref c_Poor)=some false
 i_Settled_QuitsError:PySem.W.kitOne K (.ref c_Settled) (.ref c_QuitsError)=some true
 i_Settled_Settled:PySem.W.kitOne K (.ref c_Settled) (.ref c_Settled)=some true
 i_Settled_ValueError:PySem.W.kitOne K (.ref c_Settled) (.type "ValueError")=some true
 q_Settled_QuitsError:PySem.W.exmOne K (.ref c_Settled) (.ref c_QuitsError)=some true
 c_Book:Addr
 m_Book:mg "Book" = some (.ref c_Book)
 cl_Book:Cls K c_Book
 na_Book_day:NoAttr K c_Book "day"
 na_Book_deals:NoAttr K c_Book "deals"
 na_Book_many:NoAttr K c_Book "many"
 na_Book_wares:NoAttr K c_Book "wares"
 c_House:Addr
 m_House:mg "House" = some (.ref c_House)
 cl_House:Cls K c_House
 na_House_book:NoAttr K c_House "book"
 na_House_kept:NoAttr K c_House "kept"
 na_House_moves:NoAttr K c_House "moves"
 na_House_order:NoAttr K c_House "order"
 na_House_outs:NoAttr K c_House "outs"
 na_House_pledges:NoAttr K c_House "pledges"
 na_House_purses:NoAttr K c_House "purses"
 na_House_reports:NoAttr K c_House "reports"
 na_House_rule:NoAttr K c_House "rule"
 na_House_shares:NoAttr K c_House "shares"
 t_MOST_AMOUNT:Tok
 g_MOST_AMOUNT:mg "MOST_AMOUNT" = some (.int 1000000000 t_MOST_AMOUNT)
 t_MOST_COINS:Tok
 g_MOST_COINS:mg "MOST_COINS" = some (.int 1000000000 t_MOST_COINS)
 t_MOST_DAY:Tok
 g_MOST_DAY:mg "MOST_DAY" = some (.int 1000000 t_MOST_DAY)
 t_MOST_UNITS:Tok
 g_MOST_UNITS:mg "MOST_UNITS" = some (.int 1000000 t_MOST_UNITS)
 t_PAYEE:Tok
 g_PAYEE:mg "PAYEE" = some (.int 1 t_PAYEE)
 t_PAYER:Tok
 g_PAYER:mg "PAYER" = some (.int 0 t_PAYER)
 t_STATE:Tok
 g_STATE:mg "STATE" = some (.int 7 t_STATE)
 t_UNITS:Tok
 g_UNITS:mg "UNITS" = some (.int 3 t_UNITS)
 t_WARE:Tok
 g_WARE:mg "WARE" = some (.int 2 t_WARE)
 a_WORDS:Addr
 g_WORDS:mg "WORDS" = some (.ref a_WORDS)
 q_WORDS:∀H:Hp,SqT K H a_WORDS [.str "pledge",.str "share",.str "own",.str "others",.str "level"]
 d_Book___init__:DfnM K c_Book "__init__" "Book.__init__" zaE ["self", "many", "wares"]
 mk_Book:Mk K c_Book d_Book___init__.a
 d_Book_strike:DfnM K c_Book "strike" "Book.strike" za9 ["self", "payer", "payee", "ware", "units", "amount", "day", "rank"]
 d_Book_check_members:DfnM K c_Book "check_members" "Book.check_members" z7 ["self", "payer", "payee"]
 d_Book_check_terms:DfnM K c_Book "check_terms" "Book.check_terms" zah ["self", "ware", "units", "amount", "day", "rank"]
 d_Book_break_off:DfnM K c_Book "break_off" "Book.break_off" zat ["self", "number"]
 d_Book_standing_deal:DfnM K c_Book "standing_deal" "Book.standing_deal" zaa ["self", "number"]
 d_Book_put_state:DfnM K c_Book "put_state" "Book.put_state" zav ["self", "number", "state"]
 d_Book_deal:DfnM K c_Book "deal" "Book.deal" zbB ["self", "number"]
 d_Book_position:DfnM K c_Book "position" "Book.position" zaC ["self", "member"]
 d_House___init__:DfnM K c_House "__init__" "House.__init__" zas ["self", "members", "moves", "rule", "order", "own"]
 mk_House:Mk K c_House d_House___init__.a
 d_House_put:DfnM K c_House "put" "House.put" zbz ["self", "member", "coins"]
 d_House_lay:DfnM K c_House "lay" "House.lay" zbE ["self", "member", "coins"]
 d_House_free:DfnM K c_House "free" "House.free" zbo ["self", "member", "coins"]
 d_House_check_coins:DfnM K c_House "check_coins" "House.check_coins" zac ["self", "member", "coins"]
 d_House_strike:DfnM K c_House "strike" "House.strike" zaQ ["self", "payer", "payee", "ware", "units", "amount", "day", "rank"]
 d_House_break_off:DfnM K c_House "break_off" "House.break_off" zal ["self", "number"]
 d_House_pledge:DfnM K c_House "pledge" "House.pledge" zaN ["self", "member"]
 d_House_need:DfnM K c_House "need" "House.need" zbm ["self", "member"]
 d_House_need_with:DfnM K c_House "need_with" "House.need_with" zak ["self", "member", "ware", "units"]
 d_House_deal:DfnM K c_House "deal" "House.deal" zbl ["self", "number"]
 d_House_position:DfnM K c_House "position" "House.position" zar ["self", "member"]
 d_check_order:Dfn K mg "check_order" "check_order" za7 ["order"]
 d_divisor:Dfn K mg "divisor" "divisor" zbW ["one", "other"]
 d_part:Dfn K mg "part" "part" zcZ ["top", "bottom"]
 d_under:Dfn K mg "under" "under" zcC ["one", "other"]
 d_losses_of:Dfn K mg "losses_of" "losses_of" zby ["position", "moves"]
 d_worst_days:Dfn K mg "worst_days" "worst_days" zbk ["position", "moves", "k"]
 d_need_of:Dfn K mg "need_of" "need_of" zbX ["rule", "position", "moves"]
 d_check_rule:Dfn K mg "check_rule" "check_rule" zbr ["rule", "moves"]
 d_check_enough:Dfn K mg "check_enough" "check_enough" zaP ["coins", "wanted"]
 d_check_covered:Dfn K mg "check_covered" "check_covered" zaD ["pledge", "need"]
 d__law_cell:Dfn K mg "_law_cell" "_law_cell" zbD ["_law_script", "_law_k"]
 d__law_draw:Dfn K mg "_law_draw" "_law_draw" zbH ["_law_script", "_law_k", "_law_many"]
 d__law_great:Dfn K mg "_law_great" "_law_great" zbj ["_law_script", "_law_k", "_law_many"]
 d__law_pledge:Dfn K mg "_law_pledge" "_law_pledge" za5 ["_law_script", "_law_k"]
 d__law_moves:Dfn K mg "_law_moves" "_law_moves" zbh ["_law_script", "_law_start", "_law_days", "_law_wares"]
 d__law_loss:Dfn K mg "_law_loss" "_law_loss" zbC ["_law_position", "_law_move"]
 d__law_need:Dfn K mg "_law_need" "_law_need" zbx ["_law_position", "_law_rule", "_law_moves_here"]
 d__law_positions:Dfn K mg "_law_positions" "_law_positions" zau ["_law_rows", "_law_many", "_law_wares"]
 d__law_part_is:Dfn K mg "_law_part_is" "_law_part_is" zaR ["_law_told", "_law_due"]
 d__law_stands:Dfn K mg "_law_stands" "_law_stands" za6 ["_law_house", "_law_rows", "_law_pledges", "_law_rule", "_law_moves_here"]
 d__law_name:Dfn K mg "_law_name" "_law_name" zbG ["_law_e"]
 d__law_done:Dfn K mg "_law_done" "_law_done" zbA ["_law_house", "_law_deed_here"]
 d__law_found:Dfn K mg "_law_found" "_law_found" zbg ["_law_house", "_law_deed_here"]
 d__law_deed:Dfn K mg "_law_deed" "_law_deed" zbF ["_law_script", "_law_at", "_law_many", "_law_wares"]
 d__law_short_of:Dfn K mg "_law_short_of" "_law_short_of" zaG ["_law_rows", "_law_pledges", "_law_rule", "_law_moves_here", "_law_deed_here"]
 d__law_struck:Dfn K mg "_law_struck" "_law_struck" za4 ["_law_house", "_law_rows", "_law_pledges", "_law_rule", "_law_moves_here", "_law_deed_here"]
 d__law_freed:Dfn K mg "_law_freed" "_law_freed" zbq ["_law_script", "_law_at", "_law_house", "_law_rows", "_law_pledges", "_law_rule", "_law_moves_here"]
 d_law:Dfn K mg "law" "law" zdk ["_law_script"]
 cw_worst_days:Addr
 tw_worst_days:Addr
 tb_worst_days:PySem.W.tabIn K "worst_days" = some (cw_worst_days,tw_worst_days)
 cc_worst_days:d_worst_days.fd.code=.ref cw_worst_days
 bl_law:∀(s:Shared) (v:Value),BindsTo s d_law.fd ⟨[v],[]⟩ [("_law_script",v)]
 z_ValueError:mg "ValueError" = none
 z_abs:mg "abs" = none
 z_bool:mg "bool" = none
 z_enumerate:mg "enumerate" = none
 z_int:mg "int" = none
 z_isinstance:mg "isinstance" = none
 z_len:mg "len" = none
 z_list:mg "list" = none
 z_max:mg "max" = none
 z_min:mg "min" = none
 z_range:mg "range" = none
 z_sorted:mg "sorted" = none
 z_sum:mg "sum" = none
 z_tuple:mg "tuple" = none
 z_zip:mg "zip" = none
def txt_mk{K:Fg}{h:Heap}{mg:Str->Option Value}(X:K.In h)(G:h.Ns mainGlobals mg)
 {c_Bare:Addr}
 {c_Closed:Addr}
 {c_Gone:Addr}
 {c_NoDeal:Addr}
 {c_NoLayer:Addr}
 {c_NoMember:Addr}
 {c_NoPart:Addr}
 {c_NoRule:Addr}
 {c_NoTerms:Addr}
 {c_Out:Addr}
 {c_Poor:Addr}
 {c_QuitsError:Addr}
 {c_Settled:Addr}
 {c_Book:Addr}
 {c_House:Addr}
 {t_MOST_AMOUNT:Tok}
 {t_MOST_COINS:Tok}
 {t_MOST_DAY:Tok}
 {t_MOST_UNITS:Tok}
 {t_PAYEE:Tok}
 {t_PAYER:Tok}
 {t_STATE:Tok}
 {t_UNITS:Tok}
 {t_WARE:Tok}
 {w_WORDS:Addr} {od_WORDS:Option Addr} {n_WORDS:Nat} {sl_WORDS:Array (Option Value)} {k0_WORDS:Tok} {k1_WORDS:Tok} {k2_WORDS:Tok} {k3_WORDS:Tok} {k4_WORDS:Tok}
 {f0:Addr} {o0 v0 e0 p0 q0 t0:Value} {d0 n0:Option Addr} {r0:Array (Option Value)}
 {f1:Addr} {o1 v1 e1 p1 q1 t1:Value} {d1 n1:Option Addr} {r1:Array (Option Value)}
 {f2:Addr} {o2 v2 e2 p2 q2 t2:Value} {d2 n2:Option Addr} {r2:Array (Option Value)}
 {f3:Addr} {o3 v3 e3 p3 q3 t3:Value} {d3 n3:Option Addr} {r3:Array (Option Value)}
 {f4:Addr} {o4 v4 e4 p4 q4 t4:Value} {d4 n4:Option Addr} {r4:Array (Option Value)}
 {f5:Addr} {o5 v5 e5 p5 q5 t5:Value} {d5 n5:Option Addr} {r5:Array (Option Value)}
 {f6:Addr} {o6 v6 e6 p6 q6 t6:Value} {d6 n6:Option Addr} {r6:Array (Option Value)}
 {f7:Addr} {o7 v7 e7 p7 q7 t7:Value} {d7 n7:Option Addr} {r7:Array (Option Value)}
 {f8:Addr} {o8 v8 e8 p8 q8 t8:Value} {d8 n8:Option Addr} {r8:Array (Option Value)}
 {f9:Addr} {o9 v9 e9 p9 q9 t9:Value} {d9 n9:Option Addr} {r9:Array (Option Value)}
 {f10:Addr} {o10 v10 e10 p10 q10 t10:Value} {d10 n10:Option Addr} {r10:Array (Option Value)}
 {f11:Addr} {o11 v11 e11 p11 q11 t11:Value} {d11 n11:Option Addr} {r11:Array (Option Value)}
 {f12:Addr} {o12 v12 e12 p12 q12 t12:Value} {d12 n12:Option Addr} {r12:Array (Option Value)}
 {f13:Addr} {o13 v13 e13 p13 q13 t13:Value} {d13 n13:Option Addr} {r13:Array (Option Value)}
 {f14:Addr} {o14 v14 e14 p14 q14 t14:Value} {d14 n14:Option Addr} {r14:Array (Option Value)}
 {f15:Addr} {o15 v15 e15 p15 q15 t15:Value} {d15 n15:Option Addr} {r15:Array (Option Value)}
 {f16:Addr} {o16 v16 e16 p16 q16 t16:Value} {d16 n16:Option Addr} {r16:Array (Option Value)}
 {f17:Addr} {o17 v17 e17 p17 q17 t17:Value} {d17 n17:Option Addr} {r17:Array (Option Value)}
 {f18:Addr} {o18 v18 e18 p18 q18 t18:Value} {d18 n18:Option Addr} {r18:Array (Option Value)}
 {f19:Addr} {o19 v19 e19 p19 q19 t19:Value} {d19 n19:Option Addr} {r19:Array (Option Value)}
 {f20:Addr} {o20 v20 e20 p20 q20 t20:Value} {d20 n20:Option Addr} {r20:Array (Option Value)}
 {f21:Addr} {o21 v21 e21 p21 q21 t21:Value} {d21 n21:Option Addr} {r21:Array (Option Value)}
 {f22:Addr} {o22 v22 e22 p22 q22 t22:Value} {d22 n22:Option Addr} {r22:Array (Option Value)}
 {f23:Addr} {o23 v23 e23 p23 q23 t23:Value} {d23 n23:Option Addr} {r23:Array (Option Value)}
 {f24:Addr} {o24 v24 e24 p24 q24 t24:Value} {d24 n24:Option Addr} {r24:Array (Option Value)}
 {f25:Addr} {o25 v25 e25 p25 q25 t25:Value} {d25 n25:Option Addr} {r25:Array (Option Value)}
 {f26:Addr} {o26 v26 e26 p26 q26 t26:Value} {d26 n26:Option Addr} {r26:Array (Option Value)}
 {f27:Addr} {o27 v27 e27 p27 q27 t27:Value} {d27 n27:Option Addr} {r27:Array (Option Value)}
 {f28:Addr} {o28 v28 e28 p28 q28 t28:Value} {d28 n28:Option Addr} {r28:Array (Option Value)}
 {f29:Addr} {o29 v29 e29 p29 q29 t29:Value} {d29 n29:Option Addr} {r29:Array (Option Value)}
 {f30:Addr} {o30 v30 e30 p30 q30 t30:Value} {d30 n30:Option Addr} {r30:Array (Option Value)}
 {f31:Addr} {o31 v31 e31 p31 q31 t31:Value} {d31 n31:Option Addr} {r31:Array (Option Value)}
 {f32:Addr} {o32 v32 e32 p32 q32 t32:Value} {d32 n32:Option Addr} {r32:Array (Option Value)}
 {f33:Addr} {o33 v33 e33 p33 q33 t33:Value} {d33 n33:Option Addr} {r33:Array (Option Value)}
 {f34:Addr} {o34 v34 e34 p34 q34 t34:Value} {d34 n34:Option Addr} {r34:Array (Option Value)}
 {f35:Addr} {o35 v35 e35 p35 q35 t35:Value} {d35 n35:Option Addr} {r35:Array (Option Value)}
 {f36:Addr} {o36 v36 e36 p36 q36 t36:Value} {d36 n36:Option Addr} {r36:Array (Option Value)}
 {f37:Addr} {o37 v37 e37 p37 q37 t37:Value} {d37 n37:Option Addr} {r37:Array (Option Value)}
 {f38:Addr} {o38 v38 e38 p38 q38 t38:Value} {d38 n38:Option Addr} {r38:Array (Option Value)}
 {f39:Addr} {o39 v39 e39 p39 q39 t39:Value} {d39 n39:Option Addr} {r39:Array (Option Value)}
 {f40:Addr} {o40 v40 e40 p40 q40 t40:Value} {d40 n40:Option Addr} {r40:Array (Option Value)}
 {f41:Addr} {o41 v41 e41 p41 q41 t41:Value} {d41 n41:Option Addr} {r41:Array (Option Value)}
 {f42:Addr} {o42 v42 e42 p42 q42 t42:Value} {d42 n42:Option Addr} {r42:Array (Option Value)}
 {f43:Addr} {o43 v43 e43 p43 q43 t43:Value} {d43 n43:Option Addr} {r43:Array (Option Value)}
 {f44:Addr} {o44 v44 e44 p44 q44 t44:Value} {d44 n44:Option Addr} {r44:Array (Option Value)}
 {f45:Addr} {o45 v45 e45 p45 q45 t45:Value} {d45 n45:Option Addr} {r45:Array (Option Value)}
 {f46:Addr} {o46 v46 e46 p46 q46 t46:Value} {d46 n46:Option Addr} {r46:Array (Option Value)}
 {f47:Addr} {o47 v47 e47 p47 q47 t47:Value} {d47 n47:Option Addr} {r47:Array (Option Value)}
 {f48:Addr} {o48 v48 e48 p48 q48 t48:Value} {d48 n48:Option Addr} {r48:Array (Option Value)}
 {cw_worst_days tw_worst_days:Addr} {ow_worst_days:Value} {xw_worst_days:Option Addr} {vw_worst_days:Array Value} {sw_worst_days:Array (Option Value)}
 (m_Bare:PySem.W.nsIn K mainGlobals "Bare" = some (some (.ref c_Bare)))
 (m_Closed:PySem.W.nsIn K mainGlobals "Closed" = some (some (.ref c_Closed)))
 (m_Gone:PySem.W.nsIn K mainGlobals "Gone" = some (some (.ref c_Gone)))
 (m_NoDeal:PySem.W.nsIn K mainGlobals "NoDeal" = some (some (.ref c_NoDeal)))
 (m_NoLayer:PySem.W.nsIn K mainGlobals "NoLayer" = some (some (.ref c_NoLayer)))
 (m_NoMember:PySem.W.nsIn K mainGlobals "NoMember" = some (some (.ref c_NoMember)))
 (m_NoPart:PySem.W.nsIn K mainGlobals "NoPart" = some (some (.ref c_NoPart)))
 (m_NoRule:PySem.W.nsIn K mainGlobals "NoRule" = some (some (.ref c_NoRule)))
 (m_NoTerms:PySem.W.nsIn K mainGlobals "NoTerms" = some (some (.ref c_NoTerms)))
 (m_Out:PySem.W.nsIn K mainGlobals "Out" = some (some (.ref c_Out)))
 (m_Poor:PySem.W.nsIn K mainGlobals "Poor" = some (some (.ref c_Poor)))
 (m_QuitsError:PySem.W.nsIn K mainGlobals "QuitsError" = some (some (.ref c_QuitsError)))
 (m_Settled:PySem.W.nsIn K mainGlobals "Settled" = some (some (.ref c_Settled)))
 (hd_Bare:PySem.W.hasDictIn K c_Bare=true) (ty_Bare:PySem.W.typeIn K (.ref c_Bare)=some (.type "type"))
 (hd_Closed:PySem.W.hasDictIn K c_Closed=true) (ty_Closed:PySem.W.typeIn K (.ref c_Closed)=some (.type "type"))
 (hd_Gone:PySem.W.hasDictIn K c_Gone=true) (ty_Gone:PySem.W.typeIn K (.ref c_Gone)=some (.type "type"))
 (hd_NoDeal:PySem.W.hasDictIn K c_NoDeal=true) (ty_NoDeal:PySem.W.typeIn K (.ref c_NoDeal)=some (.type "type"))
 (hd_NoLayer:PySem.W.hasDictIn K c_NoLayer=true) (ty_NoLayer:PySem.W.typeIn K (.ref c_NoLayer)=some (.type "type"))
 (hd_NoMember:PySem.W.hasDictIn K c_NoMember=true) (ty_NoMember:PySem.W.typeIn K (.ref c_NoMember)=some (.type "type"))
 (hd_NoPart:PySem.W.hasDictIn K c_NoPart=true) (ty_NoPart:PySem.W.typeIn K (.ref c_NoPart)=some (.type "type"))
 (hd_NoRule:PySem.W.hasDictIn K c_NoRule=true) (ty_NoRule:PySem.W.typeIn K (.ref c_NoRule)=some (.type "type"))
 (hd_NoTerms:PySem.W.hasDictIn K c_NoTerms=true) (ty_NoTerms:PySem.W.typeIn K (.ref c_NoTerms)=some (.type "type"))
 (hd_Out:PySem.W.hasDictIn K c_Out=true) (ty_Out:PySem.W.typeIn K (.ref c_Out)=some (.type "type"))
 (hd_Poor:PySem.W.hasDictIn K c_Poor=true) (ty_Poor:PySem.W.typeIn K (.ref c_Poor)=some (.type "type"))
 (hd_QuitsError:PySem.W.hasDictIn K c_QuitsError=true) (ty_QuitsError:PySem.W.typeIn K (.ref c_QuitsError)=some (.type "type"))
 (hd_Settled:PySem.W.hasDictIn K c_Settled=true) (ty_Settled:PySem.W.typeIn K (.ref c_Settled)=some (.type "type"))
 (sn_:PySem.W.specialIn K (.builtin "object.__class__") "__get__" = some (some (.builtin "getset_descriptor.__get__"))) (tk_:PySem.W.takesIn K (.builtin "object.__class__")=some true)
 (b_QuitsError:PySem.W.subIn K (.ref c_QuitsError) (.type "BaseException")=some true)
 (x_Bare:PySem.W.excIn K c_Bare [.type "ValueError",.type "Exception",.type "BaseException",.type "object"] "ValueError.__new__" = true) (ga_Bare:PySem.W.findIn K (.ref c_Bare) "__getattribute__" = some (some (.builtin "BaseException.__getattribute__"))) (gn_Bare:PySem.W.findIn K (.ref c_Bare) "__getattr__" = some none) (be_Bare:PySem.W.mroIn K c_Bare (.type "BaseException")=some true) (fa_Bare:PySem.W.findIn K (.ref c_Bare) "__class__" = some (some (.builtin "object.__class__"))) (mo_Bare:PySem.W.mroIn K c_Bare (.type "object")=some true)
 (s_Bare_Bare:PySem.W.subIn K (.ref c_Bare) (.ref c_Bare)=some true)
 (s_Bare_Closed:PySem.W.subIn K (.ref c_Bare) (.ref c_Closed)=some false)
 (n_Bare_Closed:c_Bare≠c_Closed)
 (s_Bare_Gone:PySem.W.subIn K (.ref c_Bare) (.ref c_Gone)=some false)
 (n_Bare_Gone:c_Bare≠c_Gone)
 (s_Bare_NoDeal:PySem.W.subIn K (.ref c_Bare) (.ref c_NoDeal)=some false)
 (n_Bare_NoDeal:c_Bare≠c_NoDeal)
 (s_Bare_NoLayer:PySem.W.subIn K (.ref c_Bare) (.ref c_NoLayer)=some false)
 (n_Bare_NoLayer:c_Bare≠c_NoLayer)
 (s_Bare_NoMember:PySem.W.subIn K (.ref c_Bare) (.ref c_NoMember)=some false)
 (n_Bare_NoMember:c_Bare≠c_NoMember)
 (s_Bare_NoPart:PySem.W.subIn K (.ref c_Bare) (.ref c_NoPart)=some false)
 (n_Bare_NoPart:c_Bare≠c_NoPart)
 (s_Bare_NoRule:PySem.W.subIn K (.ref c_Bare) (.ref c_NoRule)=some false)
 (n_Bare_NoRule:c_Bare≠c_NoRule)
 (s_Bare_NoTerms:PySem.W.subIn K (.ref c_Bare) (.ref c_NoTerms)=some false)
 (n_Bare_NoTerms:c_Bare≠c_NoTerms)
 (s_Bare_Out:PySem.W.subIn K (.ref c_Bare) (.ref c_Out)=some false)
 (n_Bare_Out:c_Bare≠c_Out)
 (s_Bare_Poor:PySem.W.subIn K (.ref c_Bare) (.ref c_Poor)=some false)
 (n_Bare_Poor:c_Bare≠c_Poor)
 (s_Bare_QuitsError:PySem.W.subIn K (.ref c_Bare) (.ref c_QuitsError)=some true)
 (n_Bare_QuitsError:c_Bare≠c_QuitsError)
 (s_Bare_Settled:PySem.W.subIn K (.ref c_Bare) (.ref c_Settled)=some false)
 (n_Bare_Settled:c_Bare≠c_Settled)
 (v_Bare:PySem.W.subIn K (.ref c_Bare) (.type "ValueError")=some true)
 (x_Closed:PySem.W.excIn K c_Closed [.type "ValueError",.type "Exception",.type "BaseException",.type "object"] "ValueError.__new__" = true) (ga_Closed:PySem.W.findIn K (.ref c_Closed) "__getattribute__" = some (some (.builtin "BaseException.__getattribute__"))) (gn_Closed:PySem.W.findIn K (.ref c_Closed) "__getattr__" = some none) (be_Closed:PySem.W.mroIn K c_Closed (.type "BaseException")=some true) (fa_Closed:PySem.W.findIn K (.ref c_Closed) "__class__" = some (some (.builtin "object.__class__"))) (mo_Closed:PySem.W.mroIn K c_Closed (.type "object")=some true)
 (s_Closed_Bare:PySem.W.subIn K (.ref c_Closed) (.ref c_Bare)=some false)
 (n_Closed_Bare:c_Closed≠c_Bare)
 (s_Closed_Closed:PySem.W.subIn K (.ref c_Closed) (.ref c_Closed)=some true)
 (s_Closed_Gone:PySem.W.subIn K (.ref c_Closed) (.ref c_Gone)=some false)
 (n_Closed_Gone:c_Closed≠c_Gone)
 (s_Closed_NoDeal:PySem.W.subIn K (.ref c_Closed) (.ref c_NoDeal)=some false)
 (n_Closed_NoDeal:c_Closed≠c_NoDeal)
 (s_Closed_NoLayer:PySem.W.subIn K (.ref c_Closed) (.ref c_NoLayer)=some false)
 (n_Closed_NoLayer:c_Closed≠c_NoLayer)
 (s_Closed_NoMember:PySem.W.subIn K (.ref c_Closed) (.ref c_NoMember)=some false)
 (n_Closed_NoMember:c_Closed≠c_NoMember)
 (s_Closed_NoPart:PySem.W.subIn K (.ref c_Closed) (.ref c_NoPart)=some false)
 (n_Closed_NoPart:c_Closed≠c_NoPart)
 (s_Closed_NoRule:PySem.W.subIn K (.ref c_Closed) (.ref c_NoRule)=some false)
 (n_Closed_NoRule:c_Closed≠c_NoRule)
 (s_Closed_NoTerms:PySem.W.subIn K (.ref c_Closed) (.ref c_NoTerms)=some false)
 (n_Closed_NoTerms:c_Closed≠c_NoTerms)
 (s_Closed_Out:PySem.W.subIn K (.ref c_Closed) (.ref c_Out)=some false)
 (n_Closed_Out:c_Closed≠c_Out)
 (s_Closed_Poor:PySem.W.subIn K (.ref c_Closed) (.ref c_Poor)=some false)
 (n_Closed_Poor:c_Closed≠c_Poor)
 (s_Closed_QuitsError:PySem.W.subIn K (.ref c_Closed) (.ref c_QuitsError)=some true)
 (n_Closed_QuitsError:c_Closed≠c_QuitsError)
 (s_Closed_Settled:PySem.W.subIn K (.ref c_Closed) (.ref c_Settled)=some false)
 (n_Closed_Settled:c_Closed≠c_Settled)
 (v_Closed:PySem.W.subIn K (.ref c_Closed) (.type "ValueError")=some true)
 (x_Gone:PySem.W.excIn K c_Gone [.type "ValueError",.type "Exception",.type "BaseException",.type "object"] "ValueError.__new__" = true) (ga_Gone:PySem.W.findIn K (.ref c_Gone) "__getattribute__" = some (some (.builtin "BaseException.__getattribute__"))) (gn_Gone:PySem.W.findIn K (.ref c_Gone) "__getattr__" = some none) (be_Gone:PySem.W.mroIn K c_Gone (.type "BaseException")=some true) (fa_Gone:PySem.W.findIn K (.ref c_Gone) "__class__" = some (some (.builtin "object.__class__"))) (mo_Gone:PySem.W.mroIn K c_Gone (.type "object")=some true)
 (s_Gone_Bare:PySem.W.subIn K (.ref c_Gone) (.ref c_Bare)=some false)
 (n_Gone_Bare:c_Gone≠c_Bare)
 (s_Gone_Closed:PySem.W.subIn K (.ref c_Gone) (.ref c_Closed)=some false)
 (n_Gone_Closed:c_Gone≠c_Closed)
 (s_Gone_Gone:PySem.W.subIn K (.ref c_Gone) (.ref c_Gone)=some true)
 (s_Gone_NoDeal:PySem.W.subIn K (.ref c_Gone) (.ref c_NoDeal)=some false)
 (n_Gone_NoDeal:c_Gone≠c_NoDeal)
 (s_Gone_NoLayer:PySem.W.subIn K (.ref c_Gone) (.ref c_NoLayer)=some false)
 (n_Gone_NoLayer:c_Gone≠c_NoLayer)
 (s_Gone_NoMember:PySem.W.subIn K (.ref c_Gone) (.ref c_NoMember)=some false)
 (n_Gone_NoMember:c_Gone≠c_NoMember)
 (s_Gone_NoPart:PySem.W.subIn K (.ref c_Gone) (.ref c_NoPart)=some false)
 (n_Gone_NoPart:c_Gone≠c_NoPart)
 (s_Gone_NoRule:PySem.W.subIn K (.ref c_Gone) (.ref c_NoRule)=some false)
 (n_Gone_NoRule:c_Gone≠c_NoRule)
 (s_Gone_NoTerms:PySem.W.subIn K (.ref c_Gone) (.ref c_NoTerms)=some false)
 (n_Gone_NoTerms:c_Gone≠c_NoTerms)
 (s_Gone_Out:PySem.W.subIn K (.ref c_Gone) (.ref c_Out)=some false)
 (n_Gone_Out:c_Gone≠c_Out)
 (s_Gone_Poor:PySem.W.subIn K (.ref c_Gone) (.ref c_Poor)=some false)
 (n_Gone_Poor:c_Gone≠c_Poor)
 (s_Gone_QuitsError:PySem.W.subIn K (.ref c_Gone) (.ref c_QuitsError)=some true)
 (n_Gone_QuitsError:c_Gone≠c_QuitsError)
 (s_Gone_Settled:PySem.W.subIn K (.ref c_Gone) (.ref c_Settled)=some false)
 (n_Gone_Settled:c_Gone≠c_Settled)
 (v_Gone:PySem.W.subIn K (.ref c_Gone) (.type "ValueError")=some true)
 (x_NoDeal:PySem.W.excIn K c_NoDeal [.type "ValueError",.type "Exception",.type "BaseException",.type "object"] "ValueError.__new__" = true) (ga_NoDeal:PySem.W.findIn K (.ref c_NoDeal) "__getattribute__" = some (some (.builtin "BaseException.__getattribute__"))) (gn_NoDeal:PySem.W.findIn K (.ref c_NoDeal) "__getattr__" = some none) (be_NoDeal:PySem.W.mroIn K c_NoDeal (.type "BaseException")=some true) (fa_NoDeal:PySem.W.findIn K (.ref c_NoDeal) "__class__" = some (some (.builtin "object.__class__"))) (mo_NoDeal:PySem.W.mroIn K c_NoDeal (.type "object")=some true)
 (s_NoDeal_Bare:PySem.W.subIn K (.ref c_NoDeal) (.ref c_Bare)=some false)
 (n_NoDeal_Bare:c_NoDeal≠c_Bare)
 (s_NoDeal_Closed:PySem.W.subIn K (.ref c_NoDeal) (.ref c_Closed)=some false)
 (n_NoDeal_Closed:c_NoDeal≠c_Closed)
 (s_NoDeal_Gone:PySem.W.subIn K (.ref c_NoDeal) (.ref c_Gone)=some false)
 (n_NoDeal_Gone:c_NoDeal≠c_Gone)
 (s_NoDeal_NoDeal:PySem.W.subIn K (.ref c_NoDeal) (.ref c_NoDeal)=some true)
 (s_NoDeal_NoLayer:PySem.W.subIn K (.ref c_NoDeal) (.ref c_NoLayer)=some false)
 (n_NoDeal_NoLayer:c_NoDeal≠c_NoLayer)
 (s_NoDeal_NoMember:PySem.W.subIn K (.ref c_NoDeal) (.ref c_NoMember)=some false)
 (n_NoDeal_NoMember:c_NoDeal≠c_NoMember)
 (s_NoDeal_NoPart:PySem.W.subIn K (.ref c_NoDeal) (.ref c_NoPart)=some false)
 (n_NoDeal_NoPart:c_NoDeal≠c_NoPart)
 (s_NoDeal_NoRule:PySem.W.subIn K (.ref c_NoDeal) (.ref c_NoRule)=some false)
 (n_NoDeal_NoRule:c_NoDeal≠c_NoRule)
 (s_NoDeal_NoTerms:PySem.W.subIn K (.ref c_NoDeal) (.ref c_NoTerms)=some false)
 (n_NoDeal_NoTerms:c_NoDeal≠c_NoTerms)
 (s_NoDeal_Out:PySem.W.subIn K (.ref c_NoDeal) (.ref c_Out)=some false)
 (n_NoDeal_Out:c_NoDeal≠c_Out)
 (s_NoDeal_Poor:PySem.W.subIn K (.ref c_NoDeal) (.ref c_Poor)=some false)
 (n_NoDeal_Poor:c_NoDeal≠c_Poor)
 (s_NoDeal_QuitsError:PySem.W.subIn K (.ref c_NoDeal) (.ref c_QuitsError)=some true)
 (n_NoDeal_QuitsError:c_NoDeal≠c_QuitsError)
 (s_NoDeal_Settled:PySem.W.subIn K (.ref c_NoDeal) (.ref c_Settled)=some false)
 (n_NoDeal_Settled:c_NoDeal≠c_Settled)
 (v_NoDeal:PySem.W.subIn K (.ref c_NoDeal) (.type "ValueError")=some true)
 (x_NoLayer:PySem.W.excIn K c_NoLayer [.type "ValueError",.type "Exception",.type "BaseException",.type "object"] "ValueError.__new__" = true) (ga_NoLayer:PySem.W.findIn K (.ref c_NoLayer) "__getattribute__" = some (some (.builtin "BaseException.__getattribute__"))) (gn_NoLayer:PySem.W.findIn K (.ref c_NoLayer) "__getattr__" = some none) (be_NoLayer:PySem.W.mroIn K c_NoLayer (.type "BaseException")=some true) (fa_NoLayer:PySem.W.findIn K (.ref c_NoLayer) "__class__" = some (some (.builtin "object.__class__"))) (mo_NoLayer:PySem.W.mroIn K c_NoLayer (.type "object")=some true)
 (s_NoLayer_Bare:PySem.W.subIn K (.ref c_NoLayer) (.ref c_Bare)=some false)
 (n_NoLayer_Bare:c_NoLayer≠c_Bare)
 (s_NoLayer_Closed:PySem.W.subIn K (.ref c_NoLayer) (.ref c_Closed)=some false)
 (n_NoLayer_Closed:c_NoLayer≠c_Closed)
 (s_NoLayer_Gone:PySem.W.subIn K (.ref c_NoLayer) (.ref c_Gone)=some false)
 (n_NoLayer_Gone:c_NoLayer≠c_Gone)
 (s_NoLayer_NoDeal:PySem.W.subIn K (.ref c_NoLayer) (.ref c_NoDeal)=some false)
 (n_NoLayer_NoDeal:c_NoLayer≠c_NoDeal)
 (s_NoLayer_NoLayer:PySem.W.subIn K (.ref c_NoLayer) (.ref c_NoLayer)=some true)
 (s_NoLayer_NoMember:PySem.W.subIn K (.ref c_NoLayer) (.ref c_NoMember)=some false)
 (n_NoLayer_NoMember:c_NoLayer≠c_NoMember)
 (s_NoLayer_NoPart:PySem.W.subIn K (.ref c_NoLayer) (.ref c_NoPart)=some false)
 (n_NoLayer_NoPart:c_NoLayer≠c_NoPart)
 (s_NoLayer_NoRule:PySem.W.subIn K (.ref c_NoLayer) (.ref c_NoRule)=some false)
 (n_NoLayer_NoRule:c_NoLayer≠c_NoRule)
 (s_NoLayer_NoTerms:PySem.W.subIn K (.ref c_NoLayer) (.ref c_NoTerms)=some false)
 (n_NoLayer_NoTerms:c_NoLayer≠c_NoTerms)
 (s_NoLayer_Out:PySem.W.subIn K (.ref c_NoLayer) (.ref c_Out)=some false)
 (n_NoLayer_Out:c_NoLayer≠c_Out)
 (s_NoLayer_Poor:PySem.W.subIn K (.ref c_NoLayer) (.ref c_Poor)=some false)
 (n_NoLayer_Poor:c_NoLayer≠c_Poor)
 (s_NoLayer_QuitsError:PySem.W.subIn K (.ref c_NoLayer) (.ref c_QuitsError)=some true)
 (n_NoLayer_QuitsError:c_NoLayer≠c_QuitsError)
 (s_NoLayer_Settled:PySem.W.subIn K (.ref c_NoLayer) (.ref c_Settled)=some false)
 (n_NoLayer_Settled:c_NoLayer≠c_Settled)
 (v_NoLayer:PySem.W.subIn K (.ref c_NoLayer) (.type "ValueError")=some true)
 (x_NoMember:PySem.W.excIn K c_NoMember [.type "ValueError",.type "Exception",.type "BaseException",.type "object"] "ValueError.__new__" = true) (ga_NoMember:PySem.W.findIn K (.ref c_NoMember) "__getattribute__" = some (some (.builtin "BaseException.__getattribute__"))) (gn_NoMember:PySem.W.findIn K (.ref c_NoMember) "__getattr__" = some none) (be_NoMember:PySem.W.mroIn K c_NoMember (.type "BaseException")=some true) (fa_NoMember:PySem.W.findIn K (.ref c_NoMember) "__class__" = some (some (.builtin "object.__class__"))) (mo_NoMember:PySem.W.mroIn K c_NoMember (.type "object")=some true)
 (s_NoMember_Bare:PySem.W.subIn K (.ref c_NoMember) (.ref c_Bare)=some false)
 (n_NoMember_Bare:c_NoMember≠c_Bare)
 (s_NoMember_Closed:PySem.W.subIn K (.ref c_NoMember) (.ref c_Closed)=some false)
 (n_NoMember_Closed:c_NoMember≠c_Closed)
 (s_NoMember_Gone:PySem.W.subIn K (.ref c_NoMember) (.ref c_Gone)=some false)
 (n_NoMember_Gone:c_NoMember≠c_Gone)
 (s_NoMember_NoDeal:PySem.W.subIn K (.ref c_NoMember) (.ref c_NoDeal)=some false)
 (n_NoMember_NoDeal:c_NoMember≠c_NoDeal)
 (s_NoMember_NoLayer:PySem.W.subIn K (.ref c_NoMember) (.ref c_NoLayer)=some false)
 (n_NoMember_NoLayer:c_NoMember≠c_NoLayer)
 (s_NoMember_NoMember:PySem.W.subIn K (.ref c_NoMember) (.ref c_NoMember)=some true)
 (s_NoMember_NoPart:PySem.W.subIn K (.ref c_NoMember) (.ref c_NoPart)=some false)
 (n_NoMember_NoPart:c_NoMember≠c_NoPart)
 (s_NoMember_NoRule:PySem.W.subIn K (.ref c_NoMember) (.ref c_NoRule)=some false)
 (n_NoMember_NoRule:c_NoMember≠c_NoRule)
 (s_NoMember_NoTerms:PySem.W.subIn K (.ref c_NoMember) (.ref c_NoTerms)=some false)
 (n_NoMember_NoTerms:c_NoMember≠c_NoTerms)
 (s_NoMember_Out:PySem.W.subIn K (.ref c_NoMember) (.ref c_Out)=some false)
 (n_NoMember_Out:c_NoMember≠c_Out)
 (s_NoMember_Poor:PySem.W.subIn K (.ref c_NoMember) (.ref c_Poor)=some false)
 (n_NoMember_Poor:c_NoMember≠c_Poor)
 (s_NoMember_QuitsError:PySem.W.subIn K (.ref c_NoMember) (.ref c_QuitsError)=some true)
 (n_NoMember_QuitsError:c_NoMember≠c_QuitsError)
 (s_NoMember_Settled:PySem.W.subIn K (.ref c_NoMember) (.ref c_Settled)=some false)
 (n_NoMember_Settled:c_NoMember≠c_Settled)
 (v_NoMember:PySem.W.subIn K (.ref c_NoMember) (.type "ValueError")=some true)
 (x_NoPart:PySem.W.excIn K c_NoPart [.type "ValueError",.type "Exception",.type "BaseException",.type "object"] "ValueError.__new__" = true) (ga_NoPart:PySem.W.findIn K (.ref c_NoPart) "__getattribute__" = some (some (.builtin "BaseException.__getattribute__"))) (gn_NoPart:PySem.W.findIn K (.ref c_NoPart) "__getattr__" = some none) (be_NoPart:PySem.W.mroIn K c_NoPart (.type "BaseException")=some true) (fa_NoPart:PySem.W.findIn K (.ref c_NoPart) "__class__" = some (some (.builtin "object.__class__"))) (mo_NoPart:PySem.W.mroIn K c_NoPart (.type "object")=some true)
 (s_NoPart_Bare:PySem.W.subIn K (.ref c_NoPart) (.ref c_Bare)=some false)
 (n_NoPart_Bare:c_NoPart≠c_Bare)
 (s_NoPart_Closed:PySem.W.subIn K (.ref c_NoPart) (.ref c_Closed)=some false)
 (n_NoPart_Closed:c_NoPart≠c_Closed)
 (s_NoPart_Gone:PySem.W.subIn K (.ref c_NoPart) (.ref c_Gone)=some false)
 (n_NoPart_Gone:c_NoPart≠c_Gone)
 (s_NoPart_NoDeal:PySem.W.subIn K (.ref c_NoPart) (.ref c_NoDeal)=some false)
 (n_NoPart_NoDeal:c_NoPart≠c_NoDeal)
 (s_NoPart_NoLayer:PySem.W.subIn K (.ref c_NoPart) (.ref c_NoLayer)=some false)
 (n_NoPart_NoLayer:c_NoPart≠c_NoLayer)
 (s_NoPart_NoMember:PySem.W.subIn K (.ref c_NoPart) (.ref c_NoMember)=some false)
 (n_NoPart_NoMember:c_NoPart≠c_NoMember)
 (s_NoPart_NoPart:PySem.W.subIn K (.ref c_NoPart) (.ref c_NoPart)=some true)
 (s_NoPart_NoRule:PySem.W.subIn K (.ref c_NoPart) (.ref c_NoRule)=some false)
 (n_NoPart_NoRule:c_NoPart≠c_NoRule)
 (s_NoPart_NoTerms:PySem.W.subIn K (.ref c_NoPart) (.ref c_NoTerms)=some false)
 (n_NoPart_NoTerms:c_NoPart≠c_NoTerms)
 (s_NoPart_Out:PySem.W.subIn K (.ref c_NoPart) (.ref c_Out)=some false)
 (n_NoPart_Out:c_NoPart≠c_Out)
 (s_NoPart_Poor:PySem.W.subIn K (.ref c_NoPart) (.ref c_Poor)=some false)
 (n_NoPart_Poor:c_NoPart≠c_Poor)
 (s_NoPart_QuitsError:PySem.W.subIn K (.ref c_NoPart) (.ref c_QuitsError)=some true)
 (n_NoPart_QuitsError:c_NoPart≠c_QuitsError)
 (s_NoPart_Settled:PySem.W.subIn K (.ref c_NoPart) (.ref c_Settled)=some false)
 (n_NoPart_Settled:c_NoPart≠c_Settled)
 (v_NoPart:PySem.W.subIn K (.ref c_NoPart) (.type "ValueError")=some true)
 (x_NoRule:PySem.W.excIn K c_NoRule [.type "ValueError",.type "Exception",.type "BaseException",.type "object"] "ValueError.__new__" = true) (ga_NoRule:PySem.W.findIn K (.ref c_NoRule) "__getattribute__" = some (some (.builtin "BaseException.__getattribute__"))) (gn_NoRule:PySem.W.findIn K (.ref c_NoRule) "__getattr__" = some none) (be_NoRule:PySem.W.mroIn K c_NoRule (.type "BaseException")=some true) (fa_NoRule:PySem.W.findIn K (.ref c_NoRule) "__class__" = some (some (.builtin "object.__class__"))) (mo_NoRule:PySem.W.mroIn K c_NoRule (.type "object")=some true)
 (s_NoRule_Bare:PySem.W.subIn K (.ref c_NoRule) (.ref c_Bare)=some false)
 (n_NoRule_Bare:c_NoRule≠c_Bare)
 (s_NoRule_Closed:PySem.W.subIn K (.ref c_NoRule) (.ref c_Closed)=some false)
 (n_NoRule_Closed:c_NoRule≠c_Closed)
 (s_NoRule_Gone:PySem.W.subIn K (.ref c_NoRule) (.ref c_Gone)=some false)
 (n_NoRule_Gone:c_NoRule≠c_Gone)
 (s_NoRule_NoDeal:PySem.W.subIn K (.ref c_NoRule) (.ref c_NoDeal)=some false)
 (n_NoRule_NoDeal:c_NoRule≠c_NoDeal)
 (s_NoRule_NoLayer:PySem.W.subIn K (.ref c_NoRule) (.ref c_NoLayer)=some false)
 (n_NoRule_NoLayer:c_NoRule≠c_NoLayer)
 (s_NoRule_NoMember:PySem.W.subIn K (.ref c_NoRule) (.ref c_NoMember)=some false)
 (n_NoRule_NoMember:c_NoRule≠c_NoMember)
 (s_NoRule_NoPart:PySem.W.subIn K (.ref c_NoRule) (.ref c_NoPart)=some false)
 (n_NoRule_NoPart:c_NoRule≠c_NoPart)
 (s_NoRule_NoRule:PySem.W.subIn K (.ref c_NoRule) (.ref c_NoRule)=some true)
 (s_NoRule_NoTerms:PySem.W.subIn K (.ref c_NoRule) (.ref c_NoTerms)=some false)
 (n_NoRule_NoTerms:c_NoRule≠c_NoTerms)
 (s_NoRule_Out:PySem.W.subIn K (.ref c_NoRule) (.ref c_Out)=some false)
 (n_NoRule_Out:c_NoRule≠c_Out)
 (s_NoRule_Poor:PySem.W.subIn K (.ref c_NoRule) (.ref c_Poor)=some false)
 (n_NoRule_Poor:c_NoRule≠c_Poor)
 (s_NoRule_QuitsError:PySem.W.subIn K (.ref c_NoRule) (.ref c_QuitsError)=some true)
 (n_NoRule_QuitsError:c_NoRule≠c_QuitsError)
 (s_NoRule_Settled:PySem.W.subIn K (.ref c_NoRule) (.ref c_Settled)=some false)
 (n_NoRule_Settled:c_NoRule≠c_Settled)
 (v_NoRule:PySem.W.subIn K (.ref c_NoRule) (.type "ValueError")=some true)
 (x_NoTerms:PySem.W.excIn K c_NoTerms [.type "ValueError",.type "Exception",.type "BaseException",.type "object"] "ValueError.__new__" = true) (ga_NoTerms:PySem.W.findIn K (.ref c_NoTerms) "__getattribute__" = some (some (.builtin "BaseException.__getattribute__"))) (gn_NoTerms:PySem.W.findIn K (.ref c_NoTerms) "__getattr__" = some none) (be_NoTerms:PySem.W.mroIn K c_NoTerms (.type "BaseException")=some true) (fa_NoTerms:PySem.W.findIn K (.ref c_NoTerms) "__class__" = some (some (.builtin "object.__class__"))) (mo_NoTerms:PySem.W.mroIn K c_NoTerms (.type "object")=some true)
 (s_NoTerms_Bare:PySem.W.subIn K (.ref c_NoTerms) (.ref c_Bare)=some false)
 (n_NoTerms_Bare:c_NoTerms≠c_Bare)
 (s_NoTerms_Closed:PySem.W.subIn K (.ref c_NoTerms) (.ref c_Closed)=some false)
 (n_NoTerms_Closed:c_NoTerms≠c_Closed)
 (s_NoTerms_Gone:PySem.W.subIn K (.ref c_NoTerms) (.ref c_Gone)=some false)
 (n_NoTerms_Gone:c_NoTerms≠c_Gone)
 (s_NoTerms_NoDeal:PySem.W.subIn K (.ref c_NoTerms) (.ref c_NoDeal)=some false)
 (n_NoTerms_NoDeal:c_NoTerms≠c_NoDeal)
 (s_NoTerms_NoLayer:PySem.W.subIn K (.ref c_NoTerms) (.ref c_NoLayer)=some false)
 (n_NoTerms_NoLayer:c_NoTerms≠c_NoLayer)
 (s_NoTerms_NoMember:PySem.W.subIn K (.ref c_NoTerms) (.ref c_NoMember)=some false)
 (n_NoTerms_NoMember:c_NoTerms≠c_NoMember)
 (s_NoTerms_NoPart:PySem.W.subIn K (.ref c_NoTerms) (.ref c_NoPart)=some false)
 (n_NoTerms_NoPart:c_NoTerms≠c_NoPart)
 (s_NoTerms_NoRule:PySem.W.subIn K (.ref c_NoTerms) (.ref c_NoRule)=some false)
 (n_NoTerms_NoRule:c_NoTerms≠c_NoRule)
 (s_NoTerms_NoTerms:PySem.W.subIn K (.ref c_NoTerms) (.ref c_NoTerms)=some true)
 (s_NoTerms_Out:PySem.W.subIn K (.ref c_NoTerms) (.ref c_Out)=some false)
 (n_NoTerms_Out:c_NoTerms≠c_Out)
 (s_NoTerms_Poor:PySem.W.subIn K (.ref c_NoTerms) (.ref c_Poor)=some false)
 (n_NoTerms_Poor:c_NoTerms≠c_Poor)
 (s_NoTerms_QuitsError:PySem.W.subIn K (.ref c_NoTerms) (.ref c_QuitsError)=some true)
 (n_NoTerms_QuitsError:c_NoTerms≠c_QuitsError)
 (s_NoTerms_Settled:PySem.W.subIn K (.ref c_NoTerms) (.ref c_Settled)=some false)
 (n_NoTerms_Settled:c_NoTerms≠c_Settled)
 (v_NoTerms:PySem.W.subIn K (.ref c_NoTerms) (.type "ValueError")=some true)
 (x_Out:PySem.W.excIn K c_Out [.type "ValueError",.type "Exception",.type "BaseException",.type "object"] "ValueError.__new__" = true) (ga_Out:PySem.W.findIn K (.ref c_Out) "__getattribute__" = some (some (.builtin "BaseException.__getattribute__"))) (gn_Out:PySem.W.findIn K (.ref c_Out) "__getattr__" = some none) (be_Out:PySem.W.mroIn K c_Out (.type "BaseException")=some true) (fa_Out:PySem.W.findIn K (.ref c_Out) "__class__" = some (some (.builtin "object.__class__"))) (mo_Out:PySem.W.mroIn K c_Out (.type "object")=some true)
 (s_Out_Bare:PySem.W.subIn K (.ref c_Out) (.ref c_Bare)=some false)
 (n_Out_Bare:c_Out≠c_Bare)
 (s_Out_Closed:PySem.W.subIn K (.ref c_Out) (.ref c_Closed)=some false)
 (n_Out_Closed:c_Out≠c_Closed)
 (s_Out_Gone:PySem.W.subIn K (.ref c_Out) (.ref c_Gone)=some false)
 (n_Out_Gone:c_Out≠c_Gone)
 (s_Out_NoDeal:PySem.W.subIn K (.ref c_Out) (.ref c_NoDeal)=some false)
 (n_Out_NoDeal:c_Out≠c_NoDeal)
 (s_Out_NoLayer:PySem.W.subIn K (.ref c_Out) (.ref c_NoLayer)=some false)
 (n_Out_NoLayer:c_Out≠c_NoLayer)
 (s_Out_NoMember:PySem.W.subIn K (.ref c_Out) (.ref c_NoMember)=some false)
 (n_Out_NoMember:c_Out≠c_NoMember)
 (s_Out_NoPart:PySem.W.subIn K (.ref c_Out) (.ref c_NoPart)=some false)
 (n_Out_NoPart:c_Out≠c_NoPart)
 (s_Out_NoRule:PySem.W.subIn K (.ref c_Out) (.ref c_NoRule)=some false)
 (n_Out_NoRule:c_Out≠c_NoRule)
 (s_Out_NoTerms:PySem.W.subIn K (.ref c_Out) (.ref c_NoTerms)=some false)
 (n_Out_NoTerms:c_Out≠c_NoTerms)
 (s_Out_Out:PySem.W.subIn K (.ref c_Out) (.ref c_Out)=some true)
 (s_Out_Poor:PySem.W.subIn K (.ref c_Out) (.ref c_Poor)=some false)
 (n_Out_Poor:c_Out≠c_Poor)
 (s_Out_QuitsError:PySem.W.subIn K (.ref c_Out) (.ref c_QuitsError)=some true)
 (n_Out_QuitsError:c_Out≠c_QuitsError)
 (s_Out_Settled:PySem.W.subIn K (.ref c_Out) (.ref c_Settled)=some false)
 (n_Out_Settled:c_Out≠c_Settled)
 (v_Out:PySem.W.subIn K (.ref c_Out) (.type "ValueError")=some true)
 (x_Poor:PySem.W.excIn K c_Poor [.type "ValueError",.type "Exception",.type "BaseException",.type "object"] "ValueError.__new__" = true) (ga_Poor:PySem.W.findIn K (.ref c_Poor) "__getattribute__" = some (some (.builtin "BaseException.__getattribute__"))) (gn_Poor:PySem.W.findIn K (.ref c_Poor) "__getattr__" = some none) (be_Poor:PySem.W.mroIn K c_Poor (.type "BaseException")=some true) (fa_Poor:PySem.W.findIn K (.ref c_Poor) "__class__" = some (some (.builtin "object.__class__"))) (mo_Poor:PySem.W.mroIn K c_Poor (.type "object")=some true)
 (s_Poor_Bare:PySem.W.subIn K (.ref c_Poor) (.ref c_Bare)=some false)
 (n_Poor_Bare:c_Poor≠c_Bare)
 (s_Poor_Closed:PySem.W.subIn K (.ref c_Poor) (.ref c_Closed)=some false)
 (n_Poor_Closed:c_Poor≠c_Closed)
 (s_Poor_Gone:PySem.W.subIn K (.ref c_Poor) (.ref c_Gone)=some false)
 (n_Poor_Gone:c_Poor≠c_Gone)
 (s_Poor_NoDeal:PySem.W.subIn K (.ref c_Poor) (.ref c_NoDeal)=some false)
 (n_Poor_NoDeal:c_Poor≠c_NoDeal)
 (s_Poor_NoLayer:PySem.W.subIn K (.ref c_Poor) (.ref c_NoLayer)=some false)
 (n_Poor_NoLayer:c_Poor≠c_NoLayer)
 (s_Poor_NoMember:PySem.W.subIn K (.ref c_Poor) (.ref c_NoMember)=some false)
 (n_Poor_NoMember:c_Poor≠c_NoMember)
 (s_Poor_NoPart:PySem.W.subIn K (.ref c_Poor) (.ref c_NoPart)=some false)
 (n_Poor_NoPart:c_Poor≠c_NoPart)
 (s_Poor_NoRule:PySem.W.subIn K (.ref c_Poor) (.ref c_NoRule)=some false)
 (n_Poor_NoRule:c_Poor≠c_NoRule)
 (s_Poor_NoTerms:PySem.W.subIn K (.ref c_Poor) (.ref c_NoTerms)=some false)
 (n_Poor_NoTerms:c_Poor≠c_NoTerms)
 (s_Poor_Out:PySem.W.subIn K (.ref c_Poor) (.ref c_Out)=some false)
 (n_Poor_Out:c_Poor≠c_Out)
 (s_Poor_Poor:PySem.W.subIn K (.ref c_Poor) (.ref c_Poor)=some true)
 (s_Poor_QuitsError:PySem.W.subIn K (.ref c_Poor) (.ref c_QuitsError)=some true)
 (n_Poor_QuitsError:c_Poor≠c_QuitsError)
 (s_Poor_Settled:PySem.W.subIn K (.ref c_Poor) (.ref c_Settled)=some false)
 (n_Poor_Settled:c_Poor≠c_Settled)
 (v_Poor:PySem.W.subIn K (.ref c_Poor) (.type "ValueError")=some true)
 (x_Settled:PySem.W.excIn K c_Settled [.type "ValueError",.type "Exception",.type "BaseException",.type "object"] "ValueError.__new__" = true) (ga_Settled:PySem.W.findIn K (.ref c_Settled) "__getattribute__" = some (some (.builtin "BaseException.__getattribute__"))) (gn_Settled:PySem.W.findIn K (.ref c_Settled) "__getattr__" = some none) (be_Settled:PySem.W.mroIn K c_Settled (.type "BaseException")=some true) (fa_Settled:PySem.W.findIn K (.ref c_Settled) "__class__" = some (some (.builtin "object.__class__"))) (mo_Settled:PySem.W.mroIn K c_Settled (.type "object")=some true)
 (s_Settled_Bare:PySem.W.subIn K (.ref c_Settled) (.ref c_Bare)=some false)
 (n_Settled_Bare:c_Settled≠c_Bare)
 (s_Settled_Closed:PySem.W.subIn K (.ref c_Settled) (.ref c_Closed)=some false)
 (n_Settled_Closed:c_Settled≠c_Closed)
 (s_Settled_Gone:PySem.W.subIn K (.ref c_Settled) (.ref c_Gone)=some false)
 (n_Settled_Gone:c_Settled≠c_Gone)
 (s_Settled_NoDeal:PySem.W.subIn K (.ref c_Settled) (.ref c_NoDeal)=some false)
 (n_Settled_NoDeal:c_Settled≠c_NoDeal)
 (s_Settled_NoLayer:PySem.W.subIn K (.ref c_Settled) (.ref c_NoLayer)=some false)
 (n_Settled_NoLayer:c_Settled≠c_NoLayer)
 (s_Settled_NoMember:PySem.W.subIn K (.ref c_Settled) (.ref c_NoMember)=some false)
 (n_Settled_NoMember:c_Settled≠c_NoMember)
 (s_Settled_NoPart:PySem.W.subIn K (.ref c_Settled) (.ref c_NoPart)=some false)
 (n_Settled_NoPart:c_Settled≠c_NoPart)
 (s_Settled_NoRule:PySem.W.subIn K (.ref c_Settled) (.ref c_NoRule)=some false)
 (n_Settled_NoRule:c_Settled≠c_NoRule)
 (s_Settled_NoTerms:PySem.W.subIn K (.ref c_Settled) (.ref c_NoTerms)=some false)
 (n_Settled_NoTerms:c_Settled≠c_NoTerms)
 (s_Settled_Out:PySem.W.subIn K (.ref c_Settled) (.ref c_Out)=some false)
 (n_Settled_Out:c_Settled≠c_Out)
 (s_Settled_Poor:PySem.W.subIn K (.ref c_Settled) (.ref c_Poor)=some false)
 (n_Settled_Poor:c_Settled≠c_Poor)
 (s_Settled_QuitsError:PySem.W.subIn K (.ref c_Settled) (.ref c_QuitsError)=some true)
 (n_Settled_QuitsError:c_Settled≠c_QuitsError)
 (s_Settled_Settled:PySem.W.subIn K (.ref c_Settled) (.ref c_Settled)=some true)
 (v_Settled:PySem.W.subIn K (.ref c_Settled) (.type "ValueError")=some true)
 (m_Book:PySem.W.nsIn K mainGlobals "Book" = some (some (.ref c_Book))) (pg_Book:PySem.W.plainGet K c_Book Str.empty=true) (hd_Book:PySem.W.hasDictIn K c_Book=true) (po_Book:PySem.W.plainOver K c_Book=true) (sa_Book:PySem.W.findIn K (.ref c_Book) "__setattr__" = some (some (.builtin "object.__setattr__"))) (mk_Book:PySem.W.makesIn K c_Book=true) (kc_Book:PySem.W.keepIn K (.ref c_Book)=true)
 (na_Book_day:PySem.W.findIn K (.ref c_Book) "day" = some none)
 (na_Book_deals:PySem.W.findIn K (.ref c_Book) "deals" = some none)
 (na_Book_many:PySem.W.findIn K (.ref c_Book) "many" = some none)
 (na_Book_wares:PySem.W.findIn K (.ref c_Book) "wares" = some none)
 (m_House:PySem.W.nsIn K mainGlobals "House" = some (some (.ref c_House))) (pg_House:PySem.W.plainGet K c_House Str.empty=true) (hd_House:PySem.W.hasDictIn K c_House=true) (po_House:PySem.W.plainOver K c_House=true) (sa_House:PySem.W.findIn K (.ref c_House) "__setattr__" = some (some (.builtin "object.__setattr__"))) (mk_House:PySem.W.makesIn K c_House=true) (kc_House:PySem.W.keepIn K (.ref c_House)=true)
 (na_House_book:PySem.W.findIn K (.ref c_House) "book" = some none)
 (na_House_kept:PySem.W.findIn K (.ref c_House) "kept" = some none)
 (na_House_moves:PySem.W.findIn K (.ref c_House) "moves" = some none)
 (na_House_order:PySem.W.findIn K (.ref c_House) "order" = some none)
 (na_House_outs:PySem.W.findIn K (.ref c_House) "outs" = some none)
 (na_House_pledges:PySem.W.findIn K (.ref c_House) "pledges" = some none)
 (na_House_purses:PySem.W.findIn K (.ref c_House) "purses" = some none)
 (na_House_reports:PySem.W.findIn K (.ref c_House) "reports" = some none)
 (na_House_rule:PySem.W.findIn K (.ref c_House) "rule" = some none)
 (na_House_shares:PySem.W.findIn K (.ref c_House) "shares" = some none)
 (g_MOST_AMOUNT:PySem.W.nsIn K mainGlobals "MOST_AMOUNT" = some (some (.int 1000000000 t_MOST_AMOUNT)))
 (g_MOST_COINS:PySem.W.nsIn K mainGlobals "MOST_COINS" = some (some (.int 1000000000 t_MOST_COINS)))
 (g_MOST_DAY:PySem.W.nsIn K mainGlobals "MOST_DAY" = some (some (.int 1000000 t_MOST_DAY)))
 (g_MOST_UNITS:PySem.W.nsIn K mainGlobals "MOST_UNITS" = some (some (.int 1000000 t_MOST_UNITS)))
 (g_PAYEE:PySem.W.nsIn K mainGlobals "PAYEE" = some (some (.int 1 t_PAYEE)))
 (g_PAYER:PySem.W.nsIn K mainGlobals "PAYER" = some (some (.int 0 t_PAYER)))
 (g_STATE:PySem.W.nsIn K mainGlobals "STATE" = some (some (.int 7 t_STATE)))
 (g_UNITS:PySem.W.nsIn K mainGlobals "UNITS" = some (some (.int 3 t_UNITS)))
 (g_WARE:PySem.W.nsIn K mainGlobals "WARE" = some (some (.int 2 t_WARE)))
 (g_WORDS:PySem.W.nsIn K mainGlobals "WORDS" = some (some (.ref w_WORDS))) (o_WORDS:K.lookup w_WORDS=some ⟨.type "tuple",od_WORDS,.seq #[.str "pledge" k0_WORDS,.str "share" k1_WORDS,.str "own" k2_WORDS,.str "others" k3_WORDS,.str "level" k4_WORDS] n_WORDS,sl_WORDS⟩)
 (a0:PySem.W.findIn K (.ref c_Book) "__init__" = some (some (.ref f0))) (i0:PySem.W.isFn K (.ref f0)=true) (l0:K.lookup f0=some ⟨o0,d0,.func (PySem.W.fnOf "__init__" "Book.__init__" (zD zaE) (zv zaE) (ze zaE) .none v0 e0 p0 n0 q0 t0),r0⟩) (c0:PySem.W.codeIn K q0 "Book.__init__" = true) (k0:PySem.W.keepIn K (.ref f0)=true)
 (a1:PySem.W.findIn K (.ref c_Book) "strike" = some (some (.ref f1))) (i1:PySem.W.isFn K (.ref f1)=true) (l1:K.lookup f1=some ⟨o1,d1,.func (PySem.W.fnOf "strike" "Book.strike" (zD za9) (zv za9) (ze za9) .none v1 e1 p1 n1 q1 t1),r1⟩) (c1:PySem.W.codeIn K q1 "Book.strike" = true) (k1:PySem.W.keepIn K (.ref f1)=true)
 (a2:PySem.W.findIn K (.ref c_Book) "check_members" = some (some (.ref f2))) (i2:PySem.W.isFn K (.ref f2)=true) (l2:K.lookup f2=some ⟨o2,d2,.func (PySem.W.fnOf "check_members" "Book.check_members" (zD z7) (zv z7) (ze z7) .none v2 e2 p2 n2 q2 t2),r2⟩) (c2:PySem.W.codeIn K q2 "Book.check_members" = true) (k2:PySem.W.keepIn K (.ref f2)=true)
 (a3:PySem.W.findIn K (.ref c_Book) "check_terms" = some (some (.ref f3))) (i3:PySem.W.isFn K (.ref f3)=true) (l3:K.lookup f3=some ⟨o3,d3,.func (PySem.W.fnOf "check_terms" "Book.check_terms" (zD zah) (zv zah) (ze zah) .none v3 e3 p3 n3 q3 t3),r3⟩) (c3:PySem.W.codeIn K q3 "Book.check_terms" = true) (k3:PySem.W.keepIn K (.ref f3)=true)
 (a4:PySem.W.findIn K (.ref c_Book) "break_off" = some (some (.ref f4))) (i4:PySem.W.isFn K (.ref f4)=true) (l4:K.lookup f4=some ⟨o4,d4,.func (PySem.W.fnOf "break_off" "Book.break_off" (zD zat) (zv zat) (ze zat) .none v4 e4 p4 n4 q4 t4),r4⟩) (c4:PySem.W.codeIn K q4 "Book.break_off" = true) (k4:PySem.W.keepIn K (.ref f4)=true)
 (a5:PySem.W.findIn K (.ref c_Book) "standing_deal" = some (some (.ref f5))) (i5:PySem.W.isFn K (.ref f5)=true) (l5:K.lookup f5=some ⟨o5,d5,.func (PySem.W.fnOf "standing_deal" "Book.standing_deal" (zD zaa) (zv zaa) (ze zaa) .none v5 e5 p5 n5 q5 t5),r5⟩) (c5:PySem.W.codeIn K q5 "Book.standing_deal" = true) (k5:PySem.W.keepIn K (.ref f5)=true)
 (a6:PySem.W.findIn K (.ref c_Book) "put_state" = some (some (.ref f6))) (i6:PySem.W.isFn K (.ref f6)=true) (l6:K.lookup f6=some ⟨o6,d6,.func (PySem.W.fnOf "put_state" "Book.put_state" (zD zav) (zv zav) (ze zav) .none v6 e6 p6 n6 q6 t6),r6⟩) (c6:PySem.W.codeIn K q6 "Book.put_state" = true) (k6:PySem.W.keepIn K (.ref f6)=true)
 (a7:PySem.W.findIn K (.ref c_Book) "deal" = some (some (.ref f7))) (i7:PySem.W.isFn K (.ref f7)=true) (l7:K.lookup f7=some ⟨o7,d7,.func (PySem.W.fnOf "deal" "Book.deal" (zD zbB) (zv zbB) (ze zbB) .none v7 e7 p7 n7 q7 t7),r7⟩) (c7:PySem.W.codeIn K q7 "Book.deal" = true) (k7:PySem.W.keepIn K (.ref f7)=true)
 (a8:PySem.W.findIn K (.ref c_Book) "position" = some (some (.ref f8))) (i8:PySem.W.isFn K (.ref f8)=true) (l8:K.lookup f8=some ⟨o8,d8,.func (PySem.W.fnOf "position" "Book.position" (zD zaC) (zv zaC) (ze zaC) .none v8 e8 p8 n8 q8 t8),r8⟩) (c8:PySem.W.codeIn K q8 "Book.position" = true) (k8:PySem.W.keepIn K (.ref f8)=true)
 (a9:PySem.W.findIn K (.ref c_House) "__init__" = some (some (.ref f9))) (i9:PySem.W.isFn K (.ref f9)=true) (l9:K.lookup f9=some ⟨o9,d9,.func (PySem.W.fnOf "__init__" "House.__init__" (zD zas) (zv zas) (ze zas) .none v9 e9 p9 n9 q9 t9),r9⟩) (c9:PySem.W.codeIn K q9 "House.__init__" = true) (k9:PySem.W.keepIn K (.ref f9)=true)
 (a10:PySem.W.findIn K (.ref c_House) "put" = some (some (.ref f10))) (i10:PySem.W.isFn K (.ref f10)=true) (l10:K.lookup f10=some ⟨o10,d10,.func (PySem.W.fnOf "put" "House.put" (zD zbz) (zv zbz) (ze zbz) .none v10 e10 p10 n10 q10 t10),r10⟩) (c10:PySem.W.codeIn K q10 "House.put" = true) (k10:PySem.W.keepIn K (.ref f10)=true)
 (a11:PySem.W.findIn K (.ref c_House) "lay" = some (some (.ref f11))) (i11:PySem.W.isFn K (.ref f11)=true) (l11:K.lookup f11=some ⟨o11,d11,.func (PySem.W.fnOf "lay" "House.lay" (zD zbE) (zv zbE) (ze zbE) .none v11 e11 p11 n11 q11 t11),r11⟩) (c11:PySem.W.codeIn K q11 "House.lay" = true) (k11:PySem.W.keepIn K (.ref f11)=true)
 (a12:PySem.W.findIn K (.ref c_House) "free" = some (some (.ref f12))) (i12:PySem.W.isFn K (.ref f12)=true) (l12:K.lookup f12=some ⟨o12,d12,.func (PySem.W.fnOf "free" "House.free" (zD zbo) (zv zbo) (ze zbo) .none v12 e12 p12 n12 q12 t12),r12⟩) (c12:PySem.W.codeIn K q12 "House.free" = true) (k12:PySem.W.keepIn K (.ref f12)=true)
 (a13:PySem.W.findIn K (.ref c_House) "check_coins" = some (some (.ref f13))) (i13:PySem.W.isFn K (.ref f13)=true) (l13:K.lookup f13=some ⟨o13,d13,.func (PySem.W.fnOf "check_coins" "House.check_coins" (zD zac) (zv zac) (ze zac) .none v13 e13 p13 n13 q13 t13),r13⟩) (c13:PySem.W.codeIn K q13 "House.check_coins" = true) (k13:PySem.W.keepIn K (.ref f13)=true)
 (a14:PySem.W.findIn K (.ref c_House) "strike" = some (some (.ref f14))) (i14:PySem.W.isFn K (.ref f14)=true) (l14:K.lookup f14=some ⟨o14,d14,.func (PySem.W.fnOf "strike" "House.strike" (zD zaQ) (zv zaQ) (ze zaQ) .none v14 e14 p14 n14 q14 t14),r14⟩) (c14:PySem.W.codeIn K q14 "House.strike" = true) (k14:PySem.W.keepIn K (.ref f14)=true)
 (a15:PySem.W.findIn K (.ref c_House) "break_off" = some (some (.ref f15))) (i15:PySem.W.isFn K (.ref f15)=true) (l15:K.lookup f15=some ⟨o15,d15,.func (PySem.W.fnOf "break_off" "House.break_off" (zD zal) (zv zal) (ze zal) .none v15 e15 p15 n15 q15 t15),r15⟩) (c15:PySem.W.codeIn K q15 "House.break_off" = true) (k15:PySem.W.keepIn K (.ref f15)=true)
 (a16:PySem.W.findIn K (.ref c_House) "pledge" = some (some (.ref f16))) (i16:PySem.W.isFn K (.ref f16)=true) (l16:K.lookup f16=some ⟨o16,d16,.func (PySem.W.fnOf "pledge" "House.pledge" (zD zaN) (zv zaN) (ze zaN) .none v16 e16 p16 n16 q16 t16),r16⟩) (c16:PySem.W.codeIn K q16 "House.pledge" = true) (k16:PySem.W.keepIn K (.ref f16)=true)
 (a17:PySem.W.findIn K (.ref c_House) "need" = some (some (.ref f17))) (i17:PySem.W.isFn K (.ref f17)=true) (l17:K.lookup f17=some ⟨o17,d17,.func (PySem.W.fnOf "need" "House.need" (zD zbm) (zv zbm) (ze zbm) .none v17 e17 p17 n17 q17 t17),r17⟩) (c17:PySem.W.codeIn K q17 "House.need" = true) (k17:PySem.W.keepIn K (.ref f17)=true)
 (a18:PySem.W.findIn K (.ref c_House) "need_with" = some (some (.ref f18))) (i18:PySem.W.isFn K (.ref f18)=true) (l18:K.lookup f18=some ⟨o18,d18,.func (PySem.W.fnOf "need_with" "House.need_with" (zD zak) (zv zak) (ze zak) .none v18 e18 p18 n18 q18 t18),r18⟩) (c18:PySem.W.codeIn K q18 "House.need_with" = true) (k18:PySem.W.keepIn K (.ref f18)=true)
 (a19:PySem.W.findIn K (.ref c_House) "deal" = some (some (.ref f19))) (i19:PySem.W.isFn K (.ref f19)=true) (l19:K.lookup f19=some ⟨o19,d19,.func (PySem.W.fnOf "deal" "House.deal" (zD zbl) (zv zbl) (ze zbl) .none v19 e19 p19 n19 q19 t19),r19⟩) (c19:PySem.W.codeIn K q19 "House.deal" = true) (k19:PySem.W.keepIn K (.ref f19)=true)
 (a20:PySem.W.findIn K (.ref c_House) "position" = some (some (.ref f20))) (i20:PySem.W.isFn K (.ref f20)=true) (l20:K.lookup f20=some ⟨o20,d20,.func (PySem.W.fnOf "position" "House.position" (zD zar) (zv zar) (ze zar) .none v20 e20 p20 n20 q20 t20),r20⟩) (c20:PySem.W.codeIn K q20 "House.position" = true) (k20:PySem.W.keepIn K (.ref f20)=true)
 (a21:PySem.W.nsIn K mainGlobals "check_order" = some (some (.ref f21))) (l21:K.lookup f21=some ⟨o21,d21,.func (PySem.W.fnOf "check_order" "check_order" (zD za7) (zv za7) (ze za7) .none v21 e21 p21 n21 q21 t21),r21⟩) (c21:PySem.W.codeIn K q21 "check_order" = true) (k21:PySem.W.keepIn K (.ref f21)=true)
 (a22:PySem.W.nsIn K mainGlobals "divisor" = some (some (.ref f22))) (l22:K.lookup f22=some ⟨o22,d22,.func (PySem.W.fnOf "divisor" "divisor" (zD zbW) (zv zbW) (ze zbW) .none v22 e22 p22 n22 q22 t22),r22⟩) (c22:PySem.W.codeIn K q22 "divisor" = true) (k22:PySem.W.keepIn K (.ref f22)=true)
 (a23:PySem.W.nsIn K mainGlobals "part" = some (some (.ref f23))) (l23:K.lookup f23=some ⟨o23,d23,.func (PySem.W.fnOf "part" "part" (zD zcZ) (zv zcZ) (ze zcZ) .none v23 e23 p23 n23 q23 t23),r23⟩) (c23:PySem.W.codeIn K q23 "part" = true) (k23:PySem.W.keepIn K (.ref f23)=true)
 (a24:PySem.W.nsIn K mainGlobals "under" = some (some (.ref f24))) (l24:K.lookup f24=some ⟨o24,d24,.func (PySem.W.fnOf "under" "under" (zD zcC) (zv zcC) (ze zcC) .none v24 e24 p24 n24 q24 t24),r24⟩) (c24:PySem.W.codeIn K q24 "under" = true) (k24:PySem.W.keepIn K (.ref f24)=true)
 (a25:PySem.W.nsIn K mainGlobals "losses_of" = some (some (.ref f25))) (l25:K.lookup f25=some ⟨o25,d25,.func (PySem.W.fnOf "losses_of" "losses_of" (zD zby) (zv zby) (ze zby) .none v25 e25 p25 n25 q25 t25),r25⟩) (c25:PySem.W.codeIn K q25 "losses_of" = true) (k25:PySem.W.keepIn K (.ref f25)=true)
 (a26:PySem.W.nsIn K mainGlobals "worst_days" = some (some (.ref f26))) (l26:K.lookup f26=some ⟨o26,d26,.func (PySem.W.fnOf "worst_days" "worst_days" (zD zbk) (zv zbk) (ze zbk) .none v26 e26 p26 n26 q26 t26),r26⟩) (c26:PySem.W.codeIn K q26 "worst_days" = true) (k26:PySem.W.keepIn K (.ref f26)=true)
 (a27:PySem.W.nsIn K mainGlobals "need_of" = some (some (.ref f27))) (l27:K.lookup f27=some ⟨o27,d27,.func (PySem.W.fnOf "need_of" "need_of" (zD zbX) (zv zbX) (ze zbX) .none v27 e27 p27 n27 q27 t27),r27⟩) (c27:PySem.W.codeIn K q27 "need_of" = true) (k27:PySem.W.keepIn K (.ref f27)=true)
 (a28:PySem.W.nsIn K mainGlobals "check_rule" = some (some (.ref f28))) (l28:K.lookup f28=some ⟨o28,d28,.func (PySem.W.fnOf "check_rule" "check_rule" (zD zbr) (zv zbr) (ze zbr) .none v28 e28 p28 n28 q28 t28),r28⟩) (c28:PySem.W.codeIn K q28 "check_rule" = true) (k28:PySem.W.keepIn K (.ref f28)=true)
 (a29:PySem.W.nsIn K mainGlobals "check_enough" = some (some (.ref f29))) (l29:K.lookup f29=some ⟨o29,d29,.func (PySem.W.fnOf "check_enough" "check_enough" (zD zaP) (zv zaP) (ze zaP) .none v29 e29 p29 n29 q29 t29),r29⟩) (c29:PySem.W.codeIn K q29 "check_enough" = true) (k29:PySem.W.keepIn K (.ref f29)=true)
 (a30:PySem.W.nsIn K mainGlobals "check_covered" = some (some (.ref f30))) (l30:K.lookup f30=some ⟨o30,d30,.func (PySem.W.fnOf "check_covered" "check_covered" (zD zaD) (zv zaD) (ze zaD) .none v30 e30 p30 n30 q30 t30),r30⟩) (c30:PySem.W.codeIn K q30 "check_covered" = true) (k30:PySem.W.keepIn K (.ref f30)=true)
 (a31:PySem.W.nsIn K mainGlobals "_law_cell" = some (some (.ref f31))) (l31:K.lookup f31=some ⟨o31,d31,.func (PySem.W.fnOf "_law_cell" "_law_cell" (zD zbD) (zv zbD) (ze zbD) .none v31 e31 p31 n31 q31 t31),r31⟩) (c31:PySem.W.codeIn K q31 "_law_cell" = true) (k31:PySem.W.keepIn K (.ref f31)=true)
 (a32:PySem.W.nsIn K mainGlobals "_law_draw" = some (some (.ref f32))) (l32:K.lookup f32=some ⟨o32,d32,.func (PySem.W.fnOf "_law_draw" "_law_draw" (zD zbH) (zv zbH) (ze zbH) .none v32 e32 p32 n32 q32 t32),r32⟩) (c32:PySem.W.codeIn K q32 "_law_draw" = true) (k32:PySem.W.keepIn K (.ref f32)=true)
 (a33:PySem.W.nsIn K mainGlobals "_law_great" = some (some (.ref f33))) (l33:K.lookup f33=some ⟨o33,d33,.func (PySem.W.fnOf "_law_great" "_law_great" (zD zbj) (zv zbj) (ze zbj) .none v33 e33 p33 n33 q33 t33),r33⟩) (c33:PySem.W.codeIn K q33 "_law_great" = true) (k33:PySem.W.keepIn K (.ref f33)=true)
 (a34:PySem.W.nsIn K mainGlobals "_law_pledge" = some (some (.ref f34))) (l34:K.lookup f34=some ⟨o34,d34,.func (PySem.W.fnOf "_law_pledge" "_law_pledge" (zD za5) (zv za5) (ze za5) .none v34 e34 p34 n34 q34 t34),r34⟩) (c34:PySem.W.codeIn K q34 "_law_pledge" = true) (k34:PySem.W.keepIn K (.ref f34)=true)
 (a35:PySem.W.nsIn K mainGlobals "_law_moves" = some (some (.ref f35))) (l35:K.lookup f35=some ⟨o35,d35,.func (PySem.W.fnOf "_law_moves" "_law_moves" (zD zbh) (zv zbh) (ze zbh) .none v35 e35 p35 n35 q35 t35),r35⟩) (c35:PySem.W.codeIn K q35 "_law_moves" = true) (k35:PySem.W.keepIn K (.ref f35)=true)
 (a36:PySem.W.nsIn K mainGlobals "_law_loss" = some (some (.ref f36))) (l36:K.lookup f36=some ⟨o36,d36,.func (PySem.W.fnOf "_law_loss" "_law_loss" (zD zbC) (zv zbC) (ze zbC) .none v36 e36 p36 n36 q36 t36),r36⟩) (c36:PySem.W.codeIn K q36 "_law_loss" = true) (k36:PySem.W.keepIn K (.ref f36)=true)
 (a37:PySem.W.nsIn K mainGlobals "_law_need" = some (some (.ref f37))) (l37:K.lookup f37=some ⟨o37,d37,.func (PySem.W.fnOf "_law_need" "_law_need" (zD zbx) (zv zbx) (ze zbx) .none v37 e37 p37 n37 q37 t37),r37⟩) (c37:PySem.W.codeIn K q37 "_law_need" = true) (k37:PySem.W.keepIn K (.ref f37)=true)
 (a38:PySem.W.nsIn K mainGlobals "_law_positions" = some (some (.ref f38))) (l38:K.lookup f38=some ⟨o38,d38,.func (PySem.W.fnOf "_law_positions" "_law_positions" (zD zau) (zv zau) (ze zau) .none v38 e38 p38 n38 q38 t38),r38⟩) (c38:PySem.W.codeIn K q38 "_law_positions" = true) (k38:PySem.W.keepIn K (.ref f38)=true)
 (a39:PySem.W.nsIn K mainGlobals "_law_part_is" = some (some (.ref f39))) (l39:K.lookup f39=some ⟨o39,d39,.func (PySem.W.fnOf "_law_part_is" "_law_part_is" (zD zaR) (zv zaR) (ze zaR) .none v39 e39 p39 n39 q39 t39),r39⟩) (c39:PySem.W.codeIn K q39 "_law_part_is" = true) (k39:PySem.W.keepIn K (.ref f39)=true)
 (a40:PySem.W.nsIn K mainGlobals "_law_stands" = some (some (.ref f40))) (l40:K.lookup f40=some ⟨o40,d40,.func (PySem.W.fnOf "_law_stands" "_law_stands" (zD za6) (zv za6) (ze za6) .none v40 e40 p40 n40 q40 t40),r40⟩) (c40:PySem.W.codeIn K q40 "_law_stands" = true) (k40:PySem.W.keepIn K (.ref f40)=true)
 (a41:PySem.W.nsIn K mainGlobals "_law_name" = some (some (.ref f41))) (l41:K.lookup f41=some ⟨o41,d41,.func (PySem.W.fnOf "_law_name" "_law_name" (zD zbG) (zv zbG) (ze zbG) .none v41 e41 p41 n41 q41 t41),r41⟩) (c41:PySem.W.codeIn K q41 "_law_name" = true) (k41:PySem.W.keepIn K (.ref f41)=true)
 (a42:PySem.W.nsIn K mainGlobals "_law_done" = some (some (.ref f42))) (l42:K.lookup f42=some ⟨o42,d42,.func (PySem.W.fnOf "_law_done" "_law_done" (zD zbA) (zv zbA) (ze zbA) .none v42 e42 p42 n42 q42 t42),r42⟩) (c42:PySem.W.codeIn K q42 "_law_done" = true) (k42:PySem.W.keepIn K (.ref f42)=true)
 (a43:PySem.W.nsIn K mainGlobals "_law_found" = some (some (.ref f43))) (l43:K.lookup f43=some ⟨o43,d43,.func (PySem.W.fnOf "_law_found" "_law_found" (zD zbg) (zv zbg) (ze zbg) .none v43 e43 p43 n43 q43 t43),r43⟩) (c43:PySem.W.codeIn K q43 "_law_found" = true) (k43:PySem.W.keepIn K (.ref f43)=true)
 (a44:PySem.W.nsIn K mainGlobals "_law_deed" = some (some (.ref f44))) (l44:K.lookup f44=some ⟨o44,d44,.func (PySem.W.fnOf "_law_deed" "_law_deed" (zD zbF) (zv zbF) (ze zbF) .none v44 e44 p44 n44 q44 t44),r44⟩) (c44:PySem.W.codeIn K q44 "_law_deed" = true) (k44:PySem.W.keepIn K (.ref f44)=true)
 (a45:PySem.W.nsIn K mainGlobals "_law_short_of" = some (some (.ref f45))) (l45:K.lookup f45=some ⟨o45,d45,.func (PySem.W.fnOf "_law_short_of" "_law_short_of" (zD zaG) (zv zaG) (ze zaG) .none v45 e45 p45 n45 q45 t45),r45⟩) (c45:PySem.W.codeIn K q45 "_law_short_of" = true) (k45:PySem.W.keepIn K (.ref f45)=true)
 (a46:PySem.W.nsIn K mainGlobals "_law_struck" = some (some (.ref f46))) (l46:K.lookup f46=some ⟨o46,d46,.func (PySem.W.fnOf "_law_struck" "_law_struck" (zD za4) (zv za4) (ze za4) .none v46 e46 p46 n46 q46 t46),r46⟩) (c46:PySem.W.codeIn K q46 "_law_struck" = true) (k46:PySem.W.keepIn K (.ref f46)=true)
 (a47:PySem.W.nsIn K mainGlobals "_law_freed" = some (some (.ref f47))) (l47:K.lookup f47=some ⟨o47,d47,.func (PySem.W.fnOf "_law_freed" "_law_freed" (zD zbq) (zv zbq) (ze zbq) .none v47 e47 p47 n47 q47 t47),r47⟩) (c47:PySem.W.codeIn K q47 "_law_freed" = true) (k47:PySem.W.keepIn K (.ref f47)=true)
 (a48:PySem.W.nsIn K mainGlobals "law" = some (some (.ref f48))) (l48:K.lookup f48=some ⟨o48,d48,.func (PySem.W.fnOf "law" "law" (zD zdk) (zv zdk) (ze zdk) .none v48 e48 p48 n48 q48 t48),r48⟩) (c48:PySem.W.codeIn K q48 "law" = true) (k48:PySem.W.keepIn K (.ref f48)=true)
 (cq_worst_days:q26=.ref cw_worst_days) (lc_worst_days:K.lookup cw_worst_days=some ⟨ow_worst_days,xw_worst_days,.fields vw_worst_days,sw_worst_days⟩) (ve_worst_days:vw_worst_days[11]?=some (.ref tw_worst_days))
 (w_ValueError:PySem.W.nsIn K mainGlobals "ValueError" = some none)
 (w_abs:PySem.W.nsIn K mainGlobals "abs" = some none)
 (w_bool:PySem.W.nsIn K mainGlobals "bool" = some none)
 (w_enumerate:PySem.W.nsIn K mainGlobals "enumerate" = some none)
 (w_int:PySem.W.nsIn K mainGlobals "int" = some none)
 (w_isinstance:PySem.W.nsIn K mainGlobals "isinstance" = some none)
 (w_len:PySem.W.nsIn K mainGlobals "len" = some none)
 (w_list:PySem.W.nsIn K mainGlobals "list" = some none)
 (w_max:PySem.W.nsIn K mainGlobals "max" = some none)
 (w_min:PySem.W.nsIn K mainGlobals "min" = some none)
 (w_range:PySem.W.nsIn K mainGlobals "range" = some none)
 (w_sorted:PySem.W.nsIn K mainGlobals "sorted" = some none)
 (w_sum:PySem.W.nsIn K mainGlobals "sum" = some none)
 (w_tuple:PySem.W.nsIn K mainGlobals "tuple" = some none)
 (w_zip:PySem.W.nsIn K mainGlobals "zip" = some none):Txt K mg:={
 c_Bare:=c_Bare,m_Bare:=ye X G m_Bare,
 c_Closed:=c_Closed,m_Closed:=ye X G m_Closed,
 c_Gone:=c_Gone,m_Gone:=ye X G m_Gone,
 c_NoDeal:=c_NoDeal,m_NoDeal:=ye X G m_NoDeal,
 c_NoLayer:=c_NoLayer,m_NoLayer:=ye X G m_NoLayer,
 c_NoMember:=c_NoMember,m_NoMember:=ye X G m_NoMember,
 c_NoPart:=c_NoPart,m_NoPart:=ye X G m_NoPart,
 c_NoRule:=c_NoRule,m_NoRule:=ye X G m_NoRule,
 c_NoTerms:=c_NoTerms,m_NoTerms:=ye X G m_NoTerms,
 c_Out:=c_Out,m_Out:=ye X G m_Out,
 c_Poor:=c_Poor,m_Poor:=ye X G m_Poor,
 c_QuitsError:=c_QuitsError,m_QuitsError:=ye X G m_QuitsError,
 c_Settled:=c_Settled,m_Settled:=ye X G m_Settled,
 e_Bare:=za3 x_Bare ga_Bare gn_Bare be_Bare hd_Bare fa_Bare sn_ tk_ mo_Bare,
 i_Bare_Bare:=zba,
 i_Bare_Closed:=zg n_Bare_Closed hd_Closed ty_Closed s_Bare_Closed,
 i_Bare_Gone:=zg n_Bare_Gone hd_Gone ty_Gone s_Bare_Gone,
 i_Bare_NoDeal:=zg n_Bare_NoDeal hd_NoDeal ty_NoDeal s_Bare_NoDeal,
 i_Bare_NoLayer:=zg n_Bare_NoLayer hd_NoLayer ty_NoLayer s_Bare_NoLayer,
 i_Bare_NoMember:=zg n_Bare_NoMember hd_NoMember ty_NoMember s_Bare_NoMember,
 i_Bare_NoPart:=zg n_Bare_NoPart hd_NoPart ty_NoPart s_Bare_NoPart,
 i_Bare_NoRule:=zg n_Bare_NoRule hd_NoRule ty_NoRule s_Bare_NoRule,
 i_Bare_NoTerms:=zg n_Bare_NoTerms hd_NoTerms ty_NoTerms s_Bare_NoTerms,
 i_Bare_Out:=zg n_Bare_Out hd_Out ty_Out s_Bare_Out,
 i_Bare_Poor:=zg n_Bare_Poor hd_Poor ty_Poor s_Bare_Poor,
 i_Bare_QuitsError:=zg n_Bare_QuitsError hd_QuitsError ty_QuitsError s_Bare_QuitsError,
 i_Bare_Settled:=zg n_Bare_Settled hd_Settled ty_Settled s_Bare_Settled,
 i_Bare_ValueError:=zcb v_Bare,
 q_Bare_QuitsError:=zbP b_QuitsError hd_QuitsError ty_QuitsError s_Bare_QuitsError,
 e_Closed:=za3 x_Closed ga_Closed gn_Closed be_Closed hd_Closed fa_Closed sn_ tk_ mo_Closed,
 i_Closed_Bare:=zg n_Closed_Bare hd_Bare ty_Bare s_Closed_Bare,
 i_Closed_Closed:=zba,
 i_Closed_Gone:=zg n_Closed_Gone hd_Gone ty_Gone s_Closed_Gone,
 i_Closed_NoDeal:=zg n_Closed_NoDeal hd_NoDeal ty_NoDeal s_Closed_NoDeal,
 i_Closed_NoLayer:=zg n_Closed_NoLayer hd_NoLayer ty_NoLayer s_Closed_NoLayer,
 i_Closed_NoMember:=zg n_Closed_NoMember hd_NoMember ty_NoMember s_Closed_NoMember,
 i_Closed_NoPart:=zg n_Closed_NoPart hd_NoPart ty_NoPart s_Closed_NoPart,
 i_Closed_NoRule:=zg n_Closed_NoRule hd_NoRule ty_NoRule s_Closed_NoRule,
 i_Closed_NoTerms:=zg n_Closed_NoTerms hd_NoTerms ty_NoTerms s_Closed_NoTerms,
 i_Closed_Out:=zg n_Closed_Out hd_Out ty_Out s_Closed_Out,
 i_Closed_Poor:=zg n_Closed_Poor hd_Poor ty_Poor s_Closed_Poor,
 i_Closed_QuitsError:=zg n_Closed_QuitsError hd_QuitsError ty_QuitsError s_Closed_QuitsError,
 i_Closed_Settled:=zg n_Closed_Settled hd_Settled ty_Settled s_Closed_Settled,
 i_Closed_ValueError:=zcb v_Closed,
 q_Closed_QuitsError:=zbP b_QuitsError hd_QuitsError ty_QuitsError s_Closed_QuitsError,
 e_Gone:=za3 x_Gone ga_Gone gn_Gone be_Gone hd_Gone fa_Gone sn_ tk_ mo_Gone,
 i_Gone_Bare:=zg n_Gone_Bare hd_Bare ty_Bare s_Gone_Bare,
 i_Gone_Closed:=zg n_Gone_Closed hd_Closed ty_Closed s_Gone_Closed,
 i_Gone_Gone:=zba,
 i_Gone_NoDeal:=zg n_Gone_NoDeal hd_NoDeal ty_NoDeal s_Gone_NoDeal,
 i_Gone_NoLayer:=zg n_Gone_NoLayer hd_NoLayer ty_NoLayer s_Gone_NoLayer,
 i_Gone_NoMember:=zg n_Gone_NoMember hd_NoMember ty_NoMember s_Gone_NoMember,
 i_Gone_NoPart:=zg n_Gone_NoPart hd_NoPart ty_NoPart s_Gone_NoPart,
 i_Gone_NoRule:=zg n_Gone_NoRule hd_NoRule ty_NoRule s_Gone_NoRule,
 i_Gone_NoTerms:=zg n_Gone_NoTerms hd_NoTerms ty_NoTerms s_Gone_NoTerms,
 i_Gone_Out:=zg n_Gone_Out hd_Out ty_Out s_Gone_Out,
 i_Gone_Poor:=zg n_Gone_Poor hd_Poor ty_Poor s_Gone_Poor,
 i_Gone_QuitsError:=zg n_Gone_QuitsError hd_QuitsError ty_QuitsError s_Gone_QuitsError,
 i_Gone_Settled:=zg n_Gone_Settled hd_Settled ty_Settled s_Gone_Settled,
 i_Gone_ValueError:=zcb v_Gone,
 q_Gone_QuitsError:=zbP b_QuitsError hd_QuitsError ty_QuitsError s_Gone_QuitsError,
 e_NoDeal:=za3 x_NoDeal ga_NoDeal gn_NoDeal be_NoDeal hd_NoDeal fa_NoDeal sn_ tk_ mo_NoDeal,
 i_NoDeal_Bare:=zg n_NoDeal_Bare hd_Bare ty_Bare s_NoDeal_Bare,
 i_NoDeal_Closed:=zg n_NoDeal_Closed hd_Closed ty_Closed s_NoDeal_Closed,
 i_NoDeal_Gone:=zg n_NoDeal_Gone hd_Gone ty_Gone s_NoDeal_Gone,
 i_NoDeal_NoDeal:=zba,
 i_NoDeal_NoLayer:=zg n_NoDeal_NoLayer hd_NoLayer ty_NoLayer s_NoDeal_NoLayer,
 i_NoDeal_NoMember:=zg n_NoDeal_NoMember hd_NoMember ty_NoMember s_NoDeal_NoMember,
 i_NoDeal_NoPart:=zg n_NoDeal_NoPart hd_NoPart ty_NoPart s_NoDeal_NoPart,
 i_NoDeal_NoRule:=zg n_NoDeal_NoRule hd_NoRule ty_NoRule s_NoDeal_NoRule,
 i_NoDeal_NoTerms:=zg n_NoDeal_NoTerms hd_NoTerms ty_NoTerms s_NoDeal_NoTerms,
 i_NoDeal_Out:=zg n_NoDeal_Out hd_Out ty_Out s_NoDeal_Out,
 i_NoDeal_Poor:=zg n_NoDeal_Poor hd_Poor ty_Poor s_NoDeal_Poor,
 i_NoDeal_QuitsError:=zg n_NoDeal_QuitsError hd_QuitsError ty_QuitsError s_NoDeal_QuitsError,
 i_NoDeal_Settled:=zg n_NoDeal_Settled hd_Settled ty_Settled s_NoDeal_Settled,
 i_NoDeal_ValueError:=zcb v_NoDeal,
 q_NoDeal_QuitsError:=zbP b_QuitsError hd_QuitsError ty_QuitsError s_NoDeal_QuitsError,
 e_NoLayer:=za3 x_NoLayer ga_NoLayer gn_NoLayer be_NoLayer hd_NoLayer fa_NoLayer sn_ tk_ mo_NoLayer,
 i_NoLayer_Bare:=zg n_NoLayer_Bare hd_Bare ty_Bare s_NoLayer_Bare,
 i_NoLayer_Closed:=zg n_NoLayer_Closed hd_Closed ty_Closed s_NoLayer_Closed,
 i_NoLayer_Gone:=zg n_NoLayer_Gone hd_Gone ty_Gone s_NoLayer_Gone,
 i_NoLayer_NoDeal:=zg n_NoLayer_NoDeal hd_NoDeal ty_NoDeal s_NoLayer_NoDeal,
 i_NoLayer_NoLayer:=zba,
 i_NoLayer_NoMember:=zg n_NoLayer_NoMember hd_NoMember ty_NoMember s_NoLayer_NoMember,
 i_NoLayer_NoPart:=zg n_NoLayer_NoPart hd_NoPart ty_NoPart s_NoLayer_NoPart,
 i_NoLayer_NoRule:=zg n_NoLayer_NoRule hd_NoRule ty_NoRule s_NoLayer_NoRule,
 i_NoLayer_NoTerms:=zg n_NoLayer_NoTerms hd_NoTerms ty_NoTerms s_NoLayer_NoTerms,
 i_NoLayer_Out:=zg n_NoLayer_Out hd_Out ty_Out s_NoLayer_Out,
 i_NoLayer_Poor:=zg n_NoLayer_Poor hd_Poor ty_Poor s_NoLayer_Poor,
 i_NoLayer_QuitsError:=zg n_NoLayer_QuitsError hd_QuitsError ty_QuitsError s_NoLayer_QuitsError,
 i_NoLayer_Settled:=zg n_NoLayer_Settled hd_Settled ty_Settled s_NoLayer_Settled,
 i_NoLayer_ValueError:=zcb v_NoLayer,
 q_NoLayer_QuitsError:=zbP b_QuitsError hd_QuitsError ty_QuitsError s_NoLayer_QuitsError,
 e_NoMember:=za3 x_NoMember ga_NoMember gn_NoMember be_NoMember hd_NoMember fa_NoMember sn_ tk_ mo_NoMember,
 i_NoMember_Bare:=zg n_NoMember_Bare hd_Bare ty_Bare s_NoMember_Bare,
 i_NoMember_Closed:=zg n_NoMember_Closed hd_Closed ty_Closed s_NoMember_Closed,
 i_NoMember_Gone:=zg n_NoMember_Gone hd_Gone ty_Gone s_NoMember_Gone,
 i_NoMember_NoDeal:=zg n_NoMember_NoDeal hd_NoDeal ty_NoDeal s_NoMember_NoDeal,
 i_NoMember_NoLayer:=zg n_NoMember_NoLayer hd_NoLayer ty_NoLayer s_NoMember_NoLayer,
 i_NoMember_NoMember:=zba,
 i_NoMember_NoPart:=zg n_NoMember_NoPart hd_NoPart ty_NoPart s_NoMember_NoPart,
 i_NoMember_NoRule:=zg n_NoMember_NoRule hd_NoRule ty_NoRule s_NoMember_NoRule,
 i_NoMember_NoTerms:=zg n_NoMember_NoTerms hd_NoTerms ty_NoTerms s_NoMember_NoTerms,
 i_NoMember_Out:=zg n_NoMember_Out hd_Out ty_Out s_NoMember_Out,
 i_NoMember_Poor:=zg n_NoMember_Poor hd_Poor ty_Poor s_NoMember_Poor,
 i_NoMember_QuitsError:=zg n_NoMember_QuitsError hd_QuitsError ty_QuitsError s_NoMember_QuitsError,
 i_NoMember_Settled:=zg n_NoMember_Settled hd_Settled ty_Settled s_NoMember_Settled,
 i_NoMember_ValueError:=zcb v_NoMember,
 q_NoMember_QuitsError:=zbP b_QuitsError hd_QuitsError ty_QuitsError s_NoMember_QuitsError,
 e_NoPart:=za3 x_NoPart ga_NoPart gn_NoPart be_NoPart hd_NoPart fa_NoPart sn_ tk_ mo_NoPart,
 i_NoPart_Bare:=zg n_NoPart_Bare hd_Bare ty_Bare s_NoPart_Bare,
 i_NoPart_Closed:=zg n_NoPart_Closed hd_Closed ty_Closed s_NoPart_Closed,
 i_NoPart_Gone:=zg n_NoPart_Gone hd_Gone ty_Gone s_NoPart_Gone,
 i_NoPart_NoDeal:=zg n_NoPart_NoDeal hd_NoDeal ty_NoDeal s_NoPart_NoDeal,
 i_NoPart_NoLayer:=zg n_NoPart_NoLayer hd_NoLayer ty_NoLayer s_NoPart_NoLayer,
 i_NoPart_NoMember:=zg n_NoPart_NoMember hd_NoMember ty_NoMember s_NoPart_NoMember,
 i_NoPart_NoPart:=zba,
 i_NoPart_NoRule:=zg n_NoPart_NoRule hd_NoRule ty_NoRule s_NoPart_NoRule,
 i_NoPart_NoTerms:=zg n_NoPart_NoTerms hd_NoTerms ty_NoTerms s_NoPart_NoTerms,
 i_NoPart_Out:=zg n_NoPart_Out hd_Out ty_Out s_NoPart_Out,
 i_NoPart_Poor:=zg n_NoPart_Poor hd_Poor ty_Poor s_NoPart_Poor,
 i_NoPart_QuitsError:=zg n_NoPart_QuitsError hd_QuitsError ty_QuitsError s_NoPart_QuitsError,
 i_NoPart_Settled:=zg n_NoPart_Settled hd_Settled ty_Settled s_NoPart_Settled,
 i_NoPart_ValueError:=zcb v_NoPart,
 q_NoPart_QuitsError:=zbP b_QuitsError hd_QuitsError ty_QuitsError s_NoPart_QuitsError,
 e_NoRule:=za3 x_NoRule ga_NoRule gn_NoRule be_NoRule hd_NoRule fa_NoRule sn_ tk_ mo_NoRule,
 i_NoRule_Bare:=zg n_NoRule_Bare hd_Bare ty_Bare s_NoRule_Bare,
 i_NoRule_Closed:=zg n_NoRule_Closed hd_Closed ty_Closed s_NoRule_Closed,
 i_NoRule_Gone:=zg n_NoRule_Gone hd_Gone ty_Gone s_NoRule_Gone,
 i_NoRule_NoDeal:=zg n_NoRule_NoDeal hd_NoDeal ty_NoDeal s_NoRule_NoDeal,
 i_NoRule_NoLayer:=zg n_NoRule_NoLayer hd_NoLayer ty_NoLayer s_NoRule_NoLayer,
 i_NoRule_NoMember:=zg n_NoRule_NoMember hd_NoMember ty_NoMember s_NoRule_NoMember,
 i_NoRule_NoPart:=zg n_NoRule_NoPart hd_NoPart ty_NoPart s_NoRule_NoPart,
 i_NoRule_NoRule:=zba,
 i_NoRule_NoTerms:=zg n_NoRule_NoTerms hd_NoTerms ty_NoTerms s_NoRule_NoTerms,
 i_NoRule_Out:=zg n_NoRule_Out hd_Out ty_Out s_NoRule_Out,
 i_NoRule_Poor:=zg n_NoRule_Poor hd_Poor ty_Poor s_NoRule_Poor,
 i_NoRule_QuitsError:=zg n_NoRule_QuitsError hd_QuitsError ty_QuitsError s_NoRule_QuitsError,
 i_NoRule_Settled:=zg n_NoRule_Settled hd_Settled ty_Settled s_NoRule_Settled,
 i_NoRule_ValueError:=zcb v_NoRule,
 q_NoRule_QuitsError:=zbP b_QuitsError hd_QuitsError ty_QuitsError s_NoRule_QuitsError,
 e_NoTerms:=za3 x_NoTerms ga_NoTerms gn_NoTerms be_NoTerms hd_NoTerms fa_NoTerms sn_ tk_ mo_NoTerms,
 i_NoTerms_Bare:=zg n_NoTerms_Bare hd_Bare ty_Bare s_NoTerms_Bare,
 i_NoTerms_Closed:=zg n_NoTerms_Closed hd_Closed ty_Closed s_NoTerms_Closed,
 i_NoTerms_Gone:=zg n_NoTerms_Gone hd_Gone ty_Gone s_NoTerms_Gone,
 i_NoTerms_NoDeal:=zg n_NoTerms_NoDeal hd_NoDeal ty_NoDeal s_NoTerms_NoDeal,
 i_NoTerms_NoLayer:=zg n_NoTerms_NoLayer hd_NoLayer ty_NoLayer s_NoTerms_NoLayer,
 i_NoTerms_NoMember:=zg n_NoTerms_NoMember hd_NoMember ty_NoMember s_NoTerms_NoMember,
 i_NoTerms_NoPart:=zg n_NoTerms_NoPart hd_NoPart ty_NoPart s_NoTerms_NoPart,
 i_NoTerms_NoRule:=zg n_NoTerms_NoRule hd_NoRule ty_NoRule s_NoTerms_NoRule,
 i_NoTerms_NoTerms:=zba,
 i_NoTerms_Out:=zg n_NoTerms_Out hd_Out ty_Out s_NoTerms_Out,
 i_NoTerms_Poor:=zg n_NoTerms_Poor hd_Poor ty_Poor s_NoTerms_Poor,
 i_NoTerms_QuitsError:=zg n_NoTerms_QuitsError hd_QuitsError ty_QuitsError s_NoTerms_QuitsError,
 i_NoTerms_Settled:=zg n_NoTerms_Settled hd_Settled ty_Settled s_NoTerms_Settled,
 i_NoTerms_ValueError:=zcb v_NoTerms,
 q_NoTerms_QuitsError:=zbP b_QuitsError hd_QuitsError ty_QuitsError s_NoTerms_QuitsError,
 e_Out:=za3 x_Out ga_Out gn_Out be_Out hd_Out fa_Out sn_ tk_ mo_Out,
 i_Out_Bare:=zg n_Out_Bare hd_Bare ty_Bare s_Out_Bare,
 i_Out_Closed:=zg n_Out_Closed hd_Closed ty_Closed s_Out_Closed,
 i_Out_Gone:=zg n_Out_Gone hd_Gone ty_Gone s_Out_Gone,
 i_Out_NoDeal:=zg n_Out_NoDeal hd_NoDeal ty_NoDeal s_Out_NoDeal,
 i_Out_NoLayer:=zg n_Out_NoLayer hd_NoLayer ty_NoLayer s_Out_NoLayer,
 i_Out_NoMember:=zg n_Out_NoMember hd_NoMember ty_NoMember s_Out_NoMember,
 i_Out_NoPart:=zg n_Out_NoPart hd_NoPart ty_NoPart s_Out_NoPart,
 i_Out_NoRule:=zg n_Out_NoRule hd_NoRule ty_NoRule s_Out_NoRule,
 i_Out_NoTerms:=zg n_Out_NoTerms hd_NoTerms ty_NoTerms s_Out_NoTerms,
 i_Out_Out:=zba,
 i_Out_Poor:=zg n_Out_Poor hd_Poor ty_Poor s_Out_Poor,
 i_Out_QuitsError:=zg n_Out_QuitsError hd_QuitsError ty_QuitsError s_Out_QuitsError,
 i_Out_Settled:=zg n_Out_Settled hd_Settled ty_Settled s_Out_Settled,
 i_Out_ValueError:=zcb v_Out,
 q_Out_QuitsError:=zbP b_QuitsError hd_QuitsError ty_QuitsError s_Out_QuitsError,
 e_Poor:=za3 x_Poor ga_Poor gn_Poor be_Poor hd_Poor fa_Poor sn_ tk_ mo_Poor,
 i_Poor_Bare:=zg n_Poor_Bare hd_Bare ty_Bare s_Poor_Bare,
 i_Poor_Closed:=zg n_Poor_Closed hd_Closed ty_Closed s_Poor_Closed,
 i_Poor_Gone:=zg n_Poor_Gone hd_Gone ty_Gone s_Poor_Gone,
 i_Poor_NoDeal:=zg n_Poor_NoDeal hd_NoDeal ty_NoDeal s_Poor_NoDeal,
 i_Poor_NoLayer:=zg n_Poor_NoLayer hd_NoLayer ty_NoLayer s_Poor_NoLayer,
 i_Poor_NoMember:=zg n_Poor_NoMember hd_NoMember ty_NoMember s_Poor_NoMember,
 i_Poor_NoPart:=zg n_Poor_NoPart hd_NoPart ty_NoPart s_Poor_NoPart,
 i_Poor_NoRule:=zg n_Poor_NoRule hd_NoRule ty_NoRule s_Poor_NoRule,
 i_Poor_NoTerms:=zg n_Poor_NoTerms hd_NoTerms ty_NoTerms s_Poor_NoTerms,
 i_Poor_Out:=zg n_Poor_Out hd_Out ty_Out s_Poor_Out,
 i_Poor_Poor:=zba,
 i_Poor_QuitsError:=zg n_Poor_QuitsError hd_QuitsError ty_QuitsError s_Poor_QuitsError,
 i_Poor_Settled:=zg n_Poor_Settled hd_Settled ty_Settled s_Poor_Settled,
 i_Poor_ValueError:=zcb v_Poor,
 q_Poor_QuitsError:=zbP b_QuitsError hd_QuitsError ty_QuitsError s_Poor_QuitsError,
 e_Settled:=za3 x_Settled ga_Settled gn_Settled be_Settled hd_Settled fa_Settled sn_ tk_ mo_Settled,
 i_Settled_Bare:=zg n_Settled_Bare hd_Bare ty_Bare s_Settled_Bare,
 i_Settled_Closed:=zg n_Settled_Closed hd_Closed ty_Closed s_Settled_Closed,
 i_Settled_Gone:=zg n_Settled_Gone hd_Gone ty_Gone s_Settled_Gone,
 i_Settled_NoDeal:=zg n_Settled_NoDeal hd_NoDeal ty_NoDeal s_Settled_NoDeal,
 i_Settled_NoLayer:=zg n_Settled_NoLayer hd_NoLayer ty_NoLayer s_Settled_NoLayer,
 i_Settled_NoMember:=zg n_Settled_NoMember hd_NoMember ty_NoMember s_Settled_NoMember,
 i_Settled_NoPart:=zg n_Settled_NoPart hd_NoPart ty_NoPart s_Settled_NoPart,
 i_Settled_NoRule:=zg n_Settled_NoRule hd_NoRule ty_NoRule s_Settled_NoRule,
 i_Settled_NoTerms:=zg n_Settled_NoTerms hd_NoTerms ty_NoTerms s_Settled_NoTerms,
 i_Settled_Out:=zg n_Settled_Out hd_Out ty_Out s_Settled_Out,
 i_Settled_Poor:=zg n_Settled_Poor hd_Poor ty_Poor s_Settled_Poor,
 i_Settled_QuitsError:=zg n_Settled_QuitsError hd_QuitsError ty_QuitsError s_Settled_QuitsError,
 i_Settled_Settled:=zba,
 i_Settled_ValueError:=zcb v_Settled,
 q_Settled_QuitsError:=zbP b_QuitsError hd_QuitsError ty_QuitsError s_Settled_QuitsError,
 c_Book:=c_Book,m_Book:=ye X G m_Book,cl_Book:=⟨pg_Book,hd_Book,po_Book,sa_Book⟩,
 na_Book_day:=na_Book_day,
 na_Book_deals:=na_Book_deals,
 na_Book_many:=na_Book_many,
 na_Book_wares:=na_Book_wares,
 c_House:=c_House,m_House:=ye X G m_House,cl_House:=⟨pg_House,hd_House,po_House,sa_House⟩,
 na_House_book:=na_House_book,
 na_House_kept:=na_House_kept,
 na_House_moves:=na_House_moves,
 na_House_order:=na_House_order,
 na_House_outs:=na_House_outs,
 na_House_pledges:=na_House_pledges,
 na_House_purses:=na_House_purses,
 na_House_reports:=na_House_reports,
 na_House_rule:=na_House_rule,
 na_House_shares:=na_House_shares,
 t_MOST_AMOUNT:=t_MOST_AMOUNT,g_MOST_AMOUNT:=ye X G g_MOST_AMOUNT,
 t_MOST_COINS:=t_MOST_COINS,g_MOST_COINS:=ye X G g_MOST_COINS,
 t_MOST_DAY:=t_MOST_DAY,g_MOST_DAY:=ye X G g_MOST_DAY,
 t_MOST_UNITS:=t_MOST_UNITS,g_MOST_UNITS:=ye X G g_MOST_UNITS,
 t_PAYEE:=t_PAYEE,g_PAYEE:=ye X G g_PAYEE,
 t_PAYER:=t_PAYER,g_PAYER:=ye X G g_PAYER,
 t_STATE:=t_STATE,g_STATE:=ye X G g_STATE,
 t_UNITS:=t_UNITS,g_UNITS:=ye X G g_UNITS,
 t_WARE:=t_WARE,g_WARE:=ye X G g_WARE,
 a_WORDS:=w_WORDS,g_WORDS:=ye X G g_WORDS,q_WORDS:=fun H=>.inr ⟨_,_,_,o_WORDS,rfl,rfl,(by show 5<=_;rw[sizeLine_eq];decide),(.cons ⟨_,rfl⟩ (.cons ⟨_,rfl⟩ (.cons ⟨_,rfl⟩ (.cons ⟨_,rfl⟩ (.cons ⟨_,rfl⟩ .nil)))))⟩,
 d_Book___init__:={ a:=f0,fd:=_,F:=zk (st:=zaE) l0 c0 k0,b:=(zk (st:=zaE) l0 c0 k0).binds (ps:=["self", "many", "wares"]) fun _ _ _ _ _ _ us hl=>(by obtain⟨_,_,_,rfl⟩:=len3 hl;rfl),mt:=⟨a0,i0,k0⟩ },mk_Book:=⟨mk_Book,a0,i0,kc_Book⟩,
 d_Book_strike:={ a:=f1,fd:=_,F:=zk (st:=za9) l1 c1 k1,b:=(zk (st:=za9) l1 c1 k1).binds (ps:=["self", "payer", "payee", "ware", "units", "amount", "day", "rank"]) fun _ _ _ _ _ _ us hl=>(by obtain⟨_,_,_,_,_,_,_,_,rfl⟩:=len8 hl;rfl),mt:=⟨a1,i1,k1⟩ },
 d_Book_check_members:={ a:=f2,fd:=_,F:=zk (st:=z7) l2 c2 k2,b:=(zk (st:=z7) l2 c2 k2).binds (ps:=["self", "payer", "payee"]) fun _ _ _ _ _ _ us hl=>(by obtain⟨_,_,_,rfl⟩:=len3 hl;rfl),mt:=⟨a2,i2,k2⟩ },
 d_Book_check_terms:={ a:=f3,fd:=_,F:=zk (st:=zah) l3 c3 k3,b:=(zk (st:=zah) l3 c3 k3).binds (ps:=["self", "ware", "units", "amount", "day", "rank"]) fun _ _ _ _ _ _ us hl=>(by obtain⟨_,_,_,_,_,_,rfl⟩:=len6 hl;rfl),mt:=⟨a3,i3,k3⟩ },
 d_Book_break_off:={ a:=f4,fd:=_,F:=zk (st:=zat) l4 c4 k4,b:=(zk (st:=zat) l4 c4 k4).binds (ps:=["self", "number"]) fun _ _ _ _ _ _ us hl=>(by obtain⟨_,_,rfl⟩:=len2 hl;rfl),mt:=⟨a4,i4,k4⟩ },
 d_Book_standing_deal:={ a:=f5,fd:=_,F:=zk (st:=zaa) l5 c5 k5,b:=(zk (st:=zaa) l5 c5 k5).binds (ps:=["self", "number"]) fun _ _ _ _ _ _ us hl=>(by obtain⟨_,_,rfl⟩:=len2 hl;rfl),mt:=⟨a5,i5,k5⟩ },
 d_Book_put_state:={ a:=f6,fd:=_,F:=zk (st:=zav) l6 c6 k6,b:=(zk (st:=zav) l6 c6 k6).binds (ps:=["self", "number", "state"]) fun _ _ _ _ _ _ us hl=>(by obtain⟨_,_,_,rfl⟩:=len3 hl;rfl),mt:=⟨a6,i6,k6⟩ },
 d_Book_deal:={ a:=f7,fd:=_,F:=zk (st:=zbB) l7 c7 k7,b:=(zk (st:=zbB) l7 c7 k7).binds (ps:=["self", "number"]) fun _ _ _ _ _ _ us hl=>(by obtain⟨_,_,rfl⟩:=len2 hl;rfl),mt:=⟨a7,i7,k7⟩ },
 d_Book_position:={ a:=f8,fd:=_,F:=zk (st:=zaC) l8 c8 k8,b:=(zk (st:=zaC) l8 c8 k8).binds (ps:=["self", "member"]) fun _ _ _ _ _ _ us hl=>(by obtain⟨_,_,rfl⟩:=len2 hl;rfl),mt:=⟨a8,i8,k8⟩ },
 d_House___init__:={ a:=f9,fd:=_,F:=zk (st:=zas) l9 c9 k9,b:=(zk (st:=zas) l9 c9 k9).binds (ps:=["self", "members", "moves", "rule", "order", "own"]) fun _ _ _ _ _ _ us hl=>(by obtain⟨_,_,_,_,_,_,rfl⟩:=len6 hl;rfl),mt:=⟨a9,i9,k9⟩ },mk_House:=⟨mk_House,a9,i9,kc_House⟩,
 d_House_put:={ a:=f10,fd:=_,F:=zk (st:=zbz) l10 c10 k10,b:=(zk (st:=zbz) l10 c10 k10).binds (ps:=["self", "member", "coins"]) fun _ _ _ _ _ _ us hl=>(by obtain⟨_,_,_,rfl⟩:=len3 hl;rfl),mt:=⟨a10,i10,k10⟩ },
 d_House_lay:={ a:=f11,fd:=_,F:=zk (st:=zbE) l11 c11 k11,b:=(zk (st:=zbE) l11 c11 k11).binds (ps:=["self", "member", "coins"]) fun _ _ _ _ _ _ us hl=>(by obtain⟨_,_,_,rfl⟩:=len3 hl;rfl),mt:=⟨a11,i11,k11⟩ },
 d_House_free:={ a:=f12,fd:=_,F:=zk (st:=zbo) l12 c12 k12,b:=(zk (st:=zbo) l12 c12 k12).binds (ps:=["self", "member", "coins"]) fun _ _ _ _ _ _ us hl=>(by obtain⟨_,_,_,rfl⟩:=len3 hl;rfl),mt:=⟨a12,i12,k12⟩ },
 d_House_check_coins:={ a:=f13,fd:=_,F:=zk (st:=zac) l13 c13 k13,b:=(zk (st:=zac) l13 c13 k13).binds (ps:=["self", "member", "coins"]) fun _ _ _ _ _ _ us hl=>(by obtain⟨_,_,_,rfl⟩:=len3 hl;rfl),mt:=⟨a13,i13,k13⟩ },
 d_House_strike:={ a:=f14,fd:=_,F:=zk (st:=zaQ) l14 c14 k14,b:=(zk (st:=zaQ) l14 c14 k14).binds (ps:=["self", "payer", "payee", "ware", "units", "amount", "day", "rank"]) fun _ _ _ _ _ _ us hl=>(by obtain⟨_,_,_,_,_,_,_,_,rfl⟩:=len8 hl;rfl),mt:=⟨a14,i14,k14⟩ },
 d_House_break_off:={ a:=f15,fd:=_,F:=zk (st:=zal) l15 c15 k15,b:=(zk (st:=zal) l15 c15 k15).binds (ps:=["self", "number"]) fun _ _ _ _ _ _ us hl=>(by obtain⟨_,_,rfl⟩:=len2 hl;rfl),mt:=⟨a15,i15,k15⟩ },
 d_House_pledge:={ a:=f16,fd:=_,F:=zk (st:=zaN) l16 c16 k16,b:=(zk (st:=zaN) l16 c16 k16).binds (ps:=["self", "member"]) fun _ _ _ _ _ _ us hl=>(by obtain⟨_,_,rfl⟩:=len2 hl;rfl),mt:=⟨a16,i16,k16⟩ },
 d_House_need:={ a:=f17,fd:=_,F:=zk (st:=zbm) l17 c17 k17,b:=(zk (st:=zbm) l17 c17 k17).binds (ps:=["self", "member"]) fun _ _ _ _ _ _ us hl=>(by obtain⟨_,_,rfl⟩:=len2 hl;rfl),mt:=⟨a17,i17,k17⟩ },
 d_House_need_with:={ a:=f18,fd:=_,F:=zk (st:=zak) l18 c18 k18,b:=(zk (st:=zak) l18 c18 k18).binds (ps:=["self", "member", "ware", "units"]) fun _ _ _ _ _ _ us hl=>(by obtain⟨_,_,_,_,rfl⟩:=len4 hl;rfl),mt:=⟨a18,i18,k18⟩ },
 d_House_deal:={ a:=f19,fd:=_,F:=zk (st:=zbl) l19 c19 k19,b:=(zk (st:=zbl) l19 c19 k19).binds (ps:=["self", "number"]) fun _ _ _ _ _ _ us hl=>(by obtain⟨_,_,rfl⟩:=len2 hl;rfl),mt:=⟨a19,i19,k19⟩ },
 d_House_position:={ a:=f20,fd:=_,F:=zk (st:=zar) l20 c20 k20,b:=(zk (st:=zar) l20 c20 k20).binds (ps:=["self", "member"]) fun _ _ _ _ _ _ us hl=>(by obtain⟨_,_,rfl⟩:=len2 hl;rfl),mt:=⟨a20,i20,k20⟩ },
 d_check_order:={ a:=f21,fd:=_,F:=zk (st:=za7) l21 c21 k21,b:=(zk (st:=za7) l21 c21 k21).binds (ps:=["order"]) fun _ _ _ _ _ _ us hl=>(by obtain⟨_,rfl⟩:=len1 hl;rfl),m:=ye X G a21 },
 d_divisor:={ a:=f22,fd:=_,F:=zk (st:=zbW) l22 c22 k22,b:=(zk (st:=zbW) l22 c22 k22).binds (ps:=["one", "other"]) fun _ _ _ _ _ _ us hl=>(by obtain⟨_,_,rfl⟩:=len2 hl;rfl),m:=ye X G a22 },
 d_part:={ a:=f23,fd:=_,F:=zk (st:=zcZ) l23 c23 k23,b:=(zk (st:=zcZ) l23 c23 k23).binds (ps:=["top", "bottom"]) fun _ _ _ _ _ _ us hl=>(by obtain⟨_,_,rfl⟩:=len2 hl;rfl),m:=ye X G a23 },
 d_under:={ a:=f24,fd:=_,F:=zk (st:=zcC) l24 c24 k24,b:=(zk (st:=zcC) l24 c24 k24).binds (ps:=["one", "other"]) fun _ _ _ _ _ _ us hl=>(by obtain⟨_,_,rfl⟩:=len2 hl;rfl),m:=ye X G a24 },
 d_losses_of:={ a:=f25,fd:=_,F:=zk (st:=zby) l25 c25 k25,b:=(zk (st:=zby) l25 c25 k25).binds (ps:=["position", "moves"]) fun _ _ _ _ _ _ us hl=>(by obtain⟨_,_,rfl⟩:=len2 hl;rfl),m:=ye X G a25 },
 d_worst_days:={ a:=f26,fd:=_,F:=zk (st:=zbk) l26 c26 k26,b:=(zk (st:=zbk) l26 c26 k26).binds (ps:=["position", "moves", "k"]) fun _ _ _ _ _ _ us hl=>(by obtain⟨_,_,_,rfl⟩:=len3 hl;rfl),m:=ye X G a26 },
 d_need_of:={ a:=f27,fd:=_,F:=zk (st:=zbX) l27 c27 k27,b:=(zk (st:=zbX) l27 c27 k27).binds (ps:=["rule", "position", "moves"]) fun _ _ _ _ _ _ us hl=>(by obtain⟨_,_,_,rfl⟩:=len3 hl;rfl),m:=ye X G a27 },
 d_check_rule:={ a:=f28,fd:=_,F:=zk (st:=zbr) l28 c28 k28,b:=(zk (st:=zbr) l28 c28 k28).binds (ps:=["rule", "moves"]) fun _ _ _ _ _ _ us hl=>(by obtain⟨_,_,rfl⟩:=len2 hl;rfl),m:=ye X G a28 },
 d_check_enough:={ a:=f29,fd:=_,F:=zk (st:=zaP) l29 c29 k29,b:=(zk (st:=zaP) l29 c29 k29).binds (ps:=["coins", "wanted"]) fun _ _ _ _ _ _ us hl=>(by obtain⟨_,_,rfl⟩:=len2 hl;rfl),m:=ye X G a29 },
 d_check_covered:={ a:=f30,fd:=_,F:=zk (st:=zaD) l30 c30 k30,b:=(zk (st:=zaD) l30 c30 k30).binds (ps:=["pledge", "need"]) fun _ _ _ _ _ _ us hl=>(by obtain⟨_,_,rfl⟩:=len2 hl;rfl),m:=ye X G a30 },
 d__law_cell:={ a:=f31,fd:=_,F:=zk (st:=zbD) l31 c31 k31,b:=(zk (st:=zbD) l31 c31 k31).binds (ps:=["_law_script", "_law_k"]) fun _ _ _ _ _ _ us hl=>(by obtain⟨_,_,rfl⟩:=len2 hl;rfl),m:=ye X G a31 },
 d__law_draw:={ a:=f32,fd:=_,F:=zk (st:=zbH) l32 c32 k32,b:=(zk (st:=zbH) l32 c32 k32).binds (ps:=["_law_script", "_law_k", "_law_many"]) fun _ _ _ _ _ _ us hl=>(by obtain⟨_,_,_,rfl⟩:=len3 hl;rfl),m:=ye X G a32 },
 d__law_great:={ a:=f33,fd:=_,F:=zk (st:=zbj) l33 c33 k33,b:=(zk (st:=zbj) l33 c33 k33).binds (ps:=["_law_script", "_law_k", "_law_many"]) fun _ _ _ _ _ _ us hl=>(by obtain⟨_,_,_,rfl⟩:=len3 hl;rfl),m:=ye X G a33 },
 d__law_pledge:={ a:=f34,fd:=_,F:=zk (st:=za5) l34 c34 k34,b:=(zk (st:=za5) l34 c34 k34).binds (ps:=["_law_script", "_law_k"]) fun _ _ _ _ _ _ us hl=>(by obtain⟨_,_,rfl⟩:=len2 hl;rfl),m:=ye X G a34 },
 d__law_moves:={ a:=f35,fd:=_,F:=zk (st:=zbh) l35 c35 k35,b:=(zk (st:=zbh) l35 c35 k35).binds (ps:=["_law_script", "_law_start", "_law_days", "_law_wares"]) fun _ _ _ _ _ _ us hl=>(by obtain⟨_,_,_,_,rfl⟩:=len4 hl;rfl),m:=ye X G a35 },
 d__law_loss:={ a:=f36,fd:=_,F:=zk (st:=zbC) l36 c36 k36,b:=(zk (st:=zbC) l36 c36 k36).binds (ps:=["_law_position", "_law_move"]) fun _ _ _ _ _ _ us hl=>(by obtain⟨_,_,rfl⟩:=len2 hl;rfl),m:=ye X G a36 },
 d__law_need:={ a:=f37,fd:=_,F:=zk (st:=zbx) l37 c37 k37,b:=(zk (st:=zbx) l37 c37 k37).binds (ps:=["_law_position", "_law_rule", "_law_moves_here"]) fun _ _ _ _ _ _ us hl=>(by obtain⟨_,_,_,rfl⟩:=len3 hl;rfl),m:=ye X G a37 },
 d__law_positions:={ a:=f38,fd:=_,F:=zk (st:=zau) l38 c38 k38,b:=(zk (st:=zau) l38 c38 k38).binds (ps:=["_law_rows", "_law_many", "_law_wares"]) fun _ _ _ _ _ _ us hl=>(by obtain⟨_,_,_,rfl⟩:=len3 hl;rfl),m:=ye X G a38 },
 d__law_part_is:={ a:=f39,fd:=_,F:=zk (st:=zaR) l39 c39 k39,b:=(zk (st:=zaR) l39 c39 k39).binds (ps:=["_law_told", "_law_due"]) fun _ _ _ _ _ _ us hl=>(by obtain⟨_,_,rfl⟩:=len2 hl;rfl),m:=ye X G a39 },
 d__law_stands:={ a:=f40,fd:=_,F:=zk (st:=za6) l40 c40 k40,b:=(zk (st:=za6) l40 c40 k40).binds (ps:=["_law_house", "_law_rows", "_law_pledges", "_law_rule", "_law_moves_here"]) fun _ _ _ _ _ _ us hl=>(by obtain⟨_,_,_,_,_,rfl⟩:=len5 hl;rfl),m:=ye X G a40 },
 d__law_name:={ a:=f41,fd:=_,F:=zk (st:=zbG) l41 c41 k41,b:=(zk (st:=zbG) l41 c41 k41).binds (ps:=["_law_e"]) fun _ _ _ _ _ _ us hl=>(by obtain⟨_,rfl⟩:=len1 hl;rfl),m:=ye X G a41 },
 d__law_done:={ a:=f42,fd:=_,F:=zk (st:=zbA) l42 c42 k42,b:=(zk (st:=zbA) l42 c42 k42).binds (ps:=["_law_house", "_law_deed_here"]) fun _ _ _ _ _ _ us hl=>(by obtain⟨_,_,rfl⟩:=len2 hl;rfl),m:=ye X G a42 },
 d__law_found:={ a:=f43,fd:=_,F:=zk (st:=zbg) l43 c43 k43,b:=(zk (st:=zbg) l43 c43 k43).binds (ps:=["_law_house", "_law_deed_here"]) fun _ _ _ _ _ _ us hl=>(by obtain⟨_,_,rfl⟩:=len2 hl;rfl),m:=ye X G a43 },
 d__law_deed:={ a:=f44,fd:=_,F:=zk (st:=zbF) l44 c44 k44,b:=(zk (st:=zbF) l44 c44 k44).binds (ps:=["_law_script", "_law_at", "_law_many", "_law_wares"]) fun _ _ _ _ _ _ us hl=>(by obtain⟨_,_,_,_,rfl⟩:=len4 hl;rfl),m:=ye X G a44 },
 d__law_short_of:={ a:=f45,fd:=_,F:=zk (st:=zaG) l45 c45 k45,b:=(zk (st:=zaG) l45 c45 k45).binds (ps:=["_law_rows", "_law_pledges", "_law_rule", "_law_moves_here", "_law_deed_here"]) fun _ _ _ _ _ _ us hl=>(by obtain⟨_,_,_,_,_,rfl⟩:=len5 hl;rfl),m:=ye X G a45 },
 d__law_struck:={ a:=f46,fd:=_,F:=zk (st:=za4) l46 c46 k46,b:=(zk (st:=za4) l46 c46 k46).binds (ps:=["_law_house", "_law_rows", "_law_pledges", "_law_rule", "_law_moves_here", "_law_deed_here"]) fun _ _ _ _ _ _ us hl=>(by obtain⟨_,_,_,_,_,_,rfl⟩:=len6 hl;rfl),m:=ye X G a46 },
 d__law_freed:={ a:=f47,fd:=_,F:=zk (st:=zbq) l47 c47 k47,b:=(zk (st:=zbq) l47 c47 k47).binds (ps:=["_law_script", "_law_at", "_law_house", "_law_rows", "_law_pledges", "_law_rule", "_law_moves_here"]) fun _ _ _ _ _ _ us hl=>(by obtain⟨_,_,_,_,_,_,_,rfl⟩:=len7 hl;rfl),m:=ye X G a47 },
 d_law:={ a:=f48,fd:=_,F:=zk (st:=zdk) l48 c48 k48,b:=(zk (st:=zdk) l48 c48 k48).binds (ps:=["_law_script"]) fun _ _ _ _ _ _ us hl=>(by obtain⟨_,rfl⟩:=len1 hl;rfl),m:=ye X G a48 },
 bl_law:=fun s v=>.of_eq rfl,
 cw_worst_days:=cw_worst_days,tw_worst_days:=tw_worst_days,tb_worst_days:=zm1 a26 l26 cq_worst_days lc_worst_days ve_worst_days,cc_worst_days:=cq_worst_days,
 z_ValueError:=yB X G w_ValueError,
 z_abs:=yB X G w_abs,
 z_bool:=yB X G w_bool,
 z_enumerate:=yB X G w_enumerate,
 z_int:=yB X G w_int,
 z_isinstance:=yB X G w_isinstance,
 z_len:=yB X G w_len,
 z_list:=yB X G w_list,
 z_max:=yB X G w_max,
 z_min:=yB X G w_min,
 z_range:=yB X G w_range,
 z_sorted:=yB X G w_sorted,
 z_sum:=yB X G w_sum,
 z_tuple:=yB X G w_tuple,
 z_zip:=yB X G w_zip }
section
variable {P:Program}{w:World}{K:Fg}{mg:Str->Option Value}{base:Heap}[TabX K mg base "worst_days"]
abbrev lP:Pos:=⟨302,42,302,73⟩
abbrev lQ:Str:=("worst_days" : Str) ++ ".<locals>." ++ "<lambda>"
theorem zdK(T:Txt K mg):FnOk P w K mg base (CXF P w) 1 T.d_losses_of.a T.d_losses_of.fd ["position", "moves"] (zer K):=by
 refine T.d_losses_of.F.okN zgJ (fun vs H Q E h=>?_) (fun cdv A outer s H vs Q E hr h=>?_)
 ·obtain⟨p,l,as,k,f,F,m,rfl,_⟩:=h;rfl
 obtain⟨p,l,as,k,f,F,m,rfl,hp,hl,hR,hf,hF,hm,hk,hal,q⟩:=h
 refine⟨_,(zf (zH (zbt rfl (show PI _ _ _ (zbc K _)from zaz (pv 1)) (zS (Ni:=["day", "position"]) (caps:=[none,some 0]) (by rfl)) (fun S _ _ _ _ _=>(z8 (gi:=0) S (Or.inl rfl) rfl)) (fun _ _ _ _ _=>zaM) (fun _ _ _ _ _=>(zdj zcR (zt (show CallR _ _ (zes K)from zc0 rfl) rfl T.z_sum BT.sum (za (zbt rfl (show PI _ _ _ (zmd K _)from zm0 rfl T.z_zip (za (pv 1) (za (pv 0) zb))) (zS (Ni:=["units", "move"]) (caps:=[none,none]) (by rfl)) (fun S _ _ _ _ _=>(show PG _ _ (zgi K 2 _)from zjh (n:=2) rfl (zdo (z8 (gi:=0) S (Or.inl rfl) rfl) (zdo (z8 (gi:=1) S (Or.inl rfl) rfl) zhh)))) (fun _ _ _ _ _=>zaM) (fun _ _ _ _ _=>(zr zaO (pv 0) (pv 1)))) zb))))))),?_⟩
 refine zF (σ0:=[some (.ref p),some (.ref l)]) rfl ?_
 walk_at "x"
 refine zaw (zbn (K:=K) (a:=l) (xs:=as.map V.ref)) (fun H' e=>SqL.of (e.at hl)) rfl (fun i vs _=>vs=(vec i fun i=>zaq k f (F i)).map V.int) (fun H' _=>rfl) ?_ ?_
 ·rintro i x D vs o H3 H4 hi hD e3 hv hvl rfl e4 hx
  rw[ya]at hi
  obtain⟨c,hc⟩:=zQ hi
  have ex:x=.ref c:=by rw[yh,hc]at hx;exact(yo hx).symm
  subst ex
  have hrow:=hR.2 _ _ hc
  have hW:=hF i hi
  walk_at "x"
  refine zkM (zlX (K:=K) (a:=p) (b:=c) (xs:=(vec k f).map V.int) (ys:=(vec k (F i)).map V.int)) (fun H' e=>⟨SqL.of (by walk_at "h"),SqL.of (by walk_at "h")⟩) rfl (fun j vs _=>vs=(vec j fun j=>f j*F i j).map V.int) (fun H' _=>rfl) ?_ ?_
  ·rintro j x D2 vs o o' H5 H6 hj hD2 e5 hv2 hvl2 rfl e6 ⟨t,v,w',rfl,hx1,hx2,ht⟩
   have hjk:j<k:=by
    rw[ya,ya,zO,zO]at hj;omega
   rw[yh,zbf hjk]at hx1 hx2
   cases hx1
   cases hx2
   obtain⟨f0,f1⟩:=hf j hjk
   obtain⟨g0,g1⟩:=hW j hjk
   have ht':H6 t=some (.tup [.int (f j),.int (F i j)]):=ht
   have sf:sz (f j)<=200:=sz200 (by omega) (by omega)
   have sg:sz (F i j)<=200:=sz200 (by omega) (by omega)
   walk_at "x"
   rename_i H8 b8 h8
   refine⟨⟨_,_,rfl⟩,by walk_at "h",_,h8,by rw[yl];exact yc hvl2,?_⟩
   dsimp only
   rw[zaF,yx];rfl
  ·rintro D2 H5 vs fD2 e5 hv2 hvl2 rfl
   rw[ya,ya,zO,zO,Nat.min_self]at hv2
   walk_at "x"
   rename_i H6 b6 h6
   refine⟨⟨_,rfl⟩,by walk_at "h",_,h6,by rw[yl];exact yc hvl,?_⟩
   dsimp only
   rw[zaF,yx];rfl
 ·rintro D H3 vs hD e3 hv hvl rfl
  rw[ya]at hv
  exact q _ _ hD e3 hv
theorem zhF(T:Txt K mg):FnOk P w K mg base (CXF P w) 1 T.d_divisor.a T.d_divisor.fd ["one", "other"] zkQ:=by
 refine T.d_divisor.F.okN sc_divisor (fun vs H Q E h=>?_) (fun cdv A outer s H vs Q E hr h=>?_)
 ·obtain⟨a,b,rfl,_⟩:=h;rfl
 obtain⟨a,b,rfl,q⟩:=h
 refine⟨_,(zd (zB (i:=2) sc_divisor.nd rfl (Or.inl rfl) (zt zfz rfl T.z_abs BT.abs (za (pv 0) zb)))
 (zd (zB (i:=3) sc_divisor.nd rfl (Or.inl rfl) (zt zfz rfl T.z_abs BT.abs (za (pv 1) zb)))
 (zd (zgf PassesOwn.never (zo (show OpR _ (compareOp .NotEq) (zb6 K)from zcs hr.units) (pv 3) zc (nomark _))
 (zd (zB (i:=4) sc_divisor.nd rfl (Or.inl rfl) (zr zbY (pv 2) (pv 3)))
 (zd (zB (i:=2) sc_divisor.nd rfl (Or.inl rfl) (pv 3))
 (zf (zB (i:=3) sc_divisor.nd rfl (Or.inl rfl) (pv 4))))))
 (zf (zH (pv 2)))))),?_⟩
 refine zF (σ0:=[some (.int a),some (.int b),none,none,none]) rfl ?_
 walk_at "x"
 refine⟨fun m σ H'=>∃k r f,σ=[some (.int a),some (.int b),some (.int k),some (.int r),f]/\H'=H/\0<=k/\0<=r/\My.gc k r=My.gc a b/\m=r.toNat,⟨_,_,_,_,rfl,rfl,zjs a,zjs b,My.gc_abs a b,rfl⟩,?_⟩
 rintro m σ H' ⟨k,r,f,rfl,rfl,hk,hr0,hg,rfl⟩
 walk_at "x"
 ·rename_i hne
  refine⟨fun σ' H''=>σ'=[some (.int a),some (.int b),some (.int r),some (.int (k%r)),some (.int (k%r))]/\H''=H',?_,?_⟩
  ·rintro σ' H'' ⟨rfl,rfl⟩
   have h1:=yR k (b:=r) (by omega)
   have h2:=yL k (b:=r) (by omega)
   exact⟨_,by omega,_,_,_,rfl,rfl,hr0,h1,by rw[My.gc_step];exact hg,rfl⟩
  ·walk_at "x"
   exact⟨rfl,rfl⟩
 ·rename_i he
  rw[he,My.gc_zero_right hk]at hg
  rw[hg];exact q
def zhf(C:Addr):Sp:=fun vs H Q E=>∃t b:Int,vs=[.int t,.int b]/\sz b<=8999/\((b=0/\E (.ref C) none H)\/(b≠0/\NewQ H Q (Rat.divInt t b)))
theorem zi9{C:Addr}{t b:Int}{H:Hp}{Q:VK}{E:XK}(hb:b≠0)(hs:sz b<=8999)(q:NewQ H Q (Rat.divInt t b)):zhf C [.int t,.int b] H Q E:=⟨t,b,rfl,hs,.inr ⟨hb,q⟩⟩
theorem zlg(T:Txt K mg):FnOk P w K mg base (CXF P w) 2 T.d_part.a T.d_part.fd ["top", "bottom"] (zhf T.c_NoPart):=by
 refine T.d_part.F.okX sc_part (fun vs H Q E h=>?_) (fun cdv A outer s H vs Q E hr h=>?_)
 ·obtain⟨t,b,rfl,_⟩:=h;rfl
 obtain⟨t,b,rfl,hs,k⟩:=h
 refine⟨_,(zd (zI (zo (show OpR _ (compareOp .Eq) (z3 K)from zV hr.units) (pv 1) zc (nomark _))
 (zf (z4 rfl rfl T.m_NoPart (errOk.own T.e_NoPart) (za zA zb) zaA))
 zu)
 (zd (zB (i:=2) sc_part.nd rfl (Or.inl rfl) (zp (zhF (base:=base) T) (hr.mono (by decide)) rfl T.d_divisor.m T.d_divisor.F.kp T.d_divisor.b .nil (zy zw) (za (pv 0) (za (pv 1) zb))))
 (zaS (zI (zo zaL (pv 1) zc (nomark _))
 (zf (zB (i:=2) sc_part.nd rfl (Or.inl rfl) (zdj zcR (pv 2))))
 zu)
 (zf (zH (zad (za (zr zdV (pv 0) (pv 2)) (za (zr zdV (pv 1) (pv 2)) zb)))))))),?_⟩
 refine zF (σ0:=[some (.int t),some (.int b),none]) rfl ?_
 walk_at "x"
 ·rename_i h0
  rcases k with⟨_,k⟩ | ⟨h1,_⟩
  ·exact⟨by decide,k⟩
  ·exact absurd h0 h1
 ·rename_i h0
  rcases k with⟨h1,_⟩ | ⟨_,k⟩
  ·exact absurd h1 h0
  have hg:0<My.gc t b:=My.gc_pos_right h0
  have hz:sz (My.gc t b)<=9000:=yb (zgW h0 hs) (by decide)
  refine zi7 2 (fun v H'=>H'=H/\((b<0/\v=.int (-My.gc t b))\/(0<b/\v=.int (My.gc t b)))) ?_ ?_
  ·walk_at "x"
   ·rename_i h2;exact⟨_,rfl,rfl,.inl ⟨h2,rfl⟩⟩
   ·rename_i h2;exact⟨_,rfl,rfl,.inr ⟨by omega,rfl⟩⟩
  rintro v H' ⟨rfl,h2⟩
  rcases h2 with⟨hn,rfl⟩ | ⟨hp,rfl⟩
  ·have zn:sz (-My.gc t b)<=9000:=yb (zmF _) hz
   walk_at "x"
   refine ziI (by omega) zn ?_
   walk_at "x"
   refine ziI (by omega) zn ?_
   walk_at "x"
   exact NewQ.mk k (My.part_neg hn)
  ·walk_at "x"
   exact NewQ.mk k (My.part_pos hp)
theorem zjX(T:Txt K mg):FnOk P w K mg base (CXF P w) 1 T.d_under.a T.d_under.fd ["one", "other"] (zfb 60000):=by
 refine T.d_under.F.okN zj6 (fun vs H Q E h=>?_) (fun cdv A outer s H vs Q E hr h=>?_)
 ·obtain⟨a,b,q,r,rfl,_⟩:=h;rfl
 obtain⟨a,b,q,r,rfl,h1,h2,s1,s2,k⟩:=h
 refine⟨_,(zf (zH (zbZ zaL (zr zaO (zj (show IxR _ (rIx K)from zh) (pv 0) zc (fun _ _=>rfl)) (zj (show IxR _ (rIx K)from zh) (pv 1) zc (fun _ _=>rfl))) (zr zaO (zj (show IxR _ (rIx K)from zh) (pv 1) zc (fun _ _=>rfl)) (zj (show IxR _ (rIx K)from zh) (pv 0) zc (fun _ _=>rfl))) (nomark _)))),?_⟩
 refine zF (σ0:=[some (.ref a),some (.ref b)]) rfl ?_
 have e:decide (q<r)=decide (q.num*(r.den:Int)<r.num*(q.den:Int)):=decide_eq_decide.mpr (Rat.lt_iff q r)
 rw[e]at k
 walk_at "x"
 refine zik (CMulS.of s1.1 s2.2 (by decide)) ?_
 walk_at "x"
 refine zik (CMulS.of s2.1 s1.2 (by decide)) ?_
 walk_at "x"
 exact k
theorem zfI(T:Txt K mg):FnOk P w K mg base (CXF P w) 2 T.d_worst_days.a T.d_worst_days.fd ["position", "moves", "k"] (zfd K lP lQ):=by
 have tx:=TabX.ex (K:=K) (mg:=mg) (base:=base) (x := "worst_days") T.cw_worst_days T.tw_worst_days T.tb_worst_days
 have eT:zel K "worst_days" = T.tw_worst_days:=by unfold zel;rw[T.tb_worst_days]
 refine T.d_worst_days.F.okC T.cc_worst_days sc_worst_days (fun vs H Q E h=>?_) (fun A outer s H vs Q E hr h=>?_)
 ·obtain⟨p,l,as,k,f,F,m,n,rfl,_⟩:=h;rfl
 obtain⟨p,l,as,k,f,F,m,n,rfl,hp,hl,hR,hf,hF,hm,hk,h1,h64,n0,hT,kk⟩:=h
 have al:as.length<=1000:=by omega
 refine⟨_,(zd (zB (i:=3) sc_worst_days.nd rfl (Or.inr rfl) (zp (zdK (base:=base) T) (hr.mono (by decide)) rfl T.d_losses_of.m T.d_losses_of.F.kp T.d_losses_of.b .nil (zy zw) (za (pv 0) (za (pv 1) zb))))
 (zf (zH (zbU (show SlR _ (zcU K)from zcD) (show PE _ _ (tSK _ _ _ _ _ _)from zhG (k:=0) (j:=3) (x := "day") (y := "losses") (by rfl) T.z_sorted BT.sorted (za (zcj (show CallR _ _ zeH from zg1) rfl T.z_range BT.range (za (zt (show CallR _ _ (zam K)from zN) rfl T.z_len BT.len (za (pv 3) zb)) zb)) zb) rfl tx.1 tx.2 rfl rfl (hr.mono (by decide)) (fun _ _ _ _ _ _=>(zad (za (zdj zcR (zj (show IxR _ (rIx K)from zh) (pv 1) (pv 0) (fun _ _=>rfl))) (za (pv 0) zb))))) zck (zci (pv 2)))))),?_⟩
 refine zF (σ0:=[some (.ref p),some (.ref l),some (.int n),none]) rfl ?_
 walk_at "x"
 rename_i lo H1 flo e1 hlo
 have hTb:TbW K "worst_days" lP lQ H1:=TbW.same e1 hT
 have hTb':Tb H1 T.tw_worst_days lP lQ:=by rw[<- eT];exact hTb
 have hlen:((vec as.length fun i=>zaq k f (F i)).map V.int).length=as.length:=by rw[ya,zO]
 refine zn6 (zov (zos ?_))
 walk_at "x"
 rename_i r H2' fr e2 hr2
 rw[hlen]at hr2
 refine zP ?_
 refine⟨Tb.same hTb' e2,r,as.length,.ref lo,fun i=>-zaq k f (F i),rfl,hr2,h1,h64,rfl,fun i H2 hi st=>?_,fun l q H3 hl3 st hTb3 hp3 hs hq=>?_⟩
 ·have hlo2:H2 lo=some (.lst ((vec as.length fun i=>zaq k f (F i)).map V.int)):=st.at (e2.at hlo)
  have hat:atI ((vec as.length fun i=>zaq k f (F i)).map V.int) (i:Int)=some (.int (zaq k f (F i))):=zcA (by rw[yh,zbf hi];rfl)
  walk_at "x"
  refine zan (by first | decide | simp) fun t H4 ft e4 ht=>?_
  exact⟨t,rfl,e4,ht⟩
 ·have hq':H3 l=some (.lst ((zcK q).map V.int)):=by rw[hq];unfold zcK;rw[List.map_map];rfl
  have hql:(zcK q).length=as.length:=by rw[zeu];exact hp3.length_eq.trans y6
  have en:n=((n.toNat:Nat):Int):=by omega
  walk_at "x"
  rename_i sl H4 fsl e4 hsl
  rw[en,zfr,ziN]at hsl
  exact kk sl H4 q (Same.none (Same.none (st.none fsl) e2) e1) ((e1.trans e2).t.trans (st.trans e4.t)) (TbW.same e4 (by unfold TbW;rw[eT];exact hTb3)) ⟨hp3,hs⟩ hsl
theorem zdq(T:Txt K mg):FnOk P w K mg base (CXF P w) 1 T.d_check_rule.a T.d_check_rule.fd ["rule", "moves"] (zgh K T.c_NoRule):=by
 refine T.d_check_rule.F.okX zfG (fun vs H Q E h=>?_) (fun cdv A outer s H vs Q E hr h=>?_)
 ·obtain⟨ru,l,w,c,xs,rfl,_⟩:=h;rfl
 obtain⟨ru,l,w,c,xs,rfl,h1,h2,q1,q2⟩:=h
 refine⟨_,(zd (zI (zo (show OpR _ (compareOp .NotIn) (rIn K true)from zdt) (zj (show IxR _ (rIx K)from zh) (pv 0) zc (fun _ _=>rfl)) (zad (za zA (za zA zb))) (by with_unfolding_all rfl))
 (zf (z4 rfl rfl T.m_NoRule (errOk.own T.e_NoRule) (za zA zb) zaA))
 zu)
 (zf (zI (PW.pt (zap (zo zaL (zj (show IxR _ (rIx K)from zh) (pv 0) zc (fun _ _=>rfl)) zc (nomark _)) (zaj (zo zb9 (zj (show IxR _ (rIx K)from zh) (pv 0) zc (fun _ _=>rfl)) (zt (show CallR _ _ (zam K)from zN) rfl T.z_len BT.len (za (pv 1) zb)) (nomark _)))))
 (zf (z4 rfl rfl T.m_NoRule (errOk.own T.e_NoRule) (za zA zb) zaA))
 zu))),?_⟩
 refine zF (σ0:=[some (.ref ru),some (.ref l)]) rfl ?_
 walk_at "x"
 refine zan (by first | decide | simp) fun t H1 ft e1 ht=>?_
 refine zgS (ws:=["worst", "mean"]) (SqT.of ht) ?_
 have hru1:=e1.at h1
 have hl1:=e1.at h2
 have hin:w∈(["worst", "mean"]:List Str)↔(w = "worst" \/ w = "mean"):=by
  rw[yf,yu]
 by_cases hw:w∈(["worst", "mean"]:List Str)
 ·rw[decide_eq_true hw]
  walk_at "x"
  ·rename_i hc
   exact⟨by decide,q2 (fun z=>by have:=z.2.1;omega) _ e1⟩
  ·rename_i hc hc2
   exact⟨by decide,q2 (fun z=>by have:=z.2.2;omega) _ e1⟩
  ·rename_i hc hc2
   exact q1 ⟨hin.mp hw,by omega,by omega⟩ _ e1
 ·rw[decide_eq_false hw]
  walk_at "x"
  exact⟨by decide,q2 (fun z=>hw (hin.mpr z.1)) _ e1⟩
theorem zfg(T:Txt K mg):FnOk P w K mg base (CXF P w) 1 T.d_check_order.a T.d_check_order.fd ["order"] (zir K T.c_NoLayer):=by
 refine T.d_check_order.F.okX sc_check_order (fun vs H Q E h=>?_) (fun cdv A outer s H vs Q E hr h=>?_)
 ·obtain⟨o,ws,rfl,_⟩:=h;rfl
 obtain⟨o,ws,rfl,hS,hl,k⟩:=h
 have qW:=T.q_WORDS
 refine⟨_,(zf (zbw PassesOwn.leaving rfl (show PI _ _ _ (zk4 K _)from zln rfl T.z_enumerate (za (pv 0) zb)) (show PG _ _ (zgi K 2 _)from zjh (n:=2) rfl (zdo (zay (i:=1) sc_check_order.nd rfl (Or.inl rfl)) (zdo (zay (i:=2) sc_check_order.nd rfl (Or.inl rfl)) zhh)))
 (zf (zI (PW.pt (zap (zo (show OpR _ (compareOp .NotIn) (rIn K true)from zdt) (pv 2) (z5 (v:=.ref T.a_WORDS) rfl T.g_WORDS rfl) (by with_unfolding_all rfl)) (zaj (zo (show OpR _ (compareOp .In) (rIn K false)from ziM) (pv 2) (zbU (show SlR _ (zcU K)from zcD) (pv 0) zck (zci (pv 1))) (by with_unfolding_all rfl)))))
 (zf (z4 rfl rfl T.m_NoLayer (errOk.own T.e_NoLayer) (za zA zb) zaA))
 zu)))),?_⟩
 refine zF (σ0:=[some (.ref o),none,none]) rfl ?_
 walk_at "x"
 refine zgk (zka (K:=K) (a:=o) (xs:=ws.map V.str)) (fun i σ' H'=>∃f1 f2:Option V,σ'=[some (.ref o),f1,f2]/\Same H H'/\OkO (ws.take i)) ⟨_,_,rfl,Same.refl _,by rw[List.take_zero];exact⟨(fun _ z=>nomatch z),yP⟩⟩ ?_ ?_ ?_
 ·rintro i σ' H' ⟨_,_,_,e,_⟩;exact e.seq hS
 ·rintro i y σ' H3 H4 hi ⟨f1,f2,rfl,e3,hO⟩ e4 ⟨t,v,rfl,hv,ht⟩
  obtain⟨w,hwi,rfl⟩:=zlZ hv
  have e04:Same H H4:=e3.trans e4
  have hS4:=e04.seq hS
  have ht':H4 t=some (.tup [.int (i:Int),.str w]):=ht
  have bad:¬(w∈words5/\w∉ws.take i)->¬OkO ws:=fun z hv=>z ⟨hv.1 w (yq hwi),zjN hv.2 hwi⟩
  walk_at "x"
  refine zgS (ws:=words5) (qW _) ?_
  by_cases h5:w∈words5
  ·rw[decide_eq_true h5]
   walk_at "x"
   rename_i sl H5 fsl e5 hsl
   rw[zgl,<- List.map_take]at hsl
   refine zmp (ws:=ws.take i) (SqL.of hsl) ?_
   by_cases hm:w∈ws.take i
   ·rw[decide_eq_true hm]
    walk_at "x"
    rcases k with⟨hv,_⟩ | ⟨_,k⟩
    ·exact absurd hv (bad fun z=>z.2 hm)
    ·exact⟨by decide,k _ (e04.trans e5)⟩
   ·rw[decide_eq_false hm]
    walk_at "x"
    refine⟨_,_,rfl,e04.trans e5,?_⟩
    rw[List.take_succ,hwi]
    exact zkq hO h5 hm
  ·rw[decide_eq_false h5]
   walk_at "x"
   rcases k with⟨hv,_⟩ | ⟨_,k⟩
   ·exact absurd hv (bad fun z=>h5 z.1)
   ·exact⟨by decide,k _ e04⟩
 ·rintro σ' H1 ⟨f1,f2,rfl,e1,hO⟩
  rw[ya,yaw]at hO
  walk_at "x"
  rcases k with⟨_,k⟩ | ⟨hv,_⟩
  ·exact k _ e1
  ·exact absurd hO hv
theorem zc3(T:Txt K mg):FnOk P w K mg base (CXF P w) 1 T.d_check_enough.a T.d_check_enough.fd ["coins", "wanted"] (zko T.c_Poor):=by
 refine T.d_check_enough.F.okX ze0 (fun vs H Q E h=>?_) (fun cdv A outer s H vs Q E hr h=>?_)
 ·obtain⟨x,y,rfl,_⟩:=h;rfl
 obtain⟨x,y,rfl,q0,q1⟩:=h
 refine⟨_,(zf (zI (zo zaL (pv 0) (pv 1) (nomark _))
 (zf (z4 rfl rfl T.m_Poor (errOk.own T.e_Poor) (za zA zb) zaA))
 zu)),?_⟩
 refine zF (σ0:=[some (.int x),some (.int y)]) rfl ?_
 walk_at "x"
 ·rename_i h;exact⟨by decide,q1 h⟩
 ·rename_i h;exact q0 (by omega)
theorem zcd(T:Txt K mg):FnOk P w K mg base (CXF P w) 2 T.d_check_covered.a T.d_check_covered.fd ["pledge", "need"] (zjq T.c_Bare):=by
 refine T.d_check_covered.F.okX zef (fun vs H Q E h=>?_) (fun cdv A outer s H vs Q E hr h=>?_)
 ·obtain⟨x,r,q,rfl,_⟩:=h;rfl
 obtain⟨x,r,q,rfl,hq,zq,zx,q0,q1⟩:=h
 refine⟨_,(zf (zI (show PT _ _ (zbN K _)from zZ (zp (zjX (base:=base) T) (hr.mono (by decide)) rfl T.d_under.m T.d_under.F.kp T.d_under.b .nil (zy zw) (za (zad (za (pv 0) (za zc zb))) (za (pv 1) zb))) (fun _=>rfl))
 (zf (z4 rfl rfl T.m_Bare (errOk.own T.e_Bare) (za zA zb) zaA))
 zu)),?_⟩
 refine zF (σ0:=[some (.int x),some (.ref r)]) rfl ?_
 walk_at "x"
 refine zgw (q:=((x:Int):Rat)) ⟨rfl,rfl⟩ ?_
 intro t H1 e1 ht
 have hz:SzQ ((x:Int):Rat) 60000 60000:=⟨zx,zb3 (by show(1:Int).natAbs<_;exact yp (by decide:(1:Int).natAbs<2 ^ 1) (Nat.pow_le_pow_right (by decide) (by decide)))⟩
 walk_at "x"
 ·rename_i h;exact⟨by decide,q1 h _ e1⟩
 ·rename_i h;exact q0 h _ e1
theorem zeg(T:Txt K mg):FnOk P w K mg base (CXF P w) 1 T.d_Book___init__.a T.d_Book___init__.fd ["self", "many", "wares"] (zlN T.c_Book):=by
 refine T.d_Book___init__.F.okN zei (fun vs H Q E h=>?_) (fun cdv A outer s H vs Q E hr h=>?_)
 ·obtain⟨p,dx,m,w,rfl,_⟩:=h;rfl
 obtain⟨p,dx,m,w,rfl,hp,k⟩:=h
 refine⟨_,(zd (show PS _ _ (zb4 K _ _ _)from zbv (pv 0) (pv 1) rfl)
 (zd (show PS _ _ (zb4 K _ _ _)from zbv (pv 0) (pv 2) rfl)
 (zd (show PS _ _ (zb4 K _ _ _)from zbv (pv 0) zc rfl)
 (zf (show PS _ _ (zb4 K _ _ _)from zbv (pv 0) (zax zb) rfl))))),?_⟩
 refine zF (σ0:=[some (.ref p),some (.int m),some (.int w)]) rfl ?_
 walk_at "x"
 refine za1 hp T.cl_Book T.na_Book_many (by show 0<1000;decide) fun H1 b1 h1=>?_
 walk_at "x"
 refine za1 h1 T.cl_Book T.na_Book_wares (by show 1<1000;decide) fun H2 b2 h2=>?_
 walk_at "x"
 refine za1 h2 T.cl_Book T.na_Book_day (yD (zm _ _ _) (by show 2<1000;decide)) fun H3 b3 h3=>?_
 walk_at "x"
 rename_i d H4 fd e4 hd
 refine za1 (e4.at h3) T.cl_Book T.na_Book_deals (yD (zm _ _ _) (yD (Nat.add_le_add_right (zm _ _ _) 1) (by show 3<1000;decide))) fun H5 b5 h5=>?_
 have npd:d≠p:=zcy fd h3
 refine k d H5 ?_ (fun b o n q=>b5.at (e4.at (b3.at (b2.at (b1.at q n) n) n)) n) h5 (b5.at hd npd)
 have f3:H2 d=none:=by rw[<- b3 d npd];exact fd
 have f2:H1 d=none:=by rw[<- b2 d npd];exact f3
 rw[<- b1 d npd];exact f2
theorem zce(T:Txt K mg):FnOk P w K mg base (CXF P w) 1 T.d_Book_position.a T.d_Book_position.fd ["self", "member"] (zhV T.c_Book):=by
 refine T.d_Book_position.F.okN sc_Book_position (fun vs H Q E h=>?_) (fun cdv A outer s H vs Q E hr h=>?_)
 ·obtain⟨b,d,m,y,n,w,ts,rfl,_⟩:=h;rfl
 obtain⟨b,d,m,y,n,w,ts,rfl,hB,hw,w1,k⟩:=h
 obtain⟨⟨dx,hb⟩,xs,hd,hI⟩:=id hB
 have cl_Book:=T.cl_Book
 have na_Book_deals:=T.na_Book_deals
 have na_Book_wares:=T.na_Book_wares
 refine⟨_,(zd (zB (i:=2) sc_Book_position.nd rfl (Or.inl rfl) (zr zaO (zax (za zc zb)) (show PE _ _ (z9 K _ _)from zT (pv 0) rfl)))
 (zd (zbw PassesOwn.never rfl (show PI _ _ _ (zbc K _)from zaz (show PE _ _ (z9 K _ _)from zT (pv 0) rfl)) (zay (i:=3) sc_Book_position.nd rfl (Or.inl rfl))
 (zf (zI (PW.pt (zf8 (zo (show OpR _ (compareOp .Eq) (z3 K)from zV hr.units) (zj (show IxR _ (rIx K)from zh) (pv 3) (z5 (v:=.int 7) rfl T.g_STATE ⟨_,rfl⟩) (fun _ _=>rfl)) zA (nomark _)) (zfk (zo (show OpR _ (compareOp .Eq) (z3 K)from zV hr.units) (zj (show IxR _ (rIx K)from zh) (pv 3) (z5 (v:=.int 0) rfl T.g_PAYER ⟨_,rfl⟩) (fun _ _=>rfl)) (pv 1) (nomark _)))))
 (zf (zch (pv 2) (zj (show IxR _ (rIx K)from zh) (pv 3) (z5 (v:=.int 2) rfl T.g_WARE ⟨_,rfl⟩) (fun _ _=>rfl)) (show zc8 _ (zcn K)from zbL) (zj (show IxR _ (rIx K)from zh) (pv 3) (z5 (v:=.int 3) rfl T.g_UNITS ⟨_,rfl⟩) (fun _ _=>rfl)) zdz zY))
 (zf (zI (PW.pt (zf8 (zo (show OpR _ (compareOp .Eq) (z3 K)from zV hr.units) (zj (show IxR _ (rIx K)from zh) (pv 3) (z5 (v:=.int 7) rfl T.g_STATE ⟨_,rfl⟩) (fun _ _=>rfl)) zA (nomark _)) (zfk (zo (show OpR _ (compareOp .Eq) (z3 K)from zV hr.units) (zj (show IxR _ (rIx K)from zh) (pv 3) (z5 (v:=.int 1) rfl T.g_PAYEE ⟨_,rfl⟩) (fun _ _=>rfl)) (pv 1) (nomark _)))))
 (zf (zch (pv 2) (zj (show IxR _ (rIx K)from zh) (pv 3) (z5 (v:=.int 2) rfl T.g_WARE ⟨_,rfl⟩) (fun _ _=>rfl)) (show zc8 _ (zcn K)from zbL) (zj (show IxR _ (rIx K)from zh) (pv 3) (z5 (v:=.int 3) rfl T.g_UNITS ⟨_,rfl⟩) (fun _ _=>rfl)) zf5 zY))
 zu)))))
 (zf (zH (pv 2))))),?_⟩
 refine zF (σ0:=[some (.ref b),some (.int n),none,none]) rfl ?_
 walk_at "x"
 rename_i z0 H1 fz0 e1 hz0 ma H2 fma e2 hma
 rw[yy]at hma
 have fmaH:H ma=none:=Same.none fma e1
 refine zdP (xs:=xs) (fun i σ' H'=>∃f3:Option V,σ'=[some (.ref b),some (.int n),some (.ref ma),f3]/\Same H H'/\H' ma=some (.lst ((vec w (zaf (ts.take i) n)).map V.int))) ⟨_,rfl,e1.trans e2,hma⟩ ?_ ?_ ?_
 ·rintro i σ' H' _ ⟨_,_,e,_⟩;exact SqL.of (e.at hd)
 ·rintro i x σ' H3 hx ⟨f3,rfl,e3,hma3⟩
  obtain⟨a,u,rfl,hu,ha⟩:=(hI.same e3).get hx
  have ha3:H3 a=some (.tup [.int u.1.p,.int u.1.q,.int u.1.w,.int u.1.u,.int u.1.a,.int u.1.y,.int u.1.r,.str u.2]):=ha
  obtain⟨uw0,uw1⟩:=hw u (yq hu)
  have hpt:=zdu hu n
  have same:zaf (ts.take (i+1)) n=zaf (ts.take i) n->H3 ma=some (.lst ((vec w (zaf (ts.take (i+1)) n)).map V.int)):=fun e=>by rw[e];exact hma3
  walk_at "x"
  ·rename_i h1 h2 H4 b4 h4
   refine⟨_,rfl,b4.same e3 fmaH,?_⟩
   rw[h4]
   congr 3
   refine zaI fun j hj=>?_
   rw[hpt]
   unfold zaV
   by_cases hj2:u.1.w=(j:Int)
   ·have hje:u.1.w.toNat=j:=by omega
    rw[hje,if_pos rfl,if_pos ⟨h1,hj2⟩,if_pos h2]
   ·rw[if_neg (show ¬j=u.1.w.toNat by omega),if_neg (fun z=>hj2 z.2)];omega
  ·rename_i h1 h2 h3 H4 b4 h4
   refine⟨_,rfl,b4.same e3 fmaH,?_⟩
   rw[h4]
   congr 3
   refine zaI fun j hj=>?_
   rw[hpt]
   unfold zaV
   by_cases hj2:u.1.w=(j:Int)
   ·have hje:u.1.w.toNat=j:=by omega
    rw[hje,if_pos rfl,if_pos ⟨h1,hj2⟩,if_neg h2,if_pos h3];omega
   ·rw[if_neg (show ¬j=u.1.w.toNat by omega),if_neg (fun z=>hj2 z.2)];omega
  ·rename_i h1 h2 h3
   refine⟨_,rfl,e3,same (funext fun j=>?_)⟩
   rw[hpt]
   unfold zaV
   rw[if_neg h2,if_neg h3]
   split<;>omega
  ·rename_i h1
   refine⟨_,rfl,e3,same (funext fun j=>?_)⟩
   rw[hpt]
   unfold zaV
   rw[if_neg fun z=>h1 z.1]
   omega
 ·rintro σ' H3 ⟨f3,rfl,e3,hma3⟩
  rw[hI.length,yaw]at hma3
  walk_at "x"
  exact k ma H3 fmaH e3 hma3
theorem zey(T:Txt K mg):FnOk P w K mg base (CXF P w) 3 T.d_need_of.a T.d_need_of.fd ["rule", "position", "moves"] (ziC K T.c_NoRule lP lQ):=by
 refine T.d_need_of.F.okX sc_need_of (fun vs H Q E h=>?_) (fun cdv A outer s H vs Q E hr h=>?_)
 ·obtain⟨ru,p,l,w,c,as,k,f,F,m,rfl,_⟩:=h;rfl
 obtain⟨ru,p,l,w,c,as,k,f,F,m,rfl,hru,⟨hp,hl,hR,w1,w2,hm,hk,n1,n2,hT⟩,q1,q2⟩:=h
 have hml:(as.map V.ref).length=as.length:=ya ..
 refine⟨_,(zd (zR (zp (zdq (base:=base) T) (hr.mono (by decide)) rfl T.d_check_rule.m T.d_check_rule.F.kp T.d_check_rule.b .nil zX (za (pv 0) (za (pv 2) zb))))
 (zd (zB (i:=3) sc_need_of.nd rfl (Or.inr rfl) (zp (zdK (base:=base) T) (hr.mono (by decide)) rfl T.d_losses_of.m T.d_losses_of.F.kp T.d_losses_of.b .nil (zy zw) (za (pv 1) (za (pv 2) zb))))
 (zd (zcQ (i:=4) sc_need_of.nd rfl rfl rfl (show PI _ _ _ (zbc K _)from zaz (zp (zfI (base:=base) T) (hr.mono (by decide)) rfl T.d_worst_days.m T.d_worst_days.F.kp T.d_worst_days.b .nil (zy zw) (za (pv 1) (za (pv 2) (za (zj (show IxR _ (rIx K)from zh) (pv 0) zc (fun _ _=>rfl)) zb))))) (zS (Ni:=["day", "losses"]) (caps:=[none,some 3]) (by rfl)) (fun S _ _ _ _ _=>(z8 (gi:=0) S (Or.inl rfl) rfl)) (fun _ _ _ _ _=>zaM) (fun _ _ _ _ _=>(zj (show IxR _ (rIx K)from zh) (pv 1) (pv 0) (fun _ _=>rfl))))
 (zaS (zI (zo (show OpR _ (compareOp .Eq) (z3 K)from zV hr.units) (zj (show IxR _ (rIx K)from zh) (pv 0) zc (fun _ _=>rfl)) zA (nomark _))
 (zf (zB (i:=5) sc_need_of.nd rfl (Or.inl rfl) (zad (za (zj (show IxR _ (rIx K)from zh) (pv 4) (zdj zcR zc) (fun _ _=>rfl)) (za zc zb)))))
 (zf (zB (i:=5) sc_need_of.nd rfl (Or.inl rfl) (zp (zlg (base:=base) T) (hr.mono (by decide)) rfl T.d_part.m T.d_part.F.kp T.d_part.b .nil zX (za (zt (show CallR _ _ (zes K)from zc0 rfl) rfl T.z_sum BT.sum (za (pv 4) zb)) (za (zt (show CallR _ _ (zam K)from zN) rfl T.z_len BT.len (za (pv 4) zb)) zb))))))
 (zf (zH (zkH (zo zb9 (zj (show IxR _ (rIx K)from zh) (pv 5) zc (fun _ _=>rfl)) zc (nomark _)) (pv 5) (zad (za zc (za zc zb)))))))))),?_⟩
 refine zF (σ0:=[some (.ref ru),some (.ref p),some (.ref l),none,none,none]) rfl ?_
 walk_at "x"
 refine zeI hru hl (fun ok H1 e1=>?_) (fun nok H1 e1=>q2 (by rw[hml]at nok;exact nok) H1 e1)
 rw[hml]at ok
 obtain⟨hw,c0,c1⟩:=ok
 have hru1:=e1.at hru
 have hp1:=e1.at hp
 have hl1:=e1.at hl
 have hR1:=hR.same e1
 have hT1:TbW K "worst_days" lP lQ H1:=TbW.same e1 hT
 walk_at "x"
 rename_i lo H2 flo e2 hlo wd H3 q fwd st3 hT3 hL hwd
 obtain⟨L,hLe⟩:∃L:Nat->Int,L=fun i=>zaq k f (F i):=⟨_,rfl⟩
 rw[<- hLe]at hL q1
 have hvL:(vec as.length fun i=>zaq k f (F i))=vec as.length L:=by rw[hLe]
 rw[hvL]at hlo
 have hn64:as.length<=64:=by omega
 have htl:(q.take c.toNat).length=c.toNat:=by rw[yU,hL.len];omega
 have hlo3:H3 lo=some (.lst ((vec as.length L).map V.int)):=st3.lst hlo
 have hru3:H3 ru=some (.tup [.str w,.int c]):=st3.tup (e2.at hru1)
 have st03:SameT H H3:=(e1.trans e2).t.trans st3
 refine zaw (zbn (K:=K) (a:=wd) (xs:=(zcK (q.take c.toNat)).map V.int)) (fun H' e=>SqL.of (e.at hwd)) rfl (fun i vs _=>vs=(vec i fun i=>L (q.getD i 0)).map V.int) (fun H' _=>rfl) ?_ ?_
 ·rintro i x D vs o H4 H5 hi hD e4 hv hvl rfl e5 hx
  rw[ya,zeu,htl]at hi
  have ex:x=.int ((q.getD i 0:Nat):Int):=by
   rw[yh,zlJ (by omega),yi,List.getElem?_take,if_pos hi,<- yi]at hx
   exact(yo hx).symm
  subst ex
  have hq:=hL.getLt (by omega) i
  have hlo5:=(e4.trans e5).at hlo3
  have hat:atI ((vec as.length L).map V.int) ((q.getD i 0:Nat):Int)=some (.int (L (q.getD i 0))):=zcA (by rw[yh,zbf hq];rfl)
  walk_at "x"
  rename_i H6 b6 h6
  refine⟨⟨_,rfl⟩,b6.same (e4.trans e5) hD,_,h6,by rw[yl];exact yc hvl,?_⟩
  dsimp only
  rw[zaF,yx];rfl
 rintro wl H4 vs fwl e4 hwl hvl rfl
 rw[ya,zeu,htl]at hwl
 have hru4:=e4.at hru3
 have hB:∀d,d<as.length->-9000000000000000000000000<=L d/\L d<=9000000000000000000000000:=fun d hd=>by
  have:=zeh (k:=k) (f:=f) (g:=F d) hm w1 (w2 d hd)
  have h1:(k:Int)*1000000000000000000000000<=9*1000000000000000000000000:=yK (by omega) (by decide)
  rw[hLe]
  dsimp only
  omega
 have hzr:SzQ (zcM (decide (w = "mean")) L q c.toNat) 100 10:=zmT hL (by omega) (by omega) n2 hB
 have hwm:("worst" : Str) ≠ "mean" := by decide
 have hat:atI ((vec c.toNat fun i=>L (q.getD i 0)).map V.int) (-1)=some (.int (L (q.getD (c.toNat-1) 0))):=by
  obtain⟨c',hc'⟩:∃c',c.toNat=c'+1:=⟨c.toNat-1,by omega⟩
  rw[hc',zaF,yx]
  exact zkp _ _
 have hcl:((vec c.toNat fun i=>L (q.getD i 0)).map V.int).length=c.toNat:=by rw[ya,zO]
 walk_at "x"
 refine zi7 5 (fun v H'=>∃r:Addr,v=.ref r/\Same H4 H'/\IsQ H' r (zcM (decide (w = "mean")) L q c.toNat)) ?_ ?_
 ·walk_at "x"
  ·rename_i hw1
   refine zgw (q:=((L (q.getD (c.toNat-1) 0):Int):Rat)) ⟨rfl,rfl⟩ ?_
   intro r H5 e5 hr5
   refine⟨_,rfl,r,rfl,e5,?_⟩
   unfold zcM
   rw[hw1,decide_eq_false hwm,if_neg (by decide)]
   exact hr5
  ·rename_i hw1
   have hw2:w = "mean" := hw.resolve_left hw1
   refine zi9 (by omega) (yb (zb3 (n:=10) (by omega)) (by decide)) ?_
   intro r H5 e5 hr5
   refine⟨_,rfl,r,rfl,e5,?_⟩
   unfold zcM
   rw[hw2,decide_eq_true rfl,if_pos rfl,zdM _ _ _ (by rw[hL.len];omega)]
   rw[zeq,hcl]at hr5
   exact hr5
 rintro _ H5 ⟨r,rfl,e5,hr5⟩
 have hT5:TbW K "worst_days" lP lQ H5:=TbW.same (e4.trans e5) hT3
 have st05:SameT H H5:=st03.trans (e4.trans e5).t
 walk_at "x"
 ·rename_i hpos
  have hp0:pos0 (zcM (decide (w = "mean")) L q c.toNat)=zcM (decide (w = "mean")) L q c.toNat:=if_pos (nump.mp hpos)
  refine q1 ⟨hw,c0,c1⟩ r H5 q st05 hT5 hL ?_ (zhd hzr (by decide))
  unfold zag
  rw[hp0];exact hr5
 ·rename_i hpos
  refine zgw (q:=(0:Rat)) ⟨rfl,rfl⟩ ?_
  intro r' H6 e6 hr6
  have hp0:pos0 (zcM (decide (w = "mean")) L q c.toNat)=0:=if_neg (fun z=>hpos (nump.mpr z))
  refine q1 ⟨hw,c0,c1⟩ r' H6 q (st05.trans e6.t) (TbW.same e6 hT5) hL ?_ (zhd hzr (by decide))
  unfold zag
  rw[hp0];exact hr6
theorem zbM(T:Txt K mg):FnOk P w K mg base (CXF P w) 1 T.d_House_check_coins.a T.d_House_check_coins.fd ["self", "member", "coins"] (znr T.c_House T.c_NoMember T.c_NoTerms):=by
 refine T.d_House_check_coins.F.okX zdn (fun vs H Q E h=>?_) (fun cdv A outer s H vs Q E hr h=>?_)
 ·obtain⟨h,B,own,m,c,n,P,L,rfl,_⟩:=h;rfl
 obtain⟨h,B,own,m,c,n,P,L,rfl,hC,q0,q1,q2⟩:=h
 obtain⟨⟨dx,hh⟩,hpu,hpl,hne⟩:=id hC
 have hpl':((vec n P).map V.int).length=n:=by rw[ya,zO]
 have cl_House:=T.cl_House
 have na_House_purses:=T.na_House_purses
 refine⟨_,(zd (zI (PW.pt (zap (zo zaL (pv 1) zc (nomark _)) (zaj (zo zeT (pv 1) (zt (show CallR _ _ (zam K)from zN) rfl T.z_len BT.len (za (show PE _ _ (z9 K _ _)from zT (pv 0) rfl) zb)) (nomark _)))))
 (zf (z4 rfl rfl T.m_NoMember (errOk.own T.e_NoMember) (za zA zb) zaA))
 zu)
 (zf (zI (PW.pt (zap (zo zaL (pv 2) zc (nomark _)) (zaj (zo zb9 (pv 2) (z5 (v:=.int 1000000000) rfl T.g_MOST_COINS ⟨_,rfl⟩) (nomark _)))))
 (zf (z4 rfl rfl T.m_NoTerms (errOk.own T.e_NoTerms) (za zA zb) zaA))
 zu))),?_⟩
 refine zF (σ0:=[some (.ref h),some (.int m),some (.int c)]) rfl ?_
 walk_at "x"
 all_goals first
  | exact q0 ⟨by omega,by omega⟩ ⟨by omega,by omega⟩
  | exact⟨by decide,q1 (fun z=>by have:=z.1;have:=z.2;omega)⟩
  | exact⟨by decide,q2 ⟨by omega,by omega⟩ (fun z=>by have:=z.1;have:=z.2;omega)⟩
theorem zgT(T:Txt K mg):FnOk P w K mg base (CXF P w) 2 T.d_House_put.a T.d_House_put.fd ["self", "member", "coins"] (zna T.c_House T.c_NoMember T.c_NoTerms):=by
 refine T.d_House_put.F.okX zgR (fun vs H Q E h=>?_) (fun cdv A outer s H vs Q E hr h=>?_)
 ·obtain⟨h,B,own,m,c,n,P,L,rfl,_⟩:=h;rfl
 obtain⟨h,B,own,m,c,n,P,L,rfl,hC,q0,q1,q2⟩:=h
 obtain⟨⟨dx,hh⟩,hpu,hpl,hne⟩:=id hC
 have cl_House:=T.cl_House
 have na_House_purses:=T.na_House_purses
 refine⟨_,(zd (zR (zU (pv 0) T.cl_House T.d_House_check_coins.mt (zbM (base:=base) T) (hr.mono (by decide)) T.d_House_check_coins.b .nil zX (za (pv 1) (za (pv 2) zb))))
 (zf (zch (show PE _ _ (z9 K _ _)from zT (pv 0) rfl) (pv 1) (show zc8 _ (zcn K)from zbL) (pv 2) zdz zY))),?_⟩
 refine zF (σ0:=[some (.ref h),some (.int m),some (.int c)]) rfl ?_
 walk_at "x"
 refine⟨h,B,own,m,c,n,P,L,rfl,hC,fun hm ht=>?_,q1,q2⟩
 have ⟨m0,m1⟩:=hm
 walk_at "x"
 rename_i H1 b1 h1
 exact q0 hm ht _ b1 h1
theorem zdy(T:Txt K mg):FnOk P w K mg base (CXF P w) 2 T.d_House_lay.a T.d_House_lay.fd ["self", "member", "coins"] (ziE T.c_House T.c_NoMember T.c_NoTerms T.c_Poor):=by
 refine T.d_House_lay.F.okX zgt (fun vs H Q E h=>?_) (fun cdv A outer s H vs Q E hr h=>?_)
 ·obtain⟨h,B,own,m,c,n,P,L,rfl,_⟩:=h;rfl
 obtain⟨h,B,own,m,c,n,P,L,rfl,hC,q0,q1,q2,q3⟩:=h
 obtain⟨⟨dx,hh⟩,hpu,hpl,hne⟩:=id hC
 have cl_House:=T.cl_House
 have na_House_purses:=T.na_House_purses
 have na_House_pledges:=T.na_House_pledges
 refine⟨_,(zd (zR (zU (pv 0) T.cl_House T.d_House_check_coins.mt (zbM (base:=base) T) (hr.mono (by decide)) T.d_House_check_coins.b .nil zX (za (pv 1) (za (pv 2) zb))))
 (zd (zR (zp (zc3 (base:=base) T) (hr.mono (by decide)) rfl T.d_check_enough.m T.d_check_enough.F.kp T.d_check_enough.b .nil zX (za (zj (show IxR _ (rIx K)from zh) (show PE _ _ (z9 K _ _)from zT (pv 0) rfl) (pv 1) (fun _ _=>rfl)) (za (pv 2) zb))))
 (zd (zch (show PE _ _ (z9 K _ _)from zT (pv 0) rfl) (pv 1) (show zc8 _ (zcn K)from zbL) (pv 2) zf5 zY)
 (zf (zch (show PE _ _ (z9 K _ _)from zT (pv 0) rfl) (pv 1) (show zc8 _ (zcn K)from zbL) (pv 2) zdz zY))))),?_⟩
 refine zF (σ0:=[some (.ref h),some (.int m),some (.int c)]) rfl ?_
 walk_at "x"
 refine⟨h,B,own,m,c,n,P,L,rfl,hC,fun hm ht=>?_,q1,q2⟩
 have ⟨m0,m1⟩:=hm
 walk_at "x"
 refine⟨_,_,rfl,fun hle=>?_,fun hlt=>q3 hm ht hlt⟩
 walk_at "x"
 rename_i H1 b1 h1
 have hh1:=b1.ins hh
 have hpl1:=b1.lst hpl hne.symm
 rw[Int.sub_eq_add_neg]at h1
 walk_at "x"
 rename_i H2 b2 h2
 exact q0 hm ht hle _ _ b1 h1 b2 h2
theorem zdp(T:Txt K mg):FnOk P w K mg base (CXF P w) 4 T.d_House_need.a T.d_House_need.fd ["self", "member"] (zlk K T.c_House T.c_Book lP lQ):=by
 refine T.d_House_need.F.okX zfJ (fun vs H Q E h=>?_) (fun cdv A outer s H vs Q E hr h=>?_)
 ·obtain⟨h,dx,d,B,own,m,y,n,ts,bs,k,F,w,c,rfl,_⟩:=h;rfl
 obtain⟨h,dx,d,B,own,m,y,n,ts,bs,k,F,w,c,rfl,hh,hN,q⟩:=h
 obtain⟨⟨dxb,hbk⟩,_⟩:=id hN.bk
 have cl_House:=T.cl_House
 have na_House_rule:=T.na_House_rule
 have na_House_book:=T.na_House_book
 have na_House_moves:=T.na_House_moves
 refine⟨_,(zf (zH (zp (zey (base:=base) T) (hr.mono (by decide)) rfl T.d_need_of.m T.d_need_of.F.kp T.d_need_of.b .nil zX (za (show PE _ _ (z9 K _ _)from zT (pv 0) rfl) (za (zU (show PE _ _ (z9 K _ _)from zT (pv 0) rfl) T.cl_Book T.d_Book_position.mt (zce (base:=base) T) (hr.mono (by decide)) T.d_Book_position.b .nil (zy zw) (za (pv 1) zb)) (za (show PE _ _ (z9 K _ _)from zT (pv 0) rfl) zb)))))),?_⟩
 refine zF (σ0:=[some (.ref h),some (.int n)]) rfl ?_
 walk_at "x"
 refine⟨_,d,_,_,n,k,ts,rfl,hN.bk,hN.tok,by have:=hN.k9;omega,fun p H1 fp e1 hp=>?_⟩
 have hh1:=e1.at hh
 walk_at "x"
 have hN1:=hN.same e1
 have hb:∀j,-1000000000<=zaf ts n j/\zaf ts n j<=1000000000:=fun j=>by
  have h1:=zcP hN.tu n j
  have h2:=hN.tl
  omega
 refine zgE (m:=1000000000) hN1.ru ⟨hp,hN1.mv,hN1.rows,fun j _=>hb j,fun i hi j hj=>by have:=hN.fw i hi j hj;omega,by decide,hN.k9,by have:=hN.ok.2;omega,hN.n64,hN1.tb⟩ hN.ok fun r H2 ql s2 t2 hL hr2 hz=>?_
 exact q r H2 ql (e1.t.trans s2) t2 hL hr2 hz
theorem zfF(T:Txt K mg):FnOk P w K mg base (CXF P w) 5 T.d_House_free.a T.d_House_free.fd ["self", "member", "coins"] (zl5 K T.c_House T.c_Book lP lQ T.c_NoMember T.c_NoTerms T.c_Poor T.c_Bare):=by
 refine T.d_House_free.F.okX zfT (fun vs H Q E h=>?_) (fun cdv A outer s H vs Q E hr h=>?_)
 ·obtain⟨h,d,B,own,m,c,mm,y,n,P,L,ts,bs,k,F,w,cr,rfl,_⟩:=h;rfl
 obtain⟨h,d,B,own,m,c,mm,y,n,P,L,ts,bs,k,F,w,cr,rfl,hC,hN,hz,q0,q1,q2,q3⟩:=h
 obtain⟨⟨dx,hh⟩,hpu,hpl,hne⟩:=id hC
 have cl_House:=T.cl_House
 have na_House_purses:=T.na_House_purses
 have na_House_pledges:=T.na_House_pledges
 refine⟨_,(zd (zR (zU (pv 0) T.cl_House T.d_House_check_coins.mt (zbM (base:=base) T) (hr.mono (by decide)) T.d_House_check_coins.b .nil zX (za (pv 1) (za (pv 2) zb))))
 (zd (zR (zp (zc3 (base:=base) T) (hr.mono (by decide)) rfl T.d_check_enough.m T.d_check_enough.F.kp T.d_check_enough.b .nil zX (za (zj (show IxR _ (rIx K)from zh) (show PE _ _ (z9 K _ _)from zT (pv 0) rfl) (pv 1) (fun _ _=>rfl)) (za (pv 2) zb))))
 (zd (zR (zp (zcd (base:=base) T) (hr.mono (by decide)) rfl T.d_check_covered.m T.d_check_covered.F.kp T.d_check_covered.b .nil zX (za (zr zaX (zj (show IxR _ (rIx K)from zh) (show PE _ _ (z9 K _ _)from zT (pv 0) rfl) (pv 1) (fun _ _=>rfl)) (pv 2)) (za (zU (pv 0) T.cl_House T.d_House_need.mt (zdp (base:=base) T) (hr.mono (by decide)) T.d_House_need.b .nil zX (za (pv 1) zb)) zb))))
 (zd (zch (show PE _ _ (z9 K _ _)from zT (pv 0) rfl) (pv 1) (show zc8 _ (zcn K)from zbL) (pv 2) zf5 zY)
 (zf (zch (show PE _ _ (z9 K _ _)from zT (pv 0) rfl) (pv 1) (show zc8 _ (zcn K)from zbL) (pv 2) zdz zY)))))),?_⟩
 refine zF (σ0:=[some (.ref h),some (.int m),some (.int c)]) rfl ?_
 walk_at "x"
 refine⟨h,B,own,m,c,n,P,L,rfl,hC,fun hm ht=>?_,q1,q2⟩
 have ⟨m0,m1⟩:=hm
 walk_at "x"
 refine⟨_,_,rfl,fun hle=>?_,fun hlt=>q3 hm ht hlt⟩
 walk_at "x"
 refine⟨h,dx,d,B,own,mm,y,m,ts,bs,k,F,w,cr,rfl,hh,hN,fun r H1 q s1 t1 hL hr1 hz1=>?_⟩
 walk_at "x"
 refine⟨_,r,_,rfl,hr1,hz1.mono (by decide) (by decide),hz hm ht,fun hnl H2 e2=>?_,fun hlt H2 e2=>?_⟩
 ·obtain⟨qb,qk⟩:=q0 hm ht hle H2 q (s1.trans e2.t) (TbW.same e2 t1) hL
  have s2:SameT H H2:=s1.trans e2.t
  have hh2:=s2.ins hh
  have hpu2:=s2.lst hpu
  have hpl2:=s2.lst hpl
  walk_at "x"
  rename_i H3 b3 h3 H4 b4 h4
  rw[Int.sub_eq_add_neg]at h3
  exact qk hnl _ _ b3 h3 b4 h4
 ·exact(q0 hm ht hle H2 q (s1.trans e2.t) (TbW.same e2 t1) hL).1 hlt
theorem zeU(T:Txt K mg):FnOk P w K mg base (CXF P w) 1 T.d_House_pledge.a T.d_House_pledge.fd ["self", "member"] (zfy T.c_House):=by
 refine T.d_House_pledge.F.okN zeE (fun vs H Q E h=>?_) (fun cdv A outer s H vs Q E hr h=>?_)
 ·obtain⟨h,dx,B,own,k,n,f,rfl,_⟩:=h;rfl
 obtain⟨h,dx,B,own,k,n,f,rfl,hh,hp,k0,k1,q⟩:=h
 have cl_House:=T.cl_House
 have na_House_pledges:=T.na_House_pledges
 refine⟨_,(zf (zH (zj (show IxR _ (rIx K)from zh) (show PE _ _ (z9 K _ _)from zT (pv 0) rfl) (pv 1) (fun _ _=>rfl)))),?_⟩
 refine zF (σ0:=[some (.ref h),some (.int k)]) rfl ?_
 walk_at "x"
 exact q
theorem zd0(T:Txt K mg):FnOk P w K mg base (CXF P w) 2 T.d_House_position.a T.d_House_position.fd ["self", "member"] (zmg T.c_House T.c_Book):=by
 refine T.d_House_position.F.okN zd1 (fun vs H Q E h=>?_) (fun cdv A outer s H vs Q E hr h=>?_)
 ·obtain⟨h,dx,d,B,own,m,y,n,w,ts,rfl,_⟩:=h;rfl
 obtain⟨h,dx,d,B,own,m,y,n,w,ts,rfl,hh,hB,hw,hk,q⟩:=h
 obtain⟨⟨dxb,hbk⟩,_⟩:=id hB
 have cl_House:=T.cl_House
 have na_House_book:=T.na_House_book
 refine⟨_,(zf (zH (zU (show PE _ _ (z9 K _ _)from zT (pv 0) rfl) T.cl_Book T.d_Book_position.mt (zce (base:=base) T) (hr.mono (by decide)) T.d_Book_position.b .nil (zy zw) (za (pv 1) zb)))),?_⟩
 refine zF (σ0:=[some (.ref h),some (.int n)]) rfl ?_
 walk_at "x"
 exact⟨_,d,_,_,n,w,ts,rfl,hB,hw,hk,q⟩
theorem zcH(T:Txt K mg):FnOk P w K mg base (CXF P w) 4 T.d_House_need_with.a T.d_House_need_with.fd ["self", "member", "ware", "units"] (zlx K T.c_House T.c_Book lP lQ):=by
 refine T.d_House_need_with.F.okX sc_House_need_with (fun vs H Q E h=>?_) (fun cdv A outer s H vs Q E hr h=>?_)
 ·obtain⟨h,dx,d,B,own,m,y,n,wa,u,ts,bs,k,F,w,c,rfl,_⟩:=h;rfl
 obtain⟨h,dx,d,B,own,m,y,n,wa,u,ts,bs,k,F,w,c,rfl,hh,hN,w0,w1,u0,u1,q⟩:=h
 obtain⟨⟨dxb,hbk⟩,_⟩:=id hN.bk
 have cl_House:=T.cl_House
 have na_House_rule:=T.na_House_rule
 have na_House_book:=T.na_House_book
 have na_House_moves:=T.na_House_moves
 refine⟨_,(zd (zB (i:=4) sc_House_need_with.nd rfl (Or.inl rfl) (zU (show PE _ _ (z9 K _ _)from zT (pv 0) rfl) T.cl_Book T.d_Book_position.mt (zce (base:=base) T) (hr.mono (by decide)) T.d_Book_position.b .nil (zy zw) (za (pv 1) zb)))
 (zd (zch (pv 4) (pv 2) (show zc8 _ (zcn K)from zbL) (pv 3) zdz zY)
 (zf (zH (zp (zey (base:=base) T) (hr.mono (by decide)) rfl T.d_need_of.m T.d_need_of.F.kp T.d_need_of.b .nil zX (za (show PE _ _ (z9 K _ _)from zT (pv 0) rfl) (za (pv 4) (za (show PE _ _ (z9 K _ _)from zT (pv 0) rfl) zb)))))))),?_⟩
 refine zF (σ0:=[some (.ref h),some (.int n),some (.int wa),some (.int u),none]) rfl ?_
 walk_at "x"
 refine⟨_,d,_,_,n,k,ts,rfl,hN.bk,hN.tok,by have:=hN.k9;omega,fun p H1 fp e1 hp=>?_⟩
 have hh1:=e1.at hh
 have hN1:=hN.same e1
 walk_at "x"
 rename_i H2 b2 h2
 obtain⟨_,ds0,hds0,_⟩:=id hN.bk
 have n1:d≠p:=fun z=>by rw[z,fp]at hds0;cases hds0
 have n2:B.mv≠p:=fun z=>by have:=hN.mv;rw[z,fp]at this;cases this
 have n3:p∉bs:=hN.rows.fresh fp
 have hN2:=hN1.but b2 n1 n2 n3
 have e2:=b2.same e1 fp
 have hb:∀j,-1000000000<=zaf ts n j/\zaf ts n j<=1000000000:=fun j=>by
  have h1:=zcP hN.tu n j
  have h2:=hN.tl
  omega
 have hbW:∀j,-1001000000<=zdg ts n wa u j/\zdg ts n wa u j<=1001000000:=fun j=>by
  unfold zdg
  have:=hb j
  have:=hb wa.toNat
  split<;>omega
 have h2':H2 p=some (.lst ((vec k (zdg ts n wa u)).map V.int)):=h2
 refine zP ?_
 refine zgE (m:=1001000000) hN2.ru ⟨h2',hN2.mv,hN2.rows,fun j _=>hbW j,fun i hi j hj=>by have:=hN.fw i hi j hj;omega,by decide,hN.k9,by have:=hN.ok.2;omega,hN.n64,hN2.tb⟩ hN.ok fun r H3 ql s3 t3 hL hr3 hz=>?_
 exact q r H3 ql (e2.t.trans s3) t3 hL hr3 hz
theorem zcg(T:Txt K mg):FnOk P w K mg base (CXF P w) 1 T.d_Book_check_members.a T.d_Book_check_members.fd ["self", "payer", "payee"] (ziP T.c_Book T.c_NoMember):=by
 refine T.d_Book_check_members.F.okX sc_Book_check_members (fun vs H Q E h=>?_) (fun cdv A outer s H vs Q E hr h=>?_)
 ·obtain⟨b,dx,d,m,w,y,p,q,rfl,_⟩:=h;rfl
 obtain⟨b,dx,d,m,w,y,p,q,rfl,hb,h⟩:=h
 have cl_Book:=T.cl_Book
 have na_Book_many:=T.na_Book_many
 refine⟨_,(zd (zbw PassesOwn.leaving rfl (show PI _ _ _ (zhW K _)from zi4 (zad (za (pv 1) (za (pv 2) zb)))) (zay (i:=3) sc_Book_check_members.nd rfl (Or.inl rfl))
 (zf (zI (PW.pt (zap (zo zaL (pv 3) zc (nomark _)) (zaj (zo zeT (pv 3) (show PE _ _ (z9 K _ _)from zT (pv 0) rfl) (nomark _)))))
 (zf (z4 rfl rfl T.m_NoMember (errOk.own T.e_NoMember) (za zA zb) zaA))
 zu)))
 (zf (zI (zo (show OpR _ (compareOp .Eq) (z3 K)from zV hr.units) (pv 1) (pv 2) (nomark _))
 (zf (z4 rfl rfl T.m_NoMember (errOk.own T.e_NoMember) (za zA zb) zaA))
 zu))),?_⟩
 refine zF (σ0:=[some (.ref b),some (.int p),some (.int q),none]) rfl ?_
 walk_at "x"
 refine zan (by first | decide | simp) fun t H1 ft e1 ht=>?_
 refine zje (.of ht) ?_
 refine zgk (zhq (xs:=[.int p,.int q])) (fun i σ' H'=>∃f3:Option V,σ'=[some (.ref b),some (.int p),some (.int q),f3]/\Same H1 H'/\(0<i->0<=p/\p<m)/\(1<i->0<=q/\q<m)) ⟨_,rfl,Same.refl _,fun z=>absurd z (by omega),fun z=>absurd z (by omega)⟩ ?_ ?_ ?_
 ·rintro i σ' H' ⟨_,_,e,_⟩;exact .of (e.at ht)
 ·rintro i x σ' H' H2 hi ⟨f3,rfl,e',i0,i1⟩ e2 hx
  have hb2:H2 b=some (.ins T.c_Book dx (bfl m w y d)):=e2.at (e'.at (e1.at hb))
  obtain⟨v,rfl,hv⟩:∃v:Int,x=.int v/\((i=0/\v=p)\/(i=1/\v=q)):=by
   have hi2:i<2:=hi
   obtain rfl | rfl:i=0\/i=1:=by omega
   ·exact⟨p,(yo hx).symm,.inl ⟨rfl,rfl⟩⟩
   ·exact⟨q,(yo hx).symm,.inr ⟨rfl,rfl⟩⟩
  walk_at "x"
  all_goals first
   | exact⟨_,rfl,e'.trans e2,fun _=>by rcases hv with⟨_,rfl⟩ | ⟨z,_⟩<;>first | (constructor<;>omega) | exact i0 (by omega),fun _=>by rcases hv with⟨z,_⟩ | ⟨_,rfl⟩<;>first | (exfalso;omega) | (constructor<;>omega)⟩
   | (rcases h with⟨⟨⟨a1,a2⟩,⟨a3,a4⟩,a5⟩,_⟩ | ⟨_,k⟩
      ·exfalso;omega
      ·exact⟨by decide,k _ (e1.trans (e'.trans e2))⟩)
 ·rintro σ' H' ⟨f3,rfl,e',i0,i1⟩
  have p0:=i0 (show 0<2 by decide)
  have q0:=i1 (show 1<2 by decide)
  walk_at "x"
  all_goals rcases h with⟨⟨⟨a1,a2⟩,⟨a3,a4⟩,a5⟩,k⟩ | ⟨hn,k⟩
  all_goals first
   | exact k _ (e1.trans e')
   | exact⟨by decide,k _ (e1.trans e')⟩
   | (exfalso;omega)
   | exact absurd ⟨p0,q0,by omega⟩ hn
theorem zcw(T:Txt K mg):FnOk P w K mg base (CXF P w) 1 T.d_Book_check_terms.a T.d_Book_check_terms.fd ["self", "ware", "units", "amount", "day", "rank"] (ziL T.c_Book T.c_NoTerms T.c_Closed):=by
 refine T.d_Book_check_terms.F.okX zds (fun vs H Q E h=>?_) (fun cdv A outer s H vs Q E hr h=>?_)
 ·obtain⟨b,dx,d,m,w,y,t,rfl,_⟩:=h;rfl
 obtain⟨b,dx,d,m,w,y,t,rfl,hb,h⟩:=h
 have cl_Book:=T.cl_Book
 have na_Book_wares:=T.na_Book_wares
 have na_Book_day:=T.na_Book_day
 refine⟨_,(zd (zI (PW.pt (zap (zo zaL (pv 1) zc (nomark _)) (zaj (zo zeT (pv 1) (show PE _ _ (z9 K _ _)from zT (pv 0) rfl) (nomark _)))))
 (zf (z4 rfl rfl T.m_NoTerms (errOk.own T.e_NoTerms) (za zA zb) zaA))
 zu)
 (zd (zI (PW.pt (zap (zo zaL (pv 2) zc (nomark _)) (zaj (zo zb9 (pv 2) (z5 (v:=.int 1000000) rfl T.g_MOST_UNITS ⟨_,rfl⟩) (nomark _)))))
 (zf (z4 rfl rfl T.m_NoTerms (errOk.own T.e_NoTerms) (za zA zb) zaA))
 zu)
 (zd (zI (PW.pt (zap (zo zaL (pv 3) zc (nomark _)) (zaj (zo zb9 (pv 3) (z5 (v:=.int 1000000000) rfl T.g_MOST_AMOUNT ⟨_,rfl⟩) (nomark _)))))
 (zf (z4 rfl rfl T.m_NoTerms (errOk.own T.e_NoTerms) (za zA zb) zaA))
 zu)
 (zd (zI (PW.pt (zap (zo zaL (pv 4) zc (nomark _)) (zaj (zo zb9 (pv 4) (z5 (v:=.int 1000000) rfl T.g_MOST_DAY ⟨_,rfl⟩) (nomark _)))))
 (zf (z4 rfl rfl T.m_NoTerms (errOk.own T.e_NoTerms) (za zA zb) zaA))
 zu)
 (zd (zI (PW.pt (zap (zo zaL (pv 5) zc (nomark _)) (zaj (zo zb9 (pv 5) zc (nomark _)))))
 (zf (z4 rfl rfl T.m_NoTerms (errOk.own T.e_NoTerms) (za zA zb) zaA))
 zu)
 (zf (zI (zo zaL (pv 4) (show PE _ _ (z9 K _ _)from zT (pv 0) rfl) (nomark _))
 (zf (z4 rfl rfl T.m_Closed (errOk.own T.e_Closed) (za zA zb) zaA))
 zu))))))),?_⟩
 refine zF (σ0:=[some (.ref b),some (.int t.w),some (.int t.u),some (.int t.a),some (.int t.y),some (.int t.r)]) rfl ?_
 rcases h with⟨⟨⟨b1,b2⟩,⟨b3,b4⟩,⟨b5,b6⟩,⟨b7,b8⟩,b9,b10⟩,h2,k⟩ | ⟨h1,k⟩ | ⟨⟨⟨b1,b2⟩,⟨b3,b4⟩,⟨b5,b6⟩,⟨b7,b8⟩,b9,b10⟩,h2,k⟩
 ·walk_at "x"
  all_goals first | exact k | (exfalso;omega)
 ·walk_at "x"
  all_goals first | exact⟨by decide,k⟩ | exact absurd (show zaB w t from⟨⟨by omega,by omega⟩,⟨by omega,by omega⟩,⟨by omega,by omega⟩,⟨by omega,by omega⟩,by omega,by omega⟩) h1
 ·walk_at "x"
  all_goals first | exact⟨by decide,k⟩ | (exfalso;omega)
theorem zfq(T:Txt K mg):FnOk P w K mg base (CXF P w) 2 T.d_Book_strike.a T.d_Book_strike.fd ["self", "payer", "payee", "ware", "units", "amount", "day", "rank"] (zjo T.c_Book T.c_NoMember T.c_NoTerms T.c_Closed):=by
 refine T.d_Book_strike.F.okX zfi (fun vs H Q E h=>?_) (fun cdv A outer s H vs Q E hr h=>?_)
 ·obtain⟨b,dx,d,m,w,y,t,xs,rfl,_⟩:=h;rfl
 obtain⟨b,dx,d,m,w,y,t,xs,rfl,hb,hd,hl,h⟩:=h
 have cl_Book:=T.cl_Book
 have na_Book_deals:=T.na_Book_deals
 refine⟨_,(zd (zR (zU (pv 0) T.cl_Book T.d_Book_check_members.mt (zcg (base:=base) T) (hr.mono (by decide)) T.d_Book_check_members.b .nil zX (za (pv 1) (za (pv 2) zb))))
 (zd (zR (zU (pv 0) T.cl_Book T.d_Book_check_terms.mt (zcw (base:=base) T) (hr.mono (by decide)) T.d_Book_check_terms.b .nil zX (za (pv 3) (za (pv 4) (za (pv 5) (za (pv 6) (za (pv 7) zb)))))))
 (zd (zR (show PE _ _ (tBM K _ _ _ _)from zcm yC yF yG zaW (show PE _ _ (z9 K _ _)from zT (pv 0) rfl) (za (zad (za (pv 1) (za (pv 2) (za (pv 3) (za (pv 4) (za (pv 5) (za (pv 6) (za (pv 7) (za zA zb))))))))) zb)))
 (zf (zH (zr zaX (zt (show CallR _ _ (zam K)from zN) rfl T.z_len BT.len (za (show PE _ _ (z9 K _ _)from zT (pv 0) rfl) zb)) zc)))))),?_⟩
 refine zF (σ0:=[some (.ref b),some (.int t.p),some (.int t.q),some (.int t.w),some (.int t.u),some (.int t.a),some (.int t.y),some (.int t.r)]) rfl ?_
 walk_at "x"
 by_cases hM:zbd m t.p t.q
 ·refine⟨b,dx,d,m,w,y,_,_,rfl,hb,.inl ⟨hM,fun H1 e1=>?_⟩⟩
  walk_at "x"
  by_cases hT:zaB w t
  ·by_cases hy:t.y<y
   ·have hk:zcz m w y t=3:=by unfold zcz;rw[if_neg (yai.mpr hM),if_neg (yai.mpr hT),if_pos hy]
    refine⟨b,dx,d,m,w,y,t,rfl,e1.at hb,.inr (.inr ⟨hT,hy,?_⟩)⟩
    rcases h with⟨z,_⟩ | ⟨z,_⟩ | ⟨z,_⟩ | ⟨_,k⟩
    all_goals first | exact k _ e1 | (exfalso;omega)
   ·have hk:zcz m w y t=0:=by unfold zcz;rw[if_neg (yai.mpr hM),if_neg (yai.mpr hT),if_neg hy]
    refine⟨b,dx,d,m,w,y,t,rfl,e1.at hb,.inl ⟨hT,by omega,?_⟩⟩
    rcases h with⟨_,k⟩ | ⟨z,_⟩ | ⟨z,_⟩ | ⟨z,_⟩
    case inr.inl=>exfalso;omega
    case inr.inr.inl=>exfalso;omega
    case inr.inr.inr=>exfalso;omega
    walk_at "x"
    rename_i a H2 fa e2 ha H3 b3 h3
    have el:(((xs++[V.ref a]).length:Nat):Int)-1=((xs.length:Nat):Int):=by rw[yl];show(((xs.length+1:Nat):Nat):Int)-1=_;omega
    rw[el]
    exact k a H2 H3 (e1.trans e2) ha b3 h3
  ·have hk:zcz m w y t=2:=by unfold zcz;rw[if_neg (yai.mpr hM),if_pos hT]
   refine⟨b,dx,d,m,w,y,t,rfl,e1.at hb,.inr (.inl ⟨hT,?_⟩)⟩
   rcases h with⟨z,_⟩ | ⟨z,_⟩ | ⟨_,k⟩ | ⟨z,_⟩
   all_goals first | exact k _ e1 | (exfalso;omega)
 ·have hk:zcz m w y t=1:=by unfold zcz;rw[if_pos hM]
  refine⟨b,dx,d,m,w,y,_,_,rfl,hb,.inr ⟨hM,fun H1 e1=>?_⟩⟩
  rcases h with⟨z,_⟩ | ⟨_,k⟩ | ⟨z,_⟩ | ⟨z,_⟩
  all_goals first | exact k _ e1 | (exfalso;omega)
theorem zdG(T:Txt K mg):FnOk P w K mg base (CXF P w) 1 T.d_Book_deal.a T.d_Book_deal.fd ["self", "number"] (zlC T.c_Book T.c_NoDeal):=by
 refine T.d_Book_deal.F.okX zgM (fun vs H Q E h=>?_) (fun cdv A outer s H vs Q E hr h=>?_)
 ·obtain⟨b,dx,d,m,w,y,n,xs,rfl,_⟩:=h;rfl
 obtain⟨b,dx,d,m,w,y,n,xs,rfl,hb,hd,h⟩:=h
 have cl_Book:=T.cl_Book
 have na_Book_deals:=T.na_Book_deals
 refine⟨_,(zd (zI (PW.pt (zap (zo zaL (pv 1) zc (nomark _)) (zaj (zo zeT (pv 1) (zt (show CallR _ _ (zam K)from zN) rfl T.z_len BT.len (za (show PE _ _ (z9 K _ _)from zT (pv 0) rfl) zb)) (nomark _)))))
 (zf (z4 rfl rfl T.m_NoDeal (errOk.own T.e_NoDeal) (za zA zb) zaA))
 zu)
 (zf (zH (zj (show IxR _ (rIx K)from zh) (show PE _ _ (z9 K _ _)from zT (pv 0) rfl) (pv 1) (fun _ _=>rfl))))),?_⟩
 refine zF (σ0:=[some (.ref b),some (.int n)]) rfl ?_
 rcases h with⟨n0,v,hv,k⟩ | ⟨hn,k⟩
 ·have hlt:=(ym.mp hv).1
  have hat:atI xs n=some v:=zaY n0 hv
  walk_at "x"
  all_goals first | exact k | (exfalso;omega)
 ·walk_at "x"
  all_goals first | exact⟨by decide,k⟩ | (exfalso;omega)
theorem zdr(T:Txt K mg):FnOk P w K mg base (CXF P w) 2 T.d_House_deal.a T.d_House_deal.fd ["self", "number"] (zlS T.c_House T.c_Book T.c_NoDeal):=by
 refine T.d_House_deal.F.okX zfL (fun vs H Q E h=>?_) (fun cdv A outer s H vs Q E hr h=>?_)
 ·obtain⟨h,dx,dxb,d,B,own,m,w,y,n,xs,rfl,_⟩:=h;rfl
 obtain⟨h,dx,dxb,d,B,own,m,w,y,n,xs,rfl,hh,hbk,hd,q⟩:=h
 have cl_House:=T.cl_House
 have na_House_book:=T.na_House_book
 refine⟨_,(zf (zH (zU (show PE _ _ (z9 K _ _)from zT (pv 0) rfl) T.cl_Book T.d_Book_deal.mt (zdG (base:=base) T) (hr.mono (by decide)) T.d_Book_deal.b .nil zX (za (pv 1) zb)))),?_⟩
 refine zF (σ0:=[some (.ref h),some (.int n)]) rfl ?_
 walk_at "x"
 exact⟨_,dxb,d,m,w,y,n,xs,rfl,hbk,hd,q⟩
theorem zc9(T:Txt K mg):FnOk P w K mg base (CXF P w) 2 T.d_Book_standing_deal.a T.d_Book_standing_deal.fd ["self", "number"] (zhQ T.c_Book T.c_NoDeal T.c_Gone T.c_Settled):=by
 refine T.d_Book_standing_deal.F.okX sc_Book_standing_deal (fun vs H Q E h=>?_) (fun cdv A outer s H vs Q E hr h=>?_)
 ·obtain⟨b,d,m,w,y,n,ts,rfl,_⟩:=h;rfl
 obtain⟨b,d,m,w,y,n,ts,rfl,hB,h⟩:=h
 obtain⟨⟨dx,hb⟩,xs,hd,hI⟩:=id hB
 have hxl:=hI.length
 refine⟨_,(zd (zB (i:=2) sc_Book_standing_deal.nd rfl (Or.inl rfl) (zU (pv 0) T.cl_Book T.d_Book_deal.mt (zdG (base:=base) T) (hr.mono (by decide)) T.d_Book_deal.b .nil zX (za (pv 1) zb)))
 (zd (zI (zo (show OpR _ (compareOp .Eq) (z3 K)from zV hr.units) (zj (show IxR _ (rIx K)from zh) (pv 2) (z5 (v:=.int 7) rfl T.g_STATE ⟨_,rfl⟩) (fun _ _=>rfl)) zA (nomark _))
 (zf (z4 rfl rfl T.m_Gone (errOk.own T.e_Gone) (za zA zb) zaA))
 zu)
 (zd (zI (zo (show OpR _ (compareOp .Eq) (z3 K)from zV hr.units) (zj (show IxR _ (rIx K)from zh) (pv 2) (z5 (v:=.int 7) rfl T.g_STATE ⟨_,rfl⟩) (fun _ _=>rfl)) zA (nomark _))
 (zf (z4 rfl rfl T.m_Settled (errOk.own T.e_Settled) (za zA zb) zaA))
 zu)
 (zf (zH (pv 2)))))),?_⟩
 refine zF (σ0:=[some (.ref b),some (.int n),none]) rfl ?_
 walk_at "x"
 rcases h with⟨t,n0,ht,h1,h2,k⟩ | ⟨hn,k⟩ | ⟨t,n0,ht,h1,k⟩ | ⟨t,n0,ht,h2,k⟩
 ·obtain⟨x,hx1,hx2⟩:=hI.getI ht
  have hx3:H x=some (.tup [.int t.1.p,.int t.1.q,.int t.1.w,.int t.1.u,.int t.1.a,.int t.1.y,.int t.1.r,.str t.2]):=hx2
  refine⟨b,dx,d,m,w,y,n,xs,rfl,hb,hd,.inl ⟨n0,.ref x,hx1,?_⟩⟩
  walk_at "x"
  all_goals first | exact k x hx2 | (exfalso;contradiction)
 ·exact⟨b,dx,d,m,w,y,n,xs,rfl,hb,hd,.inr ⟨by omega,k⟩⟩
 ·obtain⟨x,hx1,hx2⟩:=hI.getI ht
  have hx3:H x=some (.tup [.int t.1.p,.int t.1.q,.int t.1.w,.int t.1.u,.int t.1.a,.int t.1.y,.int t.1.r,.str t.2]):=hx2
  refine⟨b,dx,d,m,w,y,n,xs,rfl,hb,hd,.inl ⟨n0,.ref x,hx1,?_⟩⟩
  walk_at "x"
  all_goals first | exact⟨by decide,k⟩ | (exfalso;contradiction)
 ·have h1:¬t.2=("broken" : Str):=by rw[h2];decide +kernel
  obtain⟨x,hx1,hx2⟩:=hI.getI ht
  have hx3:H x=some (.tup [.int t.1.p,.int t.1.q,.int t.1.w,.int t.1.u,.int t.1.a,.int t.1.y,.int t.1.r,.str t.2]):=hx2
  refine⟨b,dx,d,m,w,y,n,xs,rfl,hb,hd,.inl ⟨n0,.ref x,hx1,?_⟩⟩
  walk_at "x"
  all_goals first | exact⟨by decide,k⟩ | (exfalso;contradiction)
theorem zd2(T:Txt K mg):FnOk P w K mg base (CXF P w) 1 T.d_Book_put_state.a T.d_Book_put_state.fd ["self", "number", "state"] (zhH T.c_Book):=by
 refine T.d_Book_put_state.F.okN zdY (fun vs H Q E h=>?_) (fun cdv A outer s H vs Q E hr h=>?_)
 ·obtain⟨b,d,m,w,y,n,st,ts,t,rfl,_⟩:=h;rfl
 obtain⟨b,d,m,w,y,n,st,ts,t,rfl,hB,n0,ht,k⟩:=h
 obtain⟨⟨dx,hb⟩,xs,hd,hI⟩:=id hB
 have hxl:=hI.length
 have hnl:=(ym.mp ht).1
 obtain⟨a,ha1,ha2⟩:=hI.getI ht
 have ha3:H a=some (.tup [.int t.1.p,.int t.1.q,.int t.1.w,.int t.1.u,.int t.1.a,.int t.1.y,.int t.1.r,.str t.2]):=ha2
 have hat:atI xs n=some (.ref a):=zaY n0 ha1
 have cl_Book:=T.cl_Book
 have na_Book_deals:=T.na_Book_deals
 refine⟨_,(zf (zbJ (zr (show OpR _ (binaryOp .Add) (zJ K)from zC) (zbU (show SlR _ (zky K)from zms) (zj (show IxR _ (rIx K)from zh) (show PE _ _ (z9 K _ _)from zT (pv 0) rfl) (pv 1) (fun _ _=>rfl)) zck (zci (z5 (v:=.int 7) rfl T.g_STATE ⟨_,rfl⟩))) (zad (za (pv 2) zb))) (zbK (show PE _ _ (z9 K _ _)from zT (pv 0) rfl) (pv 1) zY))),?_⟩
 refine zF (σ0:=[some (.ref b),some (.int n),some (.str st)]) rfl ?_
 walk_at "x"
 refine znk ha3 (by show ¬(HT.sIx 8 0 none=0/\HT.sIx 8 8 (some 7)=8);decide) fun p H1 fp e1 hp=>?_
 have hp':H1 p=some (.tup (za2 t.1)):=hp
 walk_at "x"
 rename_i o H2 fo e2 ho
 refine zmK (e2.at hp') ho (by unfold za2;simp) (by simp) (by show 7+1<=100000;decide) fun p2 H3 fp2 e3 hp2=>?_
 have hp3:H3 p2=some (.tup (zbs (t.1,st))):=hp2
 have hd3:=e3.at (e2.at (e1.at hd))
 have hb3:=e3.at (e2.at (e1.at hb))
 walk_at "x"
 refine zbi hd3 (zjw n0 (by omega)) fun H4 b4 h4=>?_
 walk_at "x"
 refine k H4 ⟨⟨dx,b4.ins hb3⟩,_,h4,?_⟩ (ButL.of hd (e1.trans (e2.trans e3)) b4)
 exact IsTs.set (f:=zbs) (b4.tup hp3) _ (LBut.isTs b4 (hI.same (e1.trans (e2.trans e3))))
theorem zd3(T:Txt K mg):FnOk P w K mg base (CXF P w) 3 T.d_Book_break_off.a T.d_Book_break_off.fd ["self", "number"] (zg0 T.c_Book T.c_NoDeal T.c_Gone T.c_Settled):=by
 refine T.d_Book_break_off.F.okX zd4 (fun vs H Q E h=>?_) (fun cdv A outer s H vs Q E hr h=>?_)
 ·obtain⟨b,d,m,w,y,n,ts,rfl,_⟩:=h;rfl
 obtain⟨b,d,m,w,y,n,ts,rfl,hB,h⟩:=h
 obtain⟨⟨dx,hb⟩,xs,hd,hI⟩:=id hB
 refine⟨_,(zd (zR (zU (pv 0) T.cl_Book T.d_Book_standing_deal.mt (zc9 (base:=base) T) (hr.mono (by decide)) T.d_Book_standing_deal.b .nil zX (za (pv 1) zb)))
 (zf (zR (zU (pv 0) T.cl_Book T.d_Book_put_state.mt (zd2 (base:=base) T) (hr.mono (by decide)) T.d_Book_put_state.b .nil (zy zw) (za (pv 1) (za zA zb)))))),?_⟩
 refine zF (σ0:=[some (.ref b),some (.int n)]) rfl ?_
 walk_at "x"
 rcases h with⟨t,n0,ht,h1,h2,k⟩ | ⟨hn,k⟩ | ⟨t,n0,ht,h1,k⟩ | ⟨t,n0,ht,h2,k⟩
 ·refine⟨b,d,m,w,y,n,ts,rfl,hB,.inl ⟨t,n0,ht,h1,h2,fun x hx=>?_⟩⟩
  walk_at "x"
  refine⟨b,d,m,w,y,n, "broken",ts,t,rfl,hB,n0,ht,fun H1 hB1 g1=>?_⟩
  walk_at "x"
  exact k H1 hB1 g1
 ·exact⟨b,d,m,w,y,n,ts,rfl,hB,.inr (.inl ⟨hn,k⟩)⟩
 ·exact⟨b,d,m,w,y,n,ts,rfl,hB,.inr (.inr (.inl ⟨t,n0,ht,h1,k⟩))⟩
 ·exact⟨b,d,m,w,y,n,ts,rfl,hB,.inr (.inr (.inr ⟨t,n0,ht,h2,k⟩))⟩
theorem zdL(T:Txt K mg):FnOk P w K mg base (CXF P w) 4 T.d_House_break_off.a T.d_House_break_off.fd ["self", "number"] (zjB T.c_House T.c_Book T.c_NoDeal T.c_Gone T.c_Settled):=by
 refine T.d_House_break_off.F.okX zdB (fun vs H Q E h=>?_) (fun cdv A outer s H vs Q E hr h=>?_)
 ·obtain⟨h,dx,d,B,own,m,w,y,n,ts,t,rfl,_⟩:=h;rfl
 obtain⟨h,dx,d,B,own,m,w,y,n,ts,t,rfl,hh,hB,n0,ht,hs,q⟩:=h
 obtain⟨⟨dxb,hbk⟩,_⟩:=id hB
 have cl_House:=T.cl_House
 have na_House_book:=T.na_House_book
 refine⟨_,(zf (zR (zU (show PE _ _ (z9 K _ _)from zT (pv 0) rfl) T.cl_Book T.d_Book_break_off.mt (zd3 (base:=base) T) (hr.mono (by decide)) T.d_Book_break_off.b .nil zX (za (pv 1) zb)))),?_⟩
 refine zF (σ0:=[some (.ref h),some (.int n)]) rfl ?_
 walk_at "x"
 refine⟨_,d,m,w,y,n,ts,rfl,hB,.inl ⟨t,n0,ht,by rw[hs];decide +kernel,by rw[hs];decide +kernel,fun H' hB' g=>?_⟩⟩
 walk_at "x"
 exact q H' hB' g
theorem zeC(T:Txt K mg):FnOk P w K mg base (CXF P w) 5 T.d_House_strike.a T.d_House_strike.fd ["self", "payer", "payee", "ware", "units", "amount", "day", "rank"] (zis K T.c_House T.c_Book lP lQ T.c_NoMember T.c_NoTerms T.c_Bare):=by
 refine T.d_House_strike.F.okX zeZ (fun vs H Q E h=>?_) (fun cdv A outer s H vs Q E hr h=>?_)
 ·obtain⟨h,d,B,own,y,n,P,L,t,xs,ts,bs,k,F,w,cr,rfl,_⟩:=h;rfl
 obtain⟨h,d,B,own,y,n,P,L,t,xs,ts,bs,k,F,w,cr,rfl,hC,hN,hd,hxl,hou,hsz,hty,q1,q2,q3⟩:=h
 obtain⟨⟨dx,hh⟩,hpu,hpl,hne⟩:=id hC
 obtain⟨⟨dxb,hbk⟩,_⟩:=id hN.bk
 have cl_House:=T.cl_House
 have na_House_book:=T.na_House_book
 have na_House_outs:=T.na_House_outs
 have na_House_pledges:=T.na_House_pledges
 refine⟨_,(zd (zR (zU (show PE _ _ (z9 K _ _)from zT (pv 0) rfl) T.cl_Book T.d_Book_check_members.mt (zcg (base:=base) T) (hr.mono (by decide)) T.d_Book_check_members.b .nil zX (za (pv 1) (za (pv 2) zb))))
 (zd (zI (PW.pt (zap (show PT _ _ (zbN K _)from zZ (zj (show IxR _ (rIx K)from zh) (show PE _ _ (z9 K _ _)from zT (pv 0) rfl) (pv 1) (fun _ _=>rfl)) (fun _=>rfl)) (zaj (show PT _ _ (zbN K _)from zZ (zj (show IxR _ (rIx K)from zh) (show PE _ _ (z9 K _ _)from zT (pv 0) rfl) (pv 2) (fun _ _=>rfl)) (fun _=>rfl)))))
 (zf (z4 rfl rfl T.m_Out (errOk.own T.e_Out) (za zA zb) zaA))
 zu)
 (zd (zR (zU (show PE _ _ (z9 K _ _)from zT (pv 0) rfl) T.cl_Book T.d_Book_check_terms.mt (zcw (base:=base) T) (hr.mono (by decide)) T.d_Book_check_terms.b .nil zX (za (pv 3) (za (pv 4) (za (pv 5) (za (pv 6) (za (pv 7) zb)))))))
 (zd (zR (zp (zcd (base:=base) T) (hr.mono (by decide)) rfl T.d_check_covered.m T.d_check_covered.F.kp T.d_check_covered.b .nil zX (za (zj (show IxR _ (rIx K)from zh) (show PE _ _ (z9 K _ _)from zT (pv 0) rfl) (pv 1) (fun _ _=>rfl)) (za (zU (pv 0) T.cl_House T.d_House_need_with.mt (zcH (base:=base) T) (hr.mono (by decide)) T.d_House_need_with.b .nil zX (za (pv 1) (za (pv 3) (za (pv 4) zb)))) zb))))
 (zd (zR (zp (zcd (base:=base) T) (hr.mono (by decide)) rfl T.d_check_covered.m T.d_check_covered.F.kp T.d_check_covered.b .nil zX (za (zj (show IxR _ (rIx K)from zh) (show PE _ _ (z9 K _ _)from zT (pv 0) rfl) (pv 2) (fun _ _=>rfl)) (za (zU (pv 0) T.cl_House T.d_House_need_with.mt (zcH (base:=base) T) (hr.mono (by decide)) T.d_House_need_with.b .nil zX (za (pv 2) (za (pv 3) (za (zdj zcR (pv 4)) zb)))) zb))))
 (zf (zH (zU (show PE _ _ (z9 K _ _)from zT (pv 0) rfl) T.cl_Book T.d_Book_strike.mt (zfq (base:=base) T) (hr.mono (by decide)) T.d_Book_strike.b .nil zX (za (pv 1) (za (pv 2) (za (pv 3) (za (pv 4) (za (pv 5) (za (pv 6) (za (pv 7) zb))))))))))))))),?_⟩
 refine zF (σ0:=[some (.ref h),some (.int t.p),some (.int t.q),some (.int t.w),some (.int t.u),some (.int t.a),some (.int t.y),some (.int t.r)]) rfl ?_
 walk_at "x"
 refine zP ?_
 by_cases hm:zbd (n:Int) t.p t.q
 ·refine⟨_,dxb,d,_,_,_,t.p,t.q,rfl,hbk,.inl ⟨hm,fun H1 e1=>?_⟩⟩
  obtain⟨⟨p0,p1⟩,⟨r0,r1⟩,pq⟩:=id hm
  have hh1:=e1.at hh
  have hou1:=e1.at hou
  have hbk1:=e1.at hbk
  have hpl1:=e1.at hpl
  have hN1:=hN.same e1
  have hat1:atI ((List.replicate n false).map V.bl) t.p=some (.bl false):=zaY p0 (by rw[yh,yad,if_pos (by omega)];rfl)
  have hat2:atI ((List.replicate n false).map V.bl) t.q=some (.bl false):=zaY r0 (by rw[yh,yad,if_pos (by omega)];rfl)
  walk_at "x"
  refine zP ?_
  by_cases ht:zaB (k:Int) t
  ·obtain⟨⟨w0,w1⟩,⟨u0,u1⟩,_⟩:=id ht
   obtain⟨qa,qb,qc⟩:=q3 hm ht
   refine⟨_,dxb,d,_,_,_,t,rfl,hbk1,.inl ⟨ht,hty ht,?_⟩⟩
   walk_at "x"
   refine zP ?_
   refine⟨h,dx,d,B,own,_,_,t.p,t.w,t.u,ts,bs,k,F,w,cr,rfl,hh1,hN1,w0,w1,by omega,by omega,fun r H2 ql s2 t2 hL hr2 hz2=>?_⟩
   walk_at "x"
   refine zP ?_
   have s02:=e1.t.trans s2
   refine⟨_,r,_,rfl,hr2,hz2.mono (by decide) (by decide),hsz _ (by omega),fun hnl H3 e3=>?_,fun hlt H3 e3=>qa H3 ql (s02.trans e3.t) (TbW.same e3 t2) hL hlt⟩
   have s03:=s02.trans e3.t
   have t3:TbW K "worst_days" lP lQ H3:=TbW.same e3 t2
   have hh3:=s03.ins hh
   have hpl3:=s03.lst hpl
   have hN3:=hN.sameT s03 t3
   walk_at "x"
   refine zP ?_
   refine⟨h,dx,d,B,own,_,_,t.q,t.w,-t.u,ts,bs,k,F,w,cr,rfl,hh3,hN3,w0,w1,by omega,by omega,fun r2 H4 ql2 s4 t4 hL4 hr4 hz4=>?_⟩
   walk_at "x"
   refine zP ?_
   have s04:=s03.trans s4
   refine⟨_,r2,_,rfl,hr4,hz4.mono (by decide) (by decide),hsz _ (by omega),fun hnl2 H5 e5=>?_,fun hlt H5 e5=>qb H5 ql ql2 (s04.trans e5.t) (TbW.same e5 t4) hL hL4 hnl hlt⟩
   have s05:=s04.trans e5.t
   have t5:TbW K "worst_days" lP lQ H5:=TbW.same e5 t4
   have hh5:=s05.ins hh
   have hbk5:=s05.ins hbk
   have hd5:=s05.lst hd
   walk_at "x"
   refine zP ?_
   refine⟨_,dxb,d,_,_,_,t,xs,rfl,hbk5,hd5,hxl,.inl ⟨?_,fun a H6 H7 e6 ha b7 h7=>?_⟩⟩
   ·unfold zcz
    rw[if_neg (not_not_intro hm),if_neg (not_not_intro ht),if_neg (by have:=hty ht;omega)]
   ·walk_at "x"
    exact qc H5 ql ql2 a H6 H7 s05 t5 hL hL4 hnl hnl2 e6 ha b7 h7
  ·exact⟨_,dxb,d,_,_,_,t,rfl,hbk1,.inr (.inl ⟨ht,q2 hm ht H1 e1⟩)⟩
 ·exact⟨_,dxb,d,_,_,_,t.p,t.q,rfl,hbk,.inr ⟨hm,q1 hm⟩⟩
theorem zhc{r:Addr}{k:Nat}{σ:St}{Q:VK}{H:Hp}{rows:List Addr}{F:Nat->Nat->Int}(hr:H r=some (.lst (rows.map V.ref)))(hP:Rows H rows k F)(hk:0<k)(al:rows.length<=1000)(hk':k<=1000)(hs:zb2 [none] σ=[none])(q:∀D H' (bs:List Addr),H D=none->Same H H'->H' D=some (.lst (bs.map V.ref))->bs.length=rows.length->Rows H' bs k F->(∀b∈bs,H b=none)->D∉bs->Q (.ref D) H'):zcN (Itl K r) [none] (zc5 0) zej (tCB (zcl K) (zh2 (zhX 0) zfl)) σ Q H:=by
 refine zaw (zbn (K:=K) (a:=r) (xs:=rows.map V.ref)) (fun H' e=>SqL.of (e.at hr)) hs (fun i vs H'=>∃bs:List Addr,vs=bs.map V.ref/\bs.length=i/\Rows H' bs k F/\∀b∈bs,H b=none) (fun H' _=>⟨[],rfl,rfl,⟨yP,fun i a h=>nomatch h⟩,fun b hb=>nomatch hb⟩) ?_ ?_
 ·rintro i x D vs o H4 H5 hi hD e4 hv hvl ⟨bs,rfl,hbl,hRb,hfb⟩ e5 hx
  rw[ya]at hi
  obtain⟨c,hc⟩:=zQ hi
  have ex:x=.ref c:=by rw[yh,hc]at hx;exact(yo hx).symm
  subst ex
  have hrow:=hP.2 _ _ hc
  have hcs:(bs.map V.ref).length<=1000:=by rw[ya];omega
  walk_at "x"
  rename_i p H6 fp e6 hp H7 b7 h7
  have hD':D∉bs:=hRb.ne hk hv
  have hpD:p≠D:=zcy fp (e5.at hv)
  have fpH:H p=none:=Same.none fp (e4.trans e5)
  subst hbl
  refine⟨⟨_,rfl⟩,by walk_at "h",_,h7,by rw[yl];exact yc hvl,bs++[p],by rw[yx];rfl,by rw[yl];rfl,Rows.app ((hRb.same (e5.trans e6)).but b7 hD') ((hRb.same e5).fresh fp) (b7.lst hp hpD),fun b hb=>?_⟩
  rcases yv.mp hb with hb | hb
  ·exact hfb b hb
  ·rw[yu.mp hb];exact fpH
 ·rintro D H5 us fD e5 hD _ ⟨bs,rfl,hbl,hRb,hfb⟩
  rw[ya]at hbl
  exact q D H5 bs fD e5 hD hbl hRb hfb (hRb.ne hk hD)
theorem zdZ(T:Txt K mg):FnOk P w K mg base (CXF P w) 3 T.d_House___init__.a T.d_House___init__.fd ["self", "members", "moves", "rule", "order", "own"] (zlr K T.c_House T.c_Book T.c_NoRule T.c_NoLayer):=by
 refine T.d_House___init__.F.okX zd5 (fun vs H Q E h=>?_) (fun cdv A outer s H vs Q E hr h=>?_)
 ·obtain⟨p,dx,ms,mo,ru,od,us,xs,as,k,F,w,c,ws,own,rfl,_⟩:=h;rfl
 obtain⟨p,dx,ms,mo,ru,od,us,xs,as,k,F,w,c,ws,own,rfl,hp,hms,hI,hxl,hmo,hR,al0,al1,k0,k1,hru,hod,hwl,q0,q1,q2⟩:=h
 have hal:(as.map V.ref).length=as.length:=ya ..
 have hul:=hI.length
 have sk0:Stk p H H []:=Stk.nil (z6 hp)
 have nms:ms≠p:=za0 hms hp (by intro z;cases z)
 have nmo:mo≠p:=za0 hmo hp (by intro z;cases z)
 have nru:ru≠p:=za0 hru hp (by intro z;cases z)
 have nod:od≠p:=za0 hod hp (by intro z;cases z)
 refine⟨_,(zd (zR (zp (zdq (base:=base) T) (hr.mono (by decide)) rfl T.d_check_rule.m T.d_check_rule.F.kp T.d_check_rule.b .nil zX (za (pv 3) (za (pv 2) zb))))
 (zd (zR (zp (zfg (base:=base) T) (hr.mono (by decide)) rfl T.d_check_order.m T.d_check_order.F.kp T.d_check_order.b .nil zX (za (pv 4) zb)))
 (zd (show PS _ _ (zb4 K _ _ _)from zbv (pv 0) (zbt rfl (show PI _ _ _ (zbc K _)from zaz (pv 1)) (zS (Ni:=["coins"]) (caps:=[none]) (by rfl)) (fun S _ _ _ _ _=>(z8 (gi:=0) S (Or.inl rfl) rfl)) (fun _ _ _ _ _=>zaM) (fun _ _ _ _ _=>(zj (show IxR _ (rIx K)from zh) (pv 0) zc (fun _ _=>rfl)))) rfl)
 (zd (show PS _ _ (zb4 K _ _ _)from zbv (pv 0) (zbt rfl (show PI _ _ _ (zbc K _)from zaz (pv 1)) (zS (Ni:=["coins"]) (caps:=[none]) (by rfl)) (fun S _ _ _ _ _=>(z8 (gi:=0) S (Or.inl rfl) rfl)) (fun _ _ _ _ _=>zaM) (fun _ _ _ _ _=>(zj (show IxR _ (rIx K)from zh) (pv 0) zc (fun _ _=>rfl)))) rfl)
 (zd (show PS _ _ (zb4 K _ _ _)from zbv (pv 0) (zbt rfl (show PI _ _ _ (zbc K _)from zaz (pv 1)) (zS (Ni:=["coins"]) (caps:=[none]) (by rfl)) (fun S _ _ _ _ _=>(z8 (gi:=0) S (Or.inl rfl) rfl)) (fun _ _ _ _ _=>zaM) (fun _ _ _ _ _=>(zj (show IxR _ (rIx K)from zh) (pv 0) zc (fun _ _=>rfl)))) rfl)
 (zd (show PS _ _ (zb4 K _ _ _)from zbv (pv 0) (pv 5) rfl)
 (zd (show PS _ _ (zb4 K _ _ _)from zbv (pv 0) (zbt rfl (show PI _ _ _ (zbc K _)from zaz (pv 2)) (zS (Ni:=["moved"]) (caps:=[none]) (by rfl)) (fun S _ _ _ _ _=>(z8 (gi:=0) S (Or.inl rfl) rfl)) (fun _ _ _ _ _=>zaM) (fun _ _ _ _ _=>(zcj (show CallR _ _ (zcl K)from zdh) rfl T.z_list BT.list (za (pv 0) zb)))) rfl)
 (zd (show PS _ _ (zb4 K _ _ _)from zbv (pv 0) (zad (za (zj (show IxR _ (rIx K)from zh) (pv 3) zc (fun _ _=>rfl)) (za (zj (show IxR _ (rIx K)from zh) (pv 3) zc (fun _ _=>rfl)) zb))) rfl)
 (zd (show PS _ _ (zb4 K _ _ _)from zbv (pv 0) (zcj (show CallR _ _ (zcl K)from zdh) rfl T.z_list BT.list (za (pv 4) zb)) rfl)
 (zd (show PS _ _ (zb4 K _ _ _)from zbv (pv 0) (zg6 T.mk_Book (zeg (base:=base) T) (hr.mono (by decide)) rfl T.m_Book T.d_Book___init__.b .nil (zy zw) (za (zt (show CallR _ _ (zam K)from zN) rfl T.z_len BT.len (za (pv 1) zb)) (za (zt (show CallR _ _ (zam K)from zN) rfl T.z_len BT.len (za (zj (show IxR _ (rIx K)from zh) (pv 2) zc (fun _ _=>rfl)) zb)) zb))) rfl)
 (zd (show PS _ _ (zb4 K _ _ _)from zbv (pv 0) (zbt rfl (show PI _ _ _ (zbc K _)from zaz (pv 1)) (zS (Ni:=["coins"]) (caps:=[none]) (by rfl)) (fun S _ _ _ _ _=>(z8 (gi:=0) S (Or.inl rfl) rfl)) (fun _ _ _ _ _=>zaM) (fun _ _ _ _ _=>zbS)) rfl)
 (zf (show PS _ _ (zb4 K _ _ _)from zbv (pv 0) (zax zb) rfl))))))))))))),?_⟩
 refine zF (σ0:=[some (.ref p),some (.ref ms),some (.ref mo),some (.ref ru),some (.ref od),some (.int own)]) rfl ?_
 walk_at "x"
 refine zeI hru hmo (fun ok H1 e1=>?_) (fun nok H1 e1=>q1 (by rw[hal]at nok;exact nok) H1 e1)
 rw[hal]at ok
 walk_at "x"
 refine⟨od,ws,rfl,SqL.of (e1.at hod),hwl,?_⟩
 by_cases hO:OkO ws
 case neg=>exact .inr ⟨hO,fun H2 e2=>q2 ok hO _ (e1.trans e2)⟩
 refine .inl ⟨hO,fun H2 e2=>?_⟩
 have sk2:=(sk0.same e1).same e2
 have hp2:=(e1.trans e2).at hp
 walk_at "x"
 have hms2:=sk2.nb.at hms nms
 refine zaw (zbn (K:=K) (a:=ms) (xs:=us)) (fun H' e=>SqL.of (e.at hms2)) rfl (fun i vs _=>vs=(vec i fun i=>(xs.getD i (0,0,0)).1).map V.int) (fun H' _=>rfl) ?_ ?_
 ·rintro i x D vs o G G' hi hD e4 hv hvl rfl e5 hx
  obtain⟨a,u,rfl,hu,ha⟩:=hI.get hx
  have nap:a≠p:=za0 ha hp (by intro z;cases z)
  have ha5:G' a=some (.tup [.int u.1,.int u.2.1,.int u.2.2]):=(e4.trans e5).at (sk2.nb.at ha nap)
  have hv5:=e5.at hv
  walk_at "x"
  rename_i G6 b6 h6
  refine⟨⟨_,rfl⟩,b6.same (e4.trans e5) hD,_,h6,by rw[yl];exact yc hvl,?_⟩
  dsimp only
  rw[zaF,yx,yi,hu];rfl
 rintro pu H3 vs fpu e3 hpu _ rfl
 rw[hul]at hpu
 have sk3:=sk2.new fpu e3 (z6 hpu)
 have hp3:=e3.at hp2
 walk_at "x"
 refine za1 hp3 T.cl_House T.na_House_purses (by show 0<1000;decide) fun H4 b4 hp4=>?_
 have sk4:=sk3.keep b4.nb (z6 hp4)
 have c4:NB p H3 H4:=b4.nb
 have hms4:=sk4.nb.at hms nms
 walk_at "x"
 refine zaw (zbn (K:=K) (a:=ms) (xs:=us)) (fun H' e=>SqL.of (e.at hms4)) rfl (fun i vs _=>vs=(vec i fun i=>(xs.getD i (0,0,0)).2.1).map V.int) (fun H' _=>rfl) ?_ ?_
 ·rintro i x D vs o G G' hi hD e4 hv hvl rfl e5 hx
  obtain⟨a,u,rfl,hu,ha⟩:=hI.get hx
  have nap:a≠p:=za0 ha hp (by intro z;cases z)
  have ha5:G' a=some (.tup [.int u.1,.int u.2.1,.int u.2.2]):=(e4.trans e5).at (sk4.nb.at ha nap)
  have hv5:=e5.at hv
  walk_at "x"
  rename_i G6 b6 h6
  refine⟨⟨_,rfl⟩,b6.same (e4.trans e5) hD,_,h6,by rw[yl];exact yc hvl,?_⟩
  dsimp only
  rw[zaF,yx,yi,hu];rfl
 rintro pl H5 vs fpl e5 hpl _ rfl
 rw[hul]at hpl
 have sk5:=sk4.new fpl e5 (z6 hpl)
 have hp5:=e5.at hp4
 walk_at "x"
 refine za1 hp5 T.cl_House T.na_House_pledges (by exact yD (zm _ _ []) (by decide:1<1000)) fun H6 b6 hp6=>?_
 have sk6:=sk5.keep b6.nb (z6 hp6)
 have c6:NB p H5 H6:=b6.nb
 have hms6:=sk6.nb.at hms nms
 walk_at "x"
 refine zaw (zbn (K:=K) (a:=ms) (xs:=us)) (fun H' e=>SqL.of (e.at hms6)) rfl (fun i vs _=>vs=(vec i fun i=>(xs.getD i (0,0,0)).2.2).map V.int) (fun H' _=>rfl) ?_ ?_
 ·rintro i x D vs o G G' hi hD e4 hv hvl rfl e5 hx
  obtain⟨a,u,rfl,hu,ha⟩:=hI.get hx
  have nap:a≠p:=za0 ha hp (by intro z;cases z)
  have ha5:G' a=some (.tup [.int u.1,.int u.2.1,.int u.2.2]):=(e4.trans e5).at (sk6.nb.at ha nap)
  have hv5:=e5.at hv
  walk_at "x"
  rename_i G6 b6 h6
  refine⟨⟨_,rfl⟩,b6.same (e4.trans e5) hD,_,h6,by rw[yl];exact yc hvl,?_⟩
  dsimp only
  rw[zaF,yx,yi,hu];rfl
 rintro sh H7 vs fsh e7 hsh _ rfl
 rw[hul]at hsh
 have sk7:=sk6.new fsh e7 (z6 hsh)
 have hp7:=e7.at hp6
 walk_at "x"
 refine za1 hp7 T.cl_House T.na_House_shares (by exact yD (yb (zm _ _ _) (yc (zm _ _ []))) (by decide:2<1000)) fun H8 b8 hp8=>?_
 have sk8:=sk7.keep b8.nb (z6 hp8)
 have c8:NB p H7 H8:=b8.nb
 walk_at "x"
 refine za1 hp8 T.cl_House T.na_House_kept (by exact yD (yb (zm _ _ _) (yc (yb (zm _ _ _) (yc (zm _ _ []))))) (by decide:3<1000)) fun H9 b9 hp9=>?_
 have sk9:=sk8.keep b9.nb (z6 hp9)
 have hmo9:=sk9.nb.at hmo nmo
 walk_at "x"
 have hR9:Rows H9 as k F:=⟨hR.1,fun i a e=>sk9.nb.at (hR.2 i a e) (za0 (hR.2 i a e) hp (by intro z;cases z))⟩
 refine zhc hmo9 hR9 k0 al1 k1 rfl fun mv H10 bs fmv e10 hmv hbl hRb fbs nmv=>?_
 have sk10:Stk p H H10 (bs++[mv,sh,pl,pu]):=by
  have s1:=sk9.more (bs:=bs++[mv]) (fun b hb=>(yv.mp hb).elim (fbs b) fun h=>by rw[yu.mp h];exact fmv) (yY.mpr ⟨hRb.1,yJ.mpr ⟨by simp,yP⟩,fun a ha b hb z=>nmv (by rw[<- yu.mp hb,<- z];exact ha)⟩) e10 (fun b hb=>(yv.mp hb).elim (fun h=>by
   obtain⟨i,hi,e⟩:=yZ h
   exact z6 (hRb.2 i b (by rw[yr hi,e]))) fun h=>by rw[yu.mp h];exact z6 hmv)
  rw[yaK]at s1
  exact s1
 have hp10:=e10.at hp9
 walk_at "x"
 refine za1 hp10 T.cl_House T.na_House_moves (by exact yD (yb (zm _ _ _) (yc (yb (zm _ _ _) (yc (yb (zm _ _ _) (yc (zm _ _ []))))))) (by decide:4<1000)) fun H11 b11 hp11=>?_
 have sk11:=sk10.keep b11.nb (z6 hp11)
 have hru11:=sk11.nb.at hru nru
 walk_at "x"
 refine zan (by first | decide | simp) fun rr H12 frr e12 hrr=>?_
 have sk12:=sk11.new frr e12 (z6 hrr)
 have hp12:=e12.at hp11
 walk_at "x"
 refine za1 hp12 T.cl_House T.na_House_rule (by exact yD (yb (zm _ _ _) (yc (yb (zm _ _ _) (yc (yb (zm _ _ _) (yc (yb (zm _ _ _) (yc (zm _ _ []))))))))) (by decide:5<1000)) fun H13 b13 hp13=>?_
 have sk13:=sk12.keep b13.nb (z6 hp13)
 have hod13:=sk13.nb.at hod nod
 walk_at "x"
 rename_i oo H14 foo e14 hoo
 have sk14:=sk13.new foo e14 (z6 hoo)
 have hp14:=e14.at hp13
 refine za1 hp14 T.cl_House T.na_House_order (by exact yD (yb (zm _ _ _) (yc (yb (zm _ _ _) (yc (yb (zm _ _ _) (yc (yb (zm _ _ _) (yc (yb (zm _ _ _) (yc (zm _ _ []))))))))))) (by decide:6<1000)) fun H15 b15 hp15=>?_
 have sk15:=sk14.keep b15.nb (z6 hp15)
 have hms15:=sk15.nb.at hms nms
 have hmo15:=sk15.nb.at hmo nmo
 obtain⟨c0,hc0⟩:=zQ (show 0<as.length by omega)
 have hat0:atI (as.map V.ref) 0=some (.ref c0):=zaY (by decide) (by rw[yh,show(0:Int).toNat=0 from rfl,hc0];rfl)
 have hrow15:H15 c0=some (.lst ((vec k (F 0)).map V.int)):=sk15.nb.at (hR.2 _ _ hc0) (za0 (hR.2 _ _ hc0) hp (by intro z;cases z))
 have hkl:(((vec k (F 0)).map V.int).length:Int)=k:=by rw[ya,zO]
 walk_at "x"
 refine zhe fun bk dxb H16 fbk e16 h16=>?_
 refine⟨bk,dxb,_,_,rfl,h16,fun d H17 fd s17 hbk hd=>⟨rfl,?_⟩⟩
 have e17:Same H15 H17:=fun c o q=>s17 c o (zG q fbk) (e16 c o q)
 have fdH:H15 d=none:=Same.none fd e16
 have ndbk:d≠bk:=fun z=>by rw[z,h16]at fd;cases fd
 rw[hul,hkl]at hbk
 have sk17:Stk p H H17 (d :: bk :: oo :: rr :: (bs++[mv,sh,pl,pu])):=by
  refine sk15.more (bs:=[d,bk]) (fun b hb=>?_) (yJ.mpr ⟨by rw[yu];exact ndbk,yJ.mpr ⟨by simp,yP⟩⟩) e17 fun b hb=>?_
  ·rcases yf.mp hb with rfl | hb
   ·exact fdH
   ·rw[yu.mp hb];exact fbk
  ·rcases yf.mp hb with rfl | hb
   ·exact z6 hd
   ·rw[yu.mp hb];exact z6 hbk
 have hp17:=e17.at hp15
 walk_at "x"
 refine za1 hp17 T.cl_House T.na_House_book (by exact yD (yb (zm _ _ _) (yc (yb (zm _ _ _) (yc (yb (zm _ _ _) (yc (yb (zm _ _ _) (yc (yb (zm _ _ _) (yc (yb (zm _ _ _) (yc (zm _ _ []))))))))))))) (by decide:7<1000)) fun H18 b18 hp18=>?_
 have sk18:=sk17.keep b18.nb (z6 hp18)
 have hms18:=sk18.nb.at hms nms
 walk_at "x"
 refine zaw (zbn (K:=K) (a:=ms) (xs:=us)) (fun H' e=>SqL.of (e.at hms18)) rfl (fun i vs _=>vs=(List.replicate i false).map V.bl) (fun H' _=>rfl) ?_ ?_
 ·rintro i x D vs o G G' hi hD e4 hv hvl rfl e5 hx
  have hv5:=e5.at hv
  walk_at "x"
  rename_i G6 b6 h6
  refine⟨⟨_,rfl⟩,b6.same (e4.trans e5) hD,_,h6,by rw[yl];exact yc hvl,?_⟩
  dsimp only
  rw[List.replicate_succ',yx];rfl
 rintro ou H19 vs fou e19 hou _ rfl
 rw[hul]at hou
 have sk19:=sk18.new fou e19 (z6 hou)
 have hp19:=e19.at hp18
 walk_at "x"
 refine za1 hp19 T.cl_House T.na_House_outs (by exact yD (yb (zm _ _ _) (yc (yb (zm _ _ _) (yc (yb (zm _ _ _) (yc (yb (zm _ _ _) (yc (yb (zm _ _ _) (yc (yb (zm _ _ _) (yc (yb (zm _ _ _) (yc (zm _ _ []))))))))))))))) (by decide:8<1000)) fun H20 b20 hp20=>?_
 have sk20:=sk19.keep b20.nb (z6 hp20)
 walk_at "x"
 rename_i re H21 fre e21 hre
 have sk21:=sk20.new fre e21 (z6 hre)
 have hp21:=e21.at hp20
 refine za1 hp21 T.cl_House T.na_House_reports (by exact yD (yb (zm _ _ _) (yc (yb (zm _ _ _) (yc (yb (zm _ _ _) (yc (yb (zm _ _ _) (yc (yb (zm _ _ _) (yc (yb (zm _ _ _) (yc (yb (zm _ _ _) (yc (yb (zm _ _ _) (yc (zm _ _ []))))))))))))))))) (by decide:9<1000)) fun H22 b22 hp22=>?_
 have sk22:=sk21.keep b22.nb (z6 hp22)
 walk_at "x"
 have n22:NB p H21 H22:=b22.nb
 have n21:NB p H20 H22:=e21.nb.trans n22
 have n20:NB p H19 H22:=b20.nb.trans n21
 have n19:NB p H18 H22:=e19.nb.trans n20
 have n18:NB p H17 H22:=b18.nb.trans n19
 have n17:NB p H15 H22:=e17.nb.trans n18
 have n15:NB p H14 H22:=b15.nb.trans n17
 have n14:NB p H13 H22:=e14.nb.trans n15
 have n13:NB p H12 H22:=b13.nb.trans n14
 have n12:NB p H11 H22:=e12.nb.trans n13
 have n11:NB p H10 H22:=b11.nb.trans n12
 have n10:NB p H9 H22:=e10.nb.trans n11
 have n9:NB p H8 H22:=b9.nb.trans n10
 have n8:NB p H7 H22:=b8.nb.trans n9
 have n7:NB p H6 H22:=e7.nb.trans n8
 have n6:NB p H5 H22:=b6.nb.trans n7
 have n5:NB p H4 H22:=e5.nb.trans n6
 have n4:NB p H3 H22:=b4.nb.trans n5
 have mp:∀x,x∈(re :: ou :: d :: bk :: oo :: rr :: (bs++[mv,sh,pl,pu]))->x≠p:=fun x hx=>(sk22.ex x hx).2.1
 refine q0 ok hO ⟨pu,pl,sh,mv,rr,oo,bk,ou,re⟩ d bs H22 sk22.nb hp22 hbl ⟨?_,?_,?_,?_,?_,?_,?_,?_,?_,?_,sk22⟩
 ·exact n4.at hpu (mp _ (by simp))
 ·exact n6.at hpl (mp _ (by simp))
 ·exact n8.at hsh (mp _ (by simp))
 ·exact n11.at hmv (mp _ (by simp))
 ·exact⟨hRb.1,fun i a e=>n11.at (hRb.2 i a e) (za0 (hRb.2 i a e) hp10 (by intro z;cases z))⟩
 ·exact n13.at hrr (mp _ (by simp))
 ·exact n15.at hoo (mp _ (by simp))
 ·exact⟨⟨dxb,n18.at hbk (mp _ (by simp))⟩,[],n18.at hd (mp _ (by simp)),trivial⟩
 ·exact n20.at hou (mp _ (by simp))
 ·exact n22.at hre (mp _ (by simp))
theorem zdw(T:Txt K mg):FnOk P w K mg base (CXF P w) 1 T.d__law_cell.a T.d__law_cell.fd ["_law_script", "_law_k"] (zff K):=by
 refine T.d__law_cell.F.okN zgo (fun vs H Q E h=>?_) (fun cdv A outer s H vs Q E hr h=>?_)
 ·obtain⟨a,ns,k,rfl,_⟩:=h;rfl
 obtain⟨a,ns,k,rfl,hS,h0,q⟩:=h
 have hl:(ns.map V.int).length=ns.length:=ya ..
 refine⟨_,(zd (zI (zo (show OpR _ (compareOp .Eq) (z3 K)from zV hr.units) (zt (show CallR _ _ (zam K)from zN) rfl T.z_len BT.len (za (pv 0) zb)) zc (nomark _))
 (zf (zH zc))
 zu)
 (zf (zH (zj (show IxR _ (rIx K)from zh) (pv 0) (zr zbY (pv 1) (zt (show CallR _ _ (zam K)from zN) rfl T.z_len BT.len (za (pv 0) zb))) (fun _ _=>rfl))))),?_⟩
 refine zF (σ0:=[some (.ref a),some (.int k)]) rfl ?_
 walk_at "x"
 ·exact q _
 ·rename_i h
  have hm:(0:Int)<((ns.map V.int).length:Int):=by omega
  have m0:=yR k (b:=((ns.map V.int).length:Int)) (by omega)
  have m1:=yL k hm
  exact zhD hS (zg5 m0 (v:=ns.getD (k%((ns.map V.int).length:Int)).toNat 0) (by rw[yi];rw[yr (by omega)];rfl)) (q _)
theorem zE(T:Txt K mg):FnOk P w K mg base (CXF P w) 2 T.d__law_draw.a T.d__law_draw.fd ["_law_script", "_law_k", "_law_many"] (zfn K):=by
 refine T.d__law_draw.F.okN zgp (fun vs H Q E h=>?_) (fun cdv A outer s H vs Q E hr h=>?_)
 ·obtain⟨a,ns,k,m,rfl,_⟩:=h;rfl
 obtain⟨a,ns,k,m,rfl,hS,h0,h1,hm,q⟩:=h
 have hk:=zk3 h0 h1
 have hk':=Int.mul_nonneg h0 h0
 refine⟨_,(zf (zH (zr zbY (zr zbY (zr zaO (zr (show OpR _ (binaryOp .Add) (zJ K)from zC) (zr (show OpR _ (binaryOp .Add) (zJ K)from zC) (zr zbY (zp (zdw (base:=base) T) (hr.mono (by decide)) rfl T.d__law_cell.m T.d__law_cell.F.kp T.d__law_cell.b .nil (zy zw) (za (pv 0) (za (pv 1) zb))) zc) (zr zaO (pv 1) (pv 1))) zc) zc) zc) (pv 2)))),?_⟩
 refine zF (σ0:=[some (.ref a),some (.int k),some (.int m)]) rfl ?_
 walk_at "x"
 exact q _ (yR _ (by omega)) (yL _ (by omega))
theorem zbO(T:Txt K mg):FnOk P w K mg base (CXF P w) 2 T.d__law_great.a T.d__law_great.fd ["_law_script", "_law_k", "_law_many"] (zed K):=by
 refine T.d__law_great.F.okN zfM (fun vs H Q E h=>?_) (fun cdv A outer s H vs Q E hr h=>?_)
 ·obtain⟨a,ns,k,m,rfl,_⟩:=h;rfl
 obtain⟨a,ns,k,m,rfl,hS,h0,h1,hm,hm',q⟩:=h
 have hk:=zk3 h0 h1
 have hk':=Int.mul_nonneg h0 h0
 have hM:∀i:Int,0<=i%m/\i%m<m:=fun i=>⟨yR _ (by omega),yL _ (by omega)⟩
 have zM:∀i:Int,sz (i%m)<=200:=fun i=>sz200 (by have:=hM i;omega) (by have:=hM i;omega)
 refine⟨_,(zf (zH (zr zbY (zr (show OpR _ (binaryOp .Add) (zJ K)from zC) (zr (show OpR _ (binaryOp .Add) (zJ K)from zC) (zr zaO (zr zbY (zp (zdw (base:=base) T) (hr.mono (by decide)) rfl T.d__law_cell.m T.d__law_cell.F.kp T.d__law_cell.b .nil (zy zw) (za (pv 0) (za (pv 1) zb))) (pv 2)) zc) (zr zaO (zr zaO (pv 1) (pv 1)) zc)) zc) (pv 2)))),?_⟩
 refine zF (σ0:=[some (.ref a),some (.int k),some (.int m)]) rfl ?_
 walk_at "x"
 rename_i x
 have z1:=zM x
 have z2:sz k<=200:=sz200 (by omega) (by omega)
 walk_at "x"
 exact q _ (yR _ (by omega)) (yL _ (by omega))
theorem zfh(T:Txt K mg):FnOk P w K mg base (CXF P w) 3 T.d__law_pledge.a T.d__law_pledge.fd ["_law_script", "_law_k"] (ze2 K):=by
 refine T.d__law_pledge.F.okN sc__law_pledge (fun vs H Q E h=>?_) (fun cdv A outer s H vs Q E hr h=>?_)
 ·obtain⟨a,ns,k,rfl,_⟩:=h;rfl
 obtain⟨a,ns,k,rfl,hS,h0,h1,q⟩:=h
 refine⟨_,(zd (zB (i:=2) sc__law_pledge.nd rfl (Or.inl rfl) (zp (zE (base:=base) T) (hr.mono (by decide)) rfl T.d__law_draw.m T.d__law_draw.F.kp T.d__law_draw.b .nil (zy zw) (za (pv 0) (za (pv 1) (za zc zb)))))
 (zd (zI (zo zaL (pv 2) zc (nomark _))
 (zf (zH (pv 2)))
 zu)
 (zd (zI (zo (show OpR _ (compareOp .Eq) (z3 K)from zV hr.units) (pv 2) zc (nomark _))
 (zf (zH (zp (zE (base:=base) T) (hr.mono (by decide)) rfl T.d__law_draw.m T.d__law_draw.F.kp T.d__law_draw.b .nil (zy zw) (za (pv 0) (za (zr (show OpR _ (binaryOp .Add) (zJ K)from zC) (pv 1) zc) (za zc zb))))))
 zu)
 (zd (zI (zo zaL (pv 2) zc (nomark _))
 (zf (zH (zp (zE (base:=base) T) (hr.mono (by decide)) rfl T.d__law_draw.m T.d__law_draw.F.kp T.d__law_draw.b .nil (zy zw) (za (pv 0) (za (zr (show OpR _ (binaryOp .Add) (zJ K)from zC) (pv 1) zc) (za zc zb))))))
 zu)
 (zf (zH (zp (zbO (base:=base) T) (hr.mono (by decide)) rfl T.d__law_great.m T.d__law_great.F.kp T.d__law_great.b .nil (zy zw) (za (pv 0) (za (zr (show OpR _ (binaryOp .Add) (zJ K)from zC) (pv 1) zc) (za (zr (show OpR _ (binaryOp .Add) (zJ K)from zC) (zr zdO zc zc) zc) zb)))))))))),?_⟩
 refine zF (σ0:=[some (.ref a),some (.int k),none]) rfl ?_
 walk_at "x"
 all_goals exact q _ (by omega) (by omega)
theorem zgj(T:Txt K mg):FnOk P w K mg base (CXF P w) 1 T.d__law_loss.a T.d__law_loss.fd ["_law_position", "_law_move"] (zjG K):=by
 refine T.d__law_loss.F.okN zgz (fun vs H Q E h=>?_) (fun cdv A outer s H vs Q E hr h=>?_)
 ·obtain⟨p,l,k,f,g,m,rfl,_⟩:=h;rfl
 obtain⟨p,l,k,f,g,m,rfl,hp,hl,hf,hg,hm,hk,q⟩:=h
 have hvl:((vec k g).map V.int).length=k:=by rw[ya,zO]
 refine⟨_,(zf (zH (zr zaX zc (zt (show CallR _ _ (zes K)from zc0 rfl) rfl T.z_sum BT.sum (za (zbt rfl (zaZ rfl T.z_range (za (zt (show CallR _ _ (zam K)from zN) rfl T.z_len BT.len (za (pv 1) zb)) zb)) (zS (Ni:=["_law_k", "_law_position", "_law_move"]) (caps:=[none,some 0,some 1]) (by rfl)) (fun S _ _ _ _ _=>(z8 (gi:=0) S (Or.inl rfl) rfl)) (fun _ _ _ _ _=>zaM) (fun _ _ _ _ _=>(zr zaO (zj (show IxR _ (rIx K)from zh) (pv 1) (pv 0) (fun _ _=>rfl)) (zj (show IxR _ (rIx K)from zh) (pv 2) (pv 0) (fun _ _=>rfl))))) zb))))),?_⟩
 refine zF (σ0:=[some (.ref p),some (.ref l)]) rfl ?_
 walk_at "x"
 rw[hvl,yy]
 refine zaw (zc1 (lo:=0) (n:=k)) (fun _ _=>trivial) rfl (fun i vs _=>vs=(vec i fun j=>f j*g j).map V.int) (fun H' _=>rfl) ?_ ?_
 ·rintro i x D vs o H2 H3 hi hD e2 hv hvl' rfl e3 rfl
  obtain⟨f0,f1⟩:=hf i hi
  obtain⟨g0,g1⟩:=hg i hi
  rw[show((0:Int)+(i:Int))=(i:Int) by omega]
  have e23:=e2.trans e3
  have hp3:=e23.at hp
  have hl3:=e23.at hl
  have hv3:=e3.at hv
  have hat1:atI ((vec k f).map V.int) (i:Int)=some (.int (f i)):=zcA (by rw[yh,zbf hi];rfl)
  have hat2:atI ((vec k g).map V.int) (i:Int)=some (.int (g i)):=zcA (by rw[yh,zbf hi];rfl)
  have sf:sz (f (i:Int).toNat)<=200:=by rw[yy];exact sz200 (by omega) (by omega)
  have sg:sz (g (i:Int).toNat)<=200:=by rw[yy];exact sz200 (by omega) (by omega)
  walk_at "x"
  rename_i H4 b4 h4
  refine⟨⟨_,rfl⟩,b4.same e23 hD,_,h4,by rw[yl];exact yc hvl',?_⟩
  dsimp only
  rw[zaF,yx,yy];rfl
 rintro D H2 vs hD e2 hv hvl' rfl
 walk_at "x"
 rw[zgs]
 exact q H2 e2
theorem zfQ(T:Txt K mg):FnOk P w K mg base (CXF P w) 3 T.d__law_moves.a T.d__law_moves.fd ["_law_script", "_law_start", "_law_days", "_law_wares"] (zjp K):=by
 refine T.d__law_moves.F.okN sc__law_moves (fun vs H Q E h=>?_) (fun cdv A outer s H vs Q E hr h=>?_)
 ·obtain⟨a,ns,st,n,k,rfl,_⟩:=h;rfl
 obtain⟨a,ns,st,n,k,rfl,hS,s0,s1,n0,n1,k0,k1,q⟩:=h
 refine⟨_,(zd (zB (i:=4) sc__law_moves.nd rfl (Or.inl rfl) (zax zb))
 (zd (zbw PassesOwn.never rfl (zaZ rfl T.z_range (za (pv 2) zb)) (zay (i:=5) sc__law_moves.nd rfl (Or.inl rfl))
 (zd (zB (i:=6) sc__law_moves.nd rfl (Or.inl rfl) (zax zb))
 (zd (zbw PassesOwn.never rfl (zaZ rfl T.z_range (za (pv 3) zb)) (zay (i:=7) sc__law_moves.nd rfl (Or.inl rfl))
 (zd (zB (i:=8) sc__law_moves.nd rfl (Or.inl rfl) (zr (show OpR _ (binaryOp .Add) (zJ K)from zC) (zr (show OpR _ (binaryOp .Add) (zJ K)from zC) (pv 1) (zr zaO zc (pv 5))) (pv 7)))
 (zd (zR (show PE _ _ (tBM K _ _ _ _)from zcm yC yF yG zaW (pv 6) (za (zr zaX (zp (zE (base:=base) T) (hr.mono (by decide)) rfl T.d__law_draw.m T.d__law_draw.F.kp T.d__law_draw.b .nil (zy zw) (za (pv 0) (za (pv 8) (za zc zb)))) zc) zb)))
 (zf (zI (PW.pt (zf8 (zo (show OpR _ (compareOp .Eq) (z3 K)from zV hr.units) (zp (zE (base:=base) T) (hr.mono (by decide)) rfl T.d__law_draw.m T.d__law_draw.F.kp T.d__law_draw.b .nil (zy zw) (za (pv 0) (za zc (za zc zb)))) zc (nomark _)) (zfk (zo (show OpR _ (compareOp .Eq) (z3 K)from zV hr.units) (zp (zE (base:=base) T) (hr.mono (by decide)) rfl T.d__law_draw.m T.d__law_draw.F.kp T.d__law_draw.b .nil (zy zw) (za (pv 0) (za (zr (show OpR _ (binaryOp .Add) (zJ K)from zC) (pv 8) zc) (za zc zb)))) zc (nomark _)))))
 (zf (zbJ (zr zaX (zp (zbO (base:=base) T) (hr.mono (by decide)) rfl T.d__law_great.m T.d__law_great.F.kp T.d__law_great.b .nil (zy zw) (za (pv 0) (za (pv 8) (za zc zb)))) zc) (zbK (pv 6) (pv 7) zY)))
 zu)))))
 (zf (zR (show PE _ _ (tBM K _ _ _ _)from zcm yC yF yG zaW (pv 4) (za (pv 6) zb)))))))
 (zf (zH (pv 4))))),?_⟩
 refine zF (σ0:=[some (.ref a),some (.int st),some (.int n),some (.int k),none,none,none,none,none]) rfl ?_
 walk_at "x"
 rename_i l H1 fl e1 hl
 refine zdb (fun i σ' H'=>∃(f5 f6 f7 f8:Option V) (as:List Addr) (F:Nat->Nat->Int),σ'=[some (.ref a),some (.int st),some (.int n),some (.int k),some (.ref l),f5,f6,f7,f8]/\H' l=some (.lst (as.map V.ref))/\as.length=i/\Rows H' as k.toNat F/\WithinR 1000000 i k.toNat F/\(∀b∈as,H b=none)/\Same H H') ⟨_,_,_,_,[],fun _ _=>0,rfl,hl,rfl,⟨yP,fun i a h=>nomatch h⟩,(fun i h=>absurd h (by omega)),(fun _ h=>nomatch h),e1⟩ ?_ ?_
 ·rintro i σ' H2 hi ⟨f5,f6,f7,f8,as,F,rfl,hl2,hal,hR,hW,hF,e2⟩
  have hin:(i:Int)<n:=by omega
  rw[show((0:Int)+(i:Int))=(i:Int) by omega]
  have hla:l∉as:=hR.ne (by omega) hl2
  subst hal
  walk_at "x"
  rename_i r H3 fr e3 hr3
  have hSq2:SqL K H2 a (ns.map V.int):=hS.keep e2
  refine zdb (fun j σ' H'=>∃(f7 f8:Option V) (f:Nat->Int),σ'=[some (.ref a),some (.int st),some (.int n),some (.int k),some (.ref l),some (.int (as.length:Int)),some (.ref r),f7,f8]/\H' r=some (.lst ((vec j f).map V.int))/\Internal.Within 1000000 j f/\Same H2 H') ⟨_,_,fun _=>0,rfl,hr3,(fun j h=>absurd h (by omega)),e3⟩ ?_ ?_
  ·rintro j σ' H4 hj ⟨g7,g8,f,rfl,hr4,hf,e4⟩
   rw[show((0:Int)+(j:Int))=(j:Int) by omega]
   have hjk:(j:Int)<k:=by omega
   have hSq4:SqL K H4 a (ns.map V.int):=hSq2.keep e4
   have hvl:((vec j f).map V.int).length<=1000:=by rw[ya,zO];omega
   walk_at "x"
   rename_i x x0 x1 H5 b5 h5
   have e5:=b5.same e4 fr
   have hSq5:SqL K H5 a (ns.map V.int):=hSq2.keep e5
   rw[zgm]at h5
   have hf5:Internal.Within 1000000 (j+1) (fun i=>if i=j then x-9 else f i):=hf.more (by omega) (by omega)
   walk_at "x"
   ·rename_i H6 b6 h6
    refine⟨_,_,_,rfl,h6,fun t ht=>?_,b6.same e5 fr⟩
    have ht5:=hf5 t ht
    dsimp only at ht5 ⊢
    by_cases g:t=(j:Int).toNat
    ·rw[if_pos g];omega
    ·rw[if_neg g];exact ht5
   ·exact⟨_,_,_,rfl,h5,hf5,e5⟩
   ·exact⟨_,_,_,rfl,h5,hf5,e5⟩
  ·rintro σ' H4 ⟨g7,g8,f,rfl,hr4,hf,e4⟩
   have hl4:=e4.at hl2
   have hR4:=hR.same e4
   have hrl:r≠l:=zcy fr hl2
   have hmap:(as.map V.ref).length<=1000:=by rw[ya];omega
   walk_at "x"
   rename_i H5 b5 h5
   refine⟨_,_,_,_,as++[r],fun t=>if t=as.length then f else F t,rfl,by rw[yx];exact h5,by rw[yl];rfl,Rows.snoc (hR4.but b5 hla) (hR.fresh fr) (b5.lst hr4 hrl),hW.snoc hf,fun b hb=>?_,b5.same (e2.trans e4) fl⟩
   rcases yv.mp hb with h | h
   ·exact hF b h
   ·rw[yu.mp h];exact Same.none fr e2
 ·rintro σ' H2 ⟨f5,f6,f7,f8,as,F,rfl,hl2,hal,hR,hW,hF,e2⟩
  walk_at "x"
  exact q _ _ _ _ fl e2 hl2 hal hR hW hF
theorem zcY(T:Txt K mg):FnOk P w K mg base (CXF P w) 2 T.d__law_need.a T.d__law_need.fd ["_law_position", "_law_rule", "_law_moves_here"] (zkx K):=by
 refine T.d__law_need.F.okN sc__law_need (fun vs H Q E h=>?_) (fun cdv A outer s H vs Q E hr h=>?_)
 ·obtain⟨p,ru,l,w,c,as,k,f,F,m,rfl,_⟩:=h;rfl
 obtain⟨p,ru,l,w,c,as,k,f,F,m,rfl,hp,hru,hl,hR,hf,hW,hm,hk,hn,hO,q⟩:=h
 obtain⟨hw,c0,c1⟩:=hO
 have hal:(as.map V.ref).length=as.length:=ya ..
 refine⟨_,(zd (zB (i:=3) sc__law_need.nd rfl (Or.inl rfl) (zgU (by rfl) T.z_sorted BT.sorted (za (zbt rfl (show PI _ _ _ (zbc K _)from zaz (pv 2)) (zS (Ni:=["_law_move", "_law_position"]) (caps:=[none,some 0]) (by rfl)) (fun S _ _ _ _ _=>(z8 (gi:=0) S (Or.inl rfl) rfl)) (fun _ _ _ _ _=>zaM) (fun _ _ _ _ _=>(zp (zgj (base:=base) T) (hr.mono (by decide)) rfl T.d__law_loss.m T.d__law_loss.F.kp T.d__law_loss.b .nil (zy zw) (za (pv 1) (za (pv 0) zb))))) zb)))
 (zd (zI (zo (show OpR _ (compareOp .Eq) (z3 K)from zV hr.units) (zj (show IxR _ (rIx K)from zh) (pv 1) zc (fun _ _=>rfl)) zA (nomark _))
 (zf (zH (zad (za (zt (zcJ rfl) rfl T.z_max BT.max (za zc (za (zj (show IxR _ (rIx K)from zh) (pv 3) (zr zaX (zj (show IxR _ (rIx K)from zh) (pv 1) zc (fun _ _=>rfl)) zc) (fun _ _=>rfl)) zb))) (za zc zb)))))
 zu)
 (zf (zH (zad (za (zt (zcJ rfl) rfl T.z_max BT.max (za zc (za (zt (show CallR _ _ (zes K)from zc0 rfl) rfl T.z_sum BT.sum (za (zbU (show SlR _ (zcU K)from zcD) (pv 3) zck (zci (zj (show IxR _ (rIx K)from zh) (pv 1) zc (fun _ _=>rfl)))) zb)) zb))) (za (zj (show IxR _ (rIx K)from zh) (pv 1) zc (fun _ _=>rfl)) zb))))))),?_⟩
 refine zF (σ0:=[some (.ref p),some (.ref ru),some (.ref l),none]) rfl ?_
 walk_at "x"
 refine zaw (zbn (K:=K) (a:=l) (xs:=as.map V.ref)) (fun H' e=>SqL.of (e.at hl)) rfl (fun i vs _=>vs=(vec i fun i=>zaq k f (F i)).map V.int) (fun H' _=>rfl) ?_ ?_
 ·rintro i x D vs o H2 H3 hi hD e2 hv hvl rfl e3 hx
  rw[ya]at hi
  obtain⟨c',hc'⟩:=zQ hi
  have ex:x=.ref c':=by rw[yh,hc']at hx;exact(yo hx).symm
  subst ex
  have hrow:=e3.at (e2.at (hR.2 _ _ hc'))
  have hp3:=e3.at (e2.at hp)
  have hv3:=e3.at hv
  walk_at "x"
  refine⟨p,c',k,f,F i,m,rfl,hp3,hrow,hf,hW i hi,hm,by omega,fun H4 e4=>?_⟩
  have hv4:=e4.at hv3
  walk_at "x"
  rename_i H5 b5 h5
  refine⟨⟨_,rfl⟩,b5.same (e2.trans (e3.trans e4)) hD,_,h5,by rw[yl];exact yc hvl,?_⟩
  dsimp only
  rw[zaF,yx];rfl
 rintro D H2 vs hD e2 hv hvl rfl
 rw[hal]at hv
 have hB:∀i,i<as.length->zaq k f (F i)<=9000000000000000000000000:=fun i hi=>by
  have h1:=(zeh hm hf (hW i hi)).2
  have h2:=yK (show(k:Int)<=9 by omega) (show(0:Int)<=1000000000000000000000000 by decide)
  omega
 walk_at "x"
 refine zP ?_
 refine zlI (.of hv) (by rw[zO];omega) fun l2 ms H3 fl2 e3 hmp hms hl2=>?_
 have hml:ms.length=as.length:=by have:=hmp.length_eq;rwa [zO]at this
 have hru3:=e3.at (e2.at hru)
 have e23:=e2.trans e3
 rcases hw with rfl | rfl
 ·obtain⟨x,hx⟩:=zQ (show(c-1).toNat<ms.length by omega)
  have hat:atI (ms.map V.int) (c-1)=some (.int x):=zaY (by omega) (by rw[yh,hx];rfl)
  have r1:("worst" : Str) = "worst" := rfl
  walk_at "x"
  refine zan (by first | decide | simp) fun r H4 fr e4 hr4=>?_
  exact q r H4 _ _ (Same.none fr e23) (e23.trans e4) hr4 (zh3 (by omega) hmp hms c0 c1 hx hB)
 ·have n1:¬("mean" : Str) = "worst" := by decide +kernel
  walk_at "x"
  rename_i l3 H4 fl3 e4 hl3
  rw[show c=((c.toNat:Nat):Int) by omega,zfr]at hl3
  walk_at "x"
  refine zan (by first | decide | simp) fun r H5 fr e5 hr5=>?_
  exact q r H5 _ _ (Same.none fr (e23.trans e4)) (e23.trans (e4.trans e5)) hr5 (ziA (by omega) hmp hms c0 c1 hB)
theorem zb5(T:Txt K mg):FnOk P w K mg base (CXF P w) 1 T.d__law_positions.a T.d__law_positions.fd ["_law_rows", "_law_many", "_law_wares"] zlE:=by
 refine T.d__law_positions.F.okN sc__law_positions (fun vs H Q E h=>?_) (fun cdv A outer s H vs Q E hr h=>?_)
 ·obtain⟨ro,n,k,us,as,rfl,_⟩:=h;rfl
 obtain⟨ro,n,k,us,as,rfl,hro,hR,hk,n0,n1,k0,k1,hl,q⟩:=h
 refine⟨_,(zd (zcQ (i:=3) sc__law_positions.nd rfl rfl rfl (zaZ rfl T.z_range (za (pv 1) zb)) (zS (Ni:=["_law_k", "_law_wares"]) (caps:=[none,some 2]) (by rfl)) (fun S _ _ _ _ _=>(z8 (gi:=0) S (Or.inl rfl) rfl)) (fun _ _ _ _ _=>zaM) (fun _ _ _ _ _=>(zbt rfl (zaZ rfl T.z_range (za (pv 1) zb)) (zS (Ni:=["_law_ware"]) (caps:=[none]) (by rfl)) (fun S _ _ _ _ _=>(z8 (gi:=0) S (Or.inl rfl) rfl)) (fun _ _ _ _ _=>zaM) (fun _ _ _ _ _=>zc))))
 (zd (zbw PassesOwn.never rfl (show PI _ _ _ (zbc K _)from zaz (pv 0)) (zay (i:=4) sc__law_positions.nd rfl (Or.inl rfl))
 (zf (zI (zo (show OpR _ (compareOp .Eq) (z3 K)from zV hr.units) (zj (show IxR _ (rIx K)from zh) (pv 4) zc (fun _ _=>rfl)) zA (nomark _))
 (zd (zB (i:=5) sc__law_positions.nd rfl (Or.inl rfl) (zj (show IxR _ (rIx K)from zh) (pv 3) (zj (show IxR _ (rIx K)from zh) (pv 4) zc (fun _ _=>rfl)) (fun _ _=>rfl)))
 (zd (zB (i:=6) sc__law_positions.nd rfl (Or.inl rfl) (zj (show IxR _ (rIx K)from zh) (pv 3) (zj (show IxR _ (rIx K)from zh) (pv 4) zc (fun _ _=>rfl)) (fun _ _=>rfl)))
 (zd (zbJ (zr (show OpR _ (binaryOp .Add) (zJ K)from zC) (zj (show IxR _ (rIx K)from zh) (pv 5) (zj (show IxR _ (rIx K)from zh) (pv 4) zc (fun _ _=>rfl)) (fun _ _=>rfl)) (zj (show IxR _ (rIx K)from zh) (pv 4) zc (fun _ _=>rfl))) (zbK (pv 5) (zj (show IxR _ (rIx K)from zh) (pv 4) zc (fun _ _=>rfl)) zY))
 (zf (zbJ (zr zaX (zj (show IxR _ (rIx K)from zh) (pv 6) (zj (show IxR _ (rIx K)from zh) (pv 4) zc (fun _ _=>rfl)) (fun _ _=>rfl)) (zj (show IxR _ (rIx K)from zh) (pv 4) zc (fun _ _=>rfl))) (zbK (pv 6) (zj (show IxR _ (rIx K)from zh) (pv 4) zc (fun _ _=>rfl)) zY))))))
 zu)))
 (zf (zH (pv 3))))),?_⟩
 refine zF (σ0:=[some (.ref ro),some (.int n),some (.int k),none,none,none,none]) rfl ?_
 walk_at "x"
 refine zaw (zc1 (lo:=0) (n:=n.toNat)) (fun _ _=>trivial) rfl (fun i vs H'=>∃bs:List Addr,vs=bs.map V.ref/\bs.length=i/\Rows H' bs k.toNat (fun _ _=>0)/\∀b∈bs,H b=none) (fun H' _=>⟨[],rfl,rfl,⟨yP,fun i a h=>nomatch h⟩,fun b hb=>nomatch hb⟩) ?_ ?_
 ·rintro i x D vs o H4 H5 hi hD e4 hv hvl ⟨bs,rfl,hbl,hRb,hfb⟩ e5 rfl
  have hcs:(bs.map V.ref).length<=1000:=by rw[ya];omega
  have hv5:=e5.at hv
  walk_at "x"
  rename_i p H6 fp e6 hp H7 b7 h7
  have hD':D∉bs:=hRb.ne (by omega) hv
  have hpD:p≠D:=zcy fp hv5
  subst hbl
  refine⟨⟨_,rfl⟩,by walk_at "h",_,h7,by rw[yl];exact yc hvl,bs++[p],by rw[yx];rfl,by rw[yl];rfl,Rows.app ((hRb.same (e5.trans e6)).but b7 hD') ((hRb.same e5).fresh fp) (b7.lst hp hpD),fun b hb=>?_⟩
  rcases yv.mp hb with hb | hb
  ·exact hfb b hb
  ·rw[yu.mp hb];exact Same.none fp (e4.trans e5)
 rintro r H2 vs fr e2 hr2 _ ⟨bs,rfl,hbl,hRb,hfb⟩
 have hrb:r∉bs:=hRb.ne (by omega) hr2
 have hal:=hR.2.1
 walk_at "x"
 refine zdP (xs:=as.map V.ref) (fun i σ' H'=>∃f4 f5 f6:Option V,σ'=[some (.ref ro),some (.int n),some (.int k),some (.ref r),f4,f5,f6]/\Same H H'/\H' r=some (.lst (bs.map V.ref))/\Rows H' bs k.toNat (fun m=>zaf (us.take i) (m:Int))) ⟨_,_,_,rfl,e2,hr2,hRb.congr fun _ _ _ _=>rfl⟩ ?_ ?_ ?_
 ·rintro i σ' H' _ ⟨_,_,_,_,e,_⟩;exact SqL.of (e.at hro)
 ·rintro i x σ' H3 hx ⟨f4,f5,f6,rfl,e3,hr3,hR3⟩
  have hi:i<as.length:=by have:=(ym.mp hx).1;rwa [ya]at this
  obtain⟨c,hc⟩:=zQ hi
  obtain⟨t,ht⟩:=zQ (show i<us.length by omega)
  have ex:x=.ref c:=by rw[yh,hc]at hx;exact(yo hx).symm
  subst ex
  have hT:=hk t (yq ht)
  obtain⟨p0,p1,q0,q1,pq,w0,w1,_⟩:=hT
  have hrow:H3 c=some (.lst [.int t.1.p,.int t.1.q,.int t.1.w,.int t.1.u,.int t.1.a,.int t.1.y,.int t.1.r,.str t.2]):=e3.at (hR.2.2 i c t hc ht)
  obtain⟨bp,hbp⟩:=zQ (show t.1.p.toNat<bs.length by omega)
  obtain⟨bq,hbq⟩:=zQ (show t.1.q.toNat<bs.length by omega)
  have hat1:atI (bs.map V.ref) t.1.p=some (.ref bp):=zaY p0 (by rw[yh,hbp];rfl)
  have hat2:atI (bs.map V.ref) t.1.q=some (.ref bq):=zaY q0 (by rw[yh,hbq];rfl)
  have hp3:=hR3.2 _ _ hbp
  have hq3:=hR3.2 _ _ hbq
  have hne:bp≠bq:=fun z=>pq (by have:=zc2 hR3.1 hbp (z▸hbq);omega)
  have hne2:bq≠bp:=hne.symm
  have hcH:=hR.2.2 i c t hc ht
  have ncp:c≠bp:=zG hcH (hfb bp (yq hbp))
  have ncq:c≠bq:=zG hcH (hfb bq (yq hbq))
  have nrp:r≠bp:=fun z=>hrb (z▸yq hbp)
  have nrq:r≠bq:=fun z=>hrb (z▸yq hbq)
  have fbp:=hfb bp (yq hbp)
  have fbq:=hfb bq (yq hbq)
  walk_at "x"
  ·rename_i hs H4 b4 h4 H5 b5 h5
   refine⟨_,_,_,rfl,b5.same (b4.same e3 fbp) fbq,b5.lst (b4.lst hr3 nrp) nrq,((hR3.set b4 hbp h4).set b5 hbq h5).congr fun m hm j hj=>?_⟩
   dsimp only
   rw[zdu ht]
   by_cases m1:m=t.1.q.toNat
   ·rw[if_pos m1,m1,show((t.1.q.toNat:Nat):Int)=t.1.q by omega,zin hs w0 pq]
    split
    ·rename_i z;rw[z];omega
    ·omega
   ·rw[if_neg m1]
    by_cases m2:m=t.1.p.toNat
    ·rw[if_pos m2,m2,show((t.1.p.toNat:Nat):Int)=t.1.p by omega,zju hs w0]
     split
     ·rename_i z;rw[z]
     ·omega
    ·rw[if_neg m2,zno (by omega) (by omega)];omega
  ·rename_i hs
   refine⟨_,_,_,rfl,e3,hr3,hR3.congr fun m hm j hj=>?_⟩
   rw[zdu ht,zm8 hs];omega
 ·rintro σ' H3 ⟨f4,f5,f6,rfl,e3,hr3,hR3⟩
  walk_at "x"
  rw[ya,hal,yaw]at hR3
  exact q r H3 bs fr e3 hr3 hbl hR3 hfb
theorem zeY(T:Txt K mg):FnOk P w K mg base (CXF P w) 1 T.d__law_part_is.a T.d__law_part_is.fd ["_law_told", "_law_due"] zhy:=by
 refine T.d__law_part_is.F.okN sc__law_part_is (fun vs H Q E h=>?_) (fun cdv A outer s H vs Q E hr h=>?_)
 ·obtain⟨r,t,q,a,b,rfl,_⟩:=h;rfl
 obtain⟨r,t,q,a,b,rfl,hr0,ht,hz,a0,a1,b0,b1,hq,k⟩:=h
 have hdp:=zha q
 have bn:((b:Int):Rat)≠0:=fun z=>by
  have:b=0:=by exact_mod_cast z
  omega
 have hc:q*((b:Int):Rat)=((a:Int):Rat):=by rw[hq,yah];exact yat bn
 have q0:0<=q.num:=by
  rw[Rat.num_nonneg]
  exact Rat.not_lt.mp fun z=>by
   have h1:=yaJ z (show(0:Rat)<((b:Int):Rat) by exact_mod_cast b0)
   rw[hc,Rat.zero_mul]at h1
   have:a<0:=by exact_mod_cast h1
   omega
 have hx:q.num*b=a*(q.den:Int):=by
  have h1:((q.num*b:Int):Rat)=((a*(q.den:Int):Int):Rat):=by
   rw[Rat.intCast_mul,Rat.intCast_mul,zmM q,<- hc];grind
  exact_mod_cast h1
 have hg:My.gc (q.den:Int) q.num=1:=by
  have:=zlP q
  rw[if_neg (by omega),My.gc_comm]at this
  exact this
 have m1:CMulS q.num b:=CMulS.of hz.1 (zb3 (n:=20) (by omega)) (by decide)
 have m2:CMulS a (q.den:Int):=CMulS.of (sz200 (by omega) (by omega)) hz.2 (by decide)
 refine⟨_,(zd (zI (PW.pt (zap (zcW (show PT _ _ (zbN K _)from zZ (zt (show CallR _ _ (zaU K)from zaH) rfl T.z_isinstance BT.isinstance (za (pv 0) (za (zdc (v:=.ty "tuple") rfl T.z_tuple BT.tuple rfl) zb))) (fun _=>rfl))) (zaj (zo (show OpR _ (compareOp .NotEq) (zb6 K)from zcs hr.units) (zt (show CallR _ _ (zam K)from zN) rfl T.z_len BT.len (za (pv 0) zb)) zc (nomark _)))))
 (zf (zH zbS))
 zu)
 (zd (zbw PassesOwn.never rfl (show PI _ _ _ (zhW K _)from zi4 (pv 0)) (zay (i:=2) sc__law_part_is.nd rfl (Or.inl rfl))
 (zf (zI (PW.pt (zap (zcW (show PT _ _ (zbN K _)from zZ (zt (show CallR _ _ (zaU K)from zaH) rfl T.z_isinstance BT.isinstance (za (pv 2) (za (zdc (v:=.ty "int") rfl T.z_int BT.int rfl) zb))) (fun _=>rfl))) (zaj (show PT _ _ (zbN K _)from zZ (zt (show CallR _ _ (zaU K)from zaH) rfl T.z_isinstance BT.isinstance (za (pv 2) (za (zdc (v:=.ty "bool") rfl T.z_bool BT.bool rfl) zb))) (fun _=>rfl)))))
 (zf (zH zbS))
 zu)))
 (zd (zI (PW.pt (zap (zo zaL (zj (show IxR _ (rIx K)from zh) (pv 0) zc (fun _ _=>rfl)) zc (nomark _)) (zap (zo zaL (zj (show IxR _ (rIx K)from zh) (pv 0) zc (fun _ _=>rfl)) zc (nomark _)) (zaj (zo (show OpR _ (compareOp .NotEq) (zb6 K)from zcs hr.units) (zr zaO (zj (show IxR _ (rIx K)from zh) (pv 0) zc (fun _ _=>rfl)) (zj (show IxR _ (rIx K)from zh) (pv 1) zc (fun _ _=>rfl))) (zr zaO (zj (show IxR _ (rIx K)from zh) (pv 1) zc (fun _ _=>rfl)) (zj (show IxR _ (rIx K)from zh) (pv 0) zc (fun _ _=>rfl))) (nomark _))))))
 (zf (zH zbS))
 zu)
 (zd (zB (i:=3) sc__law_part_is.nd rfl (Or.inl rfl) (zj (show IxR _ (rIx K)from zh) (pv 0) zc (fun _ _=>rfl)))
 (zd (zB (i:=4) sc__law_part_is.nd rfl (Or.inl rfl) (zj (show IxR _ (rIx K)from zh) (pv 0) zc (fun _ _=>rfl)))
 (zd (zgf PassesOwn.never (zo zb9 (pv 3) zc (nomark _))
 (zd (zB (i:=5) sc__law_part_is.nd rfl (Or.inl rfl) (zr zbY (pv 4) (pv 3)))
 (zd (zB (i:=4) sc__law_part_is.nd rfl (Or.inl rfl) (pv 3))
 (zf (zB (i:=3) sc__law_part_is.nd rfl (Or.inl rfl) (pv 5))))))
 (zf (zH (zbZ (show OpR _ (compareOp .Eq) (z3 K)from zV hr.units) (pv 4) zc (nomark _)))))))))),?_⟩
 refine zF (σ0:=[some (.ref r),some (.ref t),none,none,none,none]) rfl ?_
 have e2:(2:Int)=2:=rfl
 walk_at "x"
 refine zje (SqT.of hr0) ?_
 refine zgk (zhq (K:=K) (a:=r) (xs:=[.int q.num,.int (q.den:Int)])) (fun j σ' H'=>∃f2:Option V,σ'=[some (.ref r),some (.ref t),f2,none,none,none]/\Same H H') ⟨_,rfl,Same.refl _⟩ ?_ ?_ ?_
 ·rintro j σ' H' ⟨_,_,e⟩;exact SqT.of (e.at hr0)
 ·rintro j x σ' H1 H2 hj ⟨f2,rfl,e⟩ e' hx
  obtain⟨v,rfl⟩:∃v,x=.int v:=by
   have hj':j<2:=hj
   obtain rfl | rfl:j=0\/j=1:=by omega
   ·exact⟨_,(yo hx).symm⟩
   ·exact⟨_,(yo hx).symm⟩
  walk_at "x"
  exact⟨_,rfl,e.trans e'⟩
 ·rintro σ' H1 ⟨f2,rfl,e⟩
  have hr1:IsQ H1 r q:=e.at hr0
  have ht1:=e.at ht
  walk_at "x"
  all_goals first | (exfalso;omega) | skip
  refine⟨fun m σ H'=>∃(x y:Int) (f:Option V),σ=[some (.ref r),some (.ref t),f2,some (.int x),some (.int y),f]/\H'=H1/\0<=x/\0<=y/\My.gc y x=1/\m=x.toNat,⟨_,_,_,_,rfl,rfl,q0,by omega,hg,rfl⟩,?_⟩
  rintro m σ H' ⟨x,y,f,rfl,rfl,hx0,hy0,hg',rfl⟩
  walk_at "x"
  ·rename_i hne
   refine⟨fun σ' H''=>σ'=[some (.ref r),some (.ref t),f2,some (.int (y%x)),some (.int x),some (.int (y%x))]/\H''=H',?_,?_⟩
   ·rintro σ' H'' ⟨rfl,rfl⟩
    have h1:=yR y (b:=x) (by omega)
    have h2:=yL y (b:=x) (by omega)
    exact⟨_,by omega,_,_,_,rfl,rfl,h1,hx0,by rw[My.gc_step];exact hg',rfl⟩
   ·walk_at "x"
    exact⟨rfl,rfl⟩
  ·rename_i he
   rw[show x=0 by omega,My.gc_zero_right hy0]at hg'
   rw[hg']
   exact k _ e
theorem zf7(T:Txt K mg):FnOkH P w K mg base 1 T.d__law_name.a T.d__law_name.fd ["_law_e"] (zjM T.c_NoMember T.c_NoTerms T.c_Bare T.c_NoDeal):=by
 refine T.d__law_name.F.okH sc__law_name (fun vs H Q E h=>?_) (fun cdv A outer s H vs Q E hr h=>?_)
 ·obtain⟨er,A,n,rfl,_⟩:=h;rfl
 obtain⟨er,A,n,rfl,he,hC,k⟩:=h
 have hn:1<=n/\n<=4:=by omega
 have i1:PySem.W.kitOne K (.ref A) (.ref T.c_NoMember)=some (decide (n=1)):=by
  rcases hC with⟨rfl,rfl⟩ | ⟨rfl,rfl⟩ | ⟨rfl,rfl⟩ | ⟨rfl,rfl⟩
  ·exact T.i_NoMember_NoMember
  ·exact T.i_NoTerms_NoMember
  ·exact T.i_Bare_NoMember
  ·exact T.i_NoDeal_NoMember
 have i2:PySem.W.kitOne K (.ref A) (.ref T.c_NoTerms)=some (decide (n=2)):=by
  rcases hC with⟨rfl,rfl⟩ | ⟨rfl,rfl⟩ | ⟨rfl,rfl⟩ | ⟨rfl,rfl⟩
  ·exact T.i_NoMember_NoTerms
  ·exact T.i_NoTerms_NoTerms
  ·exact T.i_Bare_NoTerms
  ·exact T.i_NoDeal_NoTerms
 have i3:PySem.W.kitOne K (.ref A) (.ref T.c_Bare)=some (decide (n=3)):=by
  rcases hC with⟨rfl,rfl⟩ | ⟨rfl,rfl⟩ | ⟨rfl,rfl⟩ | ⟨rfl,rfl⟩
  ·exact T.i_NoMember_Bare
  ·exact T.i_NoTerms_Bare
  ·exact T.i_Bare_Bare
  ·exact T.i_NoDeal_Bare
 have i4:PySem.W.kitOne K (.ref A) (.ref T.c_NoDeal)=some (decide (n=4)):=by
  rcases hC with⟨rfl,rfl⟩ | ⟨rfl,rfl⟩ | ⟨rfl,rfl⟩ | ⟨rfl,rfl⟩
  ·exact T.i_NoMember_NoDeal
  ·exact T.i_NoTerms_NoDeal
  ·exact T.i_Bare_NoDeal
  ·exact T.i_NoDeal_NoDeal
 have o1:PySem.W.kitOne K (.ref A) (.ref T.c_Out)=some false:=by
  rcases hC with⟨rfl,rfl⟩ | ⟨rfl,rfl⟩ | ⟨rfl,rfl⟩ | ⟨rfl,rfl⟩
  ·exact T.i_NoMember_Out
  ·exact T.i_NoTerms_Out
  ·exact T.i_Bare_Out
  ·exact T.i_NoDeal_Out
 have o2:PySem.W.kitOne K (.ref A) (.ref T.c_Poor)=some false:=by
  rcases hC with⟨rfl,rfl⟩ | ⟨rfl,rfl⟩ | ⟨rfl,rfl⟩ | ⟨rfl,rfl⟩
  ·exact T.i_NoMember_Poor
  ·exact T.i_NoTerms_Poor
  ·exact T.i_Bare_Poor
  ·exact T.i_NoDeal_Poor
 have o3:PySem.W.kitOne K (.ref A) (.ref T.c_Closed)=some false:=by
  rcases hC with⟨rfl,rfl⟩ | ⟨rfl,rfl⟩ | ⟨rfl,rfl⟩ | ⟨rfl,rfl⟩
  ·exact T.i_NoMember_Closed
  ·exact T.i_NoTerms_Closed
  ·exact T.i_Bare_Closed
  ·exact T.i_NoDeal_Closed
 have iv:PySem.W.kitOne K (.ref A) (.type "ValueError")=some true:=by
  rcases hC with⟨rfl,rfl⟩ | ⟨rfl,rfl⟩ | ⟨rfl,rfl⟩ | ⟨rfl,rfl⟩
  ·exact T.i_NoMember_ValueError
  ·exact T.i_NoTerms_ValueError
  ·exact T.i_Bare_ValueError
  ·exact T.i_NoDeal_ValueError
 have ea:errOk K A=true:=by
  rcases hC with⟨rfl,rfl⟩ | ⟨rfl,rfl⟩ | ⟨rfl,rfl⟩ | ⟨rfl,rfl⟩
  ·exact T.e_NoMember
  ·exact T.e_NoTerms
  ·exact T.e_Bare
  ·exact T.e_NoDeal
 clear hC
 refine⟨_,(zd (zB (i:=1) sc__law_name.nd rfl (Or.inl rfl) (zax zb))
 (zaS (zI (show PT _ _ (zbN K _)from zZ (zt (show CallR _ _ (zaU K)from zaH) rfl T.z_isinstance BT.isinstance (za (pv 0) (za (z5 (v:=.ref T.c_NoMember) rfl T.m_NoMember rfl) zb))) (fun _=>rfl))
 (zf (zR (show PE _ _ (tBM K _ _ _ _)from zcm yC yF yG zaW (pv 1) (za zA zb))))
 zu)
 (zaS (zI (show PT _ _ (zbN K _)from zZ (zt (show CallR _ _ (zaU K)from zaH) rfl T.z_isinstance BT.isinstance (za (pv 0) (za (z5 (v:=.ref T.c_NoTerms) rfl T.m_NoTerms rfl) zb))) (fun _=>rfl))
 (zf (zR (show PE _ _ (tBM K _ _ _ _)from zcm yC yF yG zaW (pv 1) (za zA zb))))
 zu)
 (zaS (zI (show PT _ _ (zbN K _)from zZ (zt (show CallR _ _ (zaU K)from zaH) rfl T.z_isinstance BT.isinstance (za (pv 0) (za (z5 (v:=.ref T.c_Bare) rfl T.m_Bare rfl) zb))) (fun _=>rfl))
 (zf (zR (show PE _ _ (tBM K _ _ _ _)from zcm yC yF yG zaW (pv 1) (za zA zb))))
 zu)
 (zaS (zI (show PT _ _ (zbN K _)from zZ (zt (show CallR _ _ (zaU K)from zaH) rfl T.z_isinstance BT.isinstance (za (pv 0) (za (z5 (v:=.ref T.c_NoDeal) rfl T.m_NoDeal rfl) zb))) (fun _=>rfl))
 (zf (zR (show PE _ _ (tBM K _ _ _ _)from zcm yC yF yG zaW (pv 1) (za zA zb))))
 zu)
 (zaS (zI (PW.pt (zap (show PT _ _ (zbN K _)from zZ (zt (show CallR _ _ (zaU K)from zaH) rfl T.z_isinstance BT.isinstance (za (pv 0) (za (z5 (v:=.ref T.c_Out) rfl T.m_Out rfl) zb))) (fun _=>rfl)) (zap (show PT _ _ (zbN K _)from zZ (zt (show CallR _ _ (zaU K)from zaH) rfl T.z_isinstance BT.isinstance (za (pv 0) (za (z5 (v:=.ref T.c_Poor) rfl T.m_Poor rfl) zb))) (fun _=>rfl)) (zaj (show PT _ _ (zbN K _)from zZ (zt (show CallR _ _ (zaU K)from zaH) rfl T.z_isinstance BT.isinstance (za (pv 0) (za (z5 (v:=.ref T.c_Closed) rfl T.m_Closed rfl) zb))) (fun _=>rfl))))))
 (zf (zR (show PE _ _ (tBM K _ _ _ _)from zcm yC yF yG zaW (pv 1) (za zA zb))))
 zu)
 (zd (zI (PW.pt (zap (zo (show OpR _ (compareOp .NotEq) (zb6 K)from zcs hr.units) (zt (show CallR _ _ (zam K)from zN) rfl T.z_len BT.len (za (pv 1) zb)) zc (nomark _)) (zaj (zcW (show PT _ _ (zbN K _)from zZ (zt (show CallR _ _ (zaU K)from zaH) rfl T.z_isinstance BT.isinstance (za (pv 0) (za (zdc (v:=.ty "ValueError") rfl T.z_ValueError BT.ValueError rfl) zb))) (fun _=>rfl))))))
 (zf (zH zA))
 zu)
 (zf (zH (zj (show IxR _ (rIx K)from zh) (pv 1) zc (fun _ _=>rfl))))))))))),?_⟩
 refine zF (σ0:=[some (.ref er),none]) rfl ?_
 walk_at "x"
 rename_i fo H1 ffo e1 hfo
 refine zb0 (fun σ' H'=>σ'=[some (.ref er),some (.ref fo)]/\H' fo=some (.lst (if n<=1 then[V.str (word78 n)] else[]))/\Same H H') ?_ ?_
 ·walk_at "x"
  ·rename_i hz
   have hl:H1 fo=some (.lst []):=by first | exact hfo | (rw[hfo,if_neg (by omega)])
   refine zcq hl (by show 0<=100000;decide) fun Hn bn hn=>?_
   exact⟨rfl,by rw[hn,hz,if_pos (by omega)];rfl,bn.same e1 ffo⟩
  ·rename_i hz
   exact⟨rfl,by rw[hfo,if_neg (by omega)],e1⟩
 rintro σ' HG1 ⟨rfl,hg1,eg1⟩
 have he1:=eg1.at he
 refine zb0 (fun σ' H'=>σ'=[some (.ref er),some (.ref fo)]/\H' fo=some (.lst (if n<=2 then[V.str (word78 n)] else[]))/\Same H H') ?_ ?_
 ·walk_at "x"
  ·rename_i hz
   have hl:HG1 fo=some (.lst []):=by first | exact hg1 | (rw[hg1,if_neg (by omega)])
   refine zcq hl (by show 0<=100000;decide) fun Hn bn hn=>?_
   exact⟨rfl,by rw[hn,hz,if_pos (by omega)];rfl,bn.same eg1 ffo⟩
  ·rename_i hz
   exact⟨rfl,by rw[hg1];congr 2;exact ite_iff (by omega),eg1⟩
 rintro σ' HG2 ⟨rfl,hg2,eg2⟩
 have he2:=eg2.at he
 refine zb0 (fun σ' H'=>σ'=[some (.ref er),some (.ref fo)]/\H' fo=some (.lst (if n<=3 then[V.str (word78 n)] else[]))/\Same H H') ?_ ?_
 ·walk_at "x"
  ·rename_i hz
   have hl:HG2 fo=some (.lst []):=by first | exact hg2 | (rw[hg2,if_neg (by omega)])
   refine zcq hl (by show 0<=100000;decide) fun Hn bn hn=>?_
   exact⟨rfl,by rw[hn,hz,if_pos (by omega)];rfl,bn.same eg2 ffo⟩
  ·rename_i hz
   exact⟨rfl,by rw[hg2];congr 2;exact ite_iff (by omega),eg2⟩
 rintro σ' HG3 ⟨rfl,hg3,eg3⟩
 have he3:=eg3.at he
 refine zb0 (fun σ' H'=>σ'=[some (.ref er),some (.ref fo)]/\H' fo=some (.lst (if n<=4 then[V.str (word78 n)] else[]))/\Same H H') ?_ ?_
 ·walk_at "x"
  ·rename_i hz
   have hl:HG3 fo=some (.lst []):=by first | exact hg3 | (rw[hg3,if_neg (by omega)])
   refine zcq hl (by show 0<=100000;decide) fun Hn bn hn=>?_
   exact⟨rfl,by rw[hn,hz,if_pos (by omega)];rfl,bn.same eg3 ffo⟩
  ·rename_i hz
   exact⟨rfl,by rw[hg3];congr 2;exact ite_iff (by omega),eg3⟩
 rintro σ' HG4 ⟨rfl,hg4,eg4⟩
 have he4:=eg4.at he
 rw[if_pos hn.2]at hg4
 refine zb0 (fun σ' H'=>σ'=[some (.ref er),some (.ref fo)]/\H' fo=some (.lst [V.str (word78 n)])/\Same H H') ?_ ?_
 ·walk_at "x"
  exact⟨rfl,hg4,eg4⟩
 rintro σ' HG5 ⟨rfl,hg5,eg5⟩
 have he5:=eg5.at he
 walk_at "x"
 all_goals first | (rename_i h;exact absurd rfl h) | exact k _ eg5
theorem zgF(T:Txt K mg):FnOk P w K mg base (CXF P w) 6 T.d__law_done.a T.d__law_done.fd ["_law_house", "_law_deed_here"] (zbT K T.c_House T.c_Book lP lQ T.c_NoMember T.c_NoTerms T.c_Bare T.c_NoDeal):=by
 refine T.d__law_done.F.okX zf9 (fun vs H Q E h=>?_) (fun cdv A outer s H vs Q E hr h=>?_)
 ·obtain⟨H0,X,P,L,G,ts,us,as,zs,l,rfl,_⟩:=h;rfl
 obtain⟨H0,X,P,L,G,ts,us,as,zs,l,rfl,hW,hz,htl,hD⟩:=h
 obtain⟨dx,hh⟩:=hW.hc.ob
 obtain⟨⟨dxb,hbk⟩,xs,hd,hI⟩:=id hW.hn.bk
 have hxl:=hI.length
 have cl_House:=T.cl_House
 have r1:("deal" : Str) = "deal" := rfl
 have r2:("free" : Str) = "free" := rfl
 have e1:¬("free" : Str) = "deal" := by decide +kernel
 have e2:¬("strike" : Str) = "deal" := by decide +kernel
 have e3:¬("strike" : Str) = "free" := by decide +kernel
 refine⟨_,(zd (zI (zo (show OpR _ (compareOp .Eq) (z3 K)from zV hr.units) (zj (show IxR _ (rIx K)from zh) (pv 1) zc (fun _ _=>rfl)) zA (nomark _))
 (zf (zH (zU (pv 0) T.cl_House T.d_House_deal.mt (zdr (base:=base) T) (hr.mono (by decide)) T.d_House_deal.b .nil zX (za (zj (show IxR _ (rIx K)from zh) (pv 1) zc (fun _ _=>rfl)) zb))))
 zu)
 (zd (zI (zo (show OpR _ (compareOp .Eq) (z3 K)from zV hr.units) (zj (show IxR _ (rIx K)from zh) (pv 1) zc (fun _ _=>rfl)) zA (nomark _))
 (zf (zH (zU (pv 0) T.cl_House T.d_House_free.mt (zfF (base:=base) T) (hr.mono (by decide)) T.d_House_free.b .nil zX (za (zj (show IxR _ (rIx K)from zh) (pv 1) zc (fun _ _=>rfl)) (za (zj (show IxR _ (rIx K)from zh) (pv 1) zc (fun _ _=>rfl)) zb)))))
 zu)
 (zf (zH (zU (pv 0) T.cl_House T.d_House_strike.mt (zeC (base:=base) T) (hr.mono (by decide)) T.d_House_strike.b .nil zX (za (zj (show IxR _ (rIx K)from zh) (pv 1) zc (fun _ _=>rfl)) (za (zj (show IxR _ (rIx K)from zh) (pv 1) zc (fun _ _=>rfl)) (za (zj (show IxR _ (rIx K)from zh) (pv 1) zc (fun _ _=>rfl)) (za (zj (show IxR _ (rIx K)from zh) (pv 1) zc (fun _ _=>rfl)) (za (zj (show IxR _ (rIx K)from zh) (pv 1) zc (fun _ _=>rfl)) (za (zj (show IxR _ (rIx K)from zh) (pv 1) zc (fun _ _=>rfl)) (za (zj (show IxR _ (rIx K)from zh) (pv 1) zc (fun _ _=>rfl)) zb)))))))))))),?_⟩
 refine zF (σ0:=[some (.ref X.h),some (.ref l)]) rfl ?_
 rcases hD with⟨m,hl,hm,q⟩ | ⟨m,c,hl,hm,ht,hle,hsz,q⟩ | ⟨t,hl,hy,q1,q2,q3⟩
 ·walk_at "x"
  refine⟨X.h,dx,dxb,X.d,X.A,X.own,_,_,_,m,xs,rfl,hh,hbk,hd,.inr ⟨by omega,q _ (Same.refl _)⟩⟩
 ·walk_at "x"
  refine⟨X.h,X.d,X.A,X.own,m,c,_,_,X.n,P,L,ts,X.bs,X.k,X.F,X.w,X.c,rfl,hW.hc,hW.hn,fun _ _=>hsz,fun _ _ _ H1 ql s1 t1 hL=>⟨fun hlt=>?_,fun hnl H2 H3 b2 h2 b3 h3=>?_⟩,fun z=>absurd hm z,fun _ z=>absurd ht z,fun _ _ z=>absurd hle (by omega)⟩
  ·exact(q ql hL).1 hlt H1 (hW.sameT s1 t1)
  ·exact(q ql hL).2 hnl H3 (((hW.sameT s1 t1).pl b2.l h2).pu b3.l h3)
 ·have hl':H l=some (.lst [.str "strike",.int t.p,.int t.q,.int t.w,.int t.u,.int t.a,.int t.y,.int t.r]):=hl
  walk_at "x"
  refine⟨X.h,X.d,X.A,X.own,0,X.n,P,L,t,xs,ts,X.bs,X.k,X.F,X.w,X.c,rfl,hW.hc,hW.hn,hd,by omega,hW.ou,hz,hy,fun hm H1 e1=>q1 hm H1 (hW.same e1),fun hm ht H1 e1=>q2 hm ht H1 (hW.same e1),fun hm ht=>⟨fun H1 ql s1 t1 hL hlt=>?_,fun H1 ql ql2 s1 t1 hL hL2 hn hlt=>?_,fun H1 ql ql2 a H2 H3 s1 t1 hL hL2 hn hn2 e2 ha b3 h3=>?_⟩⟩
  ·rw[zfj ht.1.1]at hL hlt
   exact(q3 hm ht ql hL).1 hlt H1 (hW.sameT s1 t1)
  ·rw[zfj ht.1.1]at hL hn
   rw[zht ht.1.1 hm.2.2]at hL2 hlt
   exact((q3 hm ht ql hL).2 hn ql2 hL2).1 hlt H1 (hW.sameT s1 t1)
  ·rw[zfj ht.1.1]at hL hn
   rw[zht ht.1.1 hm.2.2]at hL2 hn2
   rw[hxl]
   have hW2:=(hW.sameT s1 t1).same e2
   refine((q3 hm ht ql hL).2 hn ql2 hL2).2 hn2 H3 (hW2.dl b3.l ?_ ?_ ?_ ?_)
   ·obtain⟨⟨dxb',hbk'⟩,_⟩:=id hW2.hn.bk
    refine⟨⟨dxb',b3.ins hbk'⟩,_,h3,IsTs.app (f:=zbs) (b3.tup ha) (hI.keep fun a' ys z=>b3.tup (e2.at (s1.tup z)))⟩
   ·intro u hu
    rcases yv.mp hu with z | z
    ·exact hW.hn.tok u z
    ·rw[yu.mp z];exact ht.1
   ·intro u hu
    rcases yv.mp hu with z | z
    ·exact hW.hn.tu u z
    ·rw[yu.mp z];exact ht.2.1
   ·rw[yl];show _+1<=1000;omega
theorem za8(T:Txt K mg):FnOk P w K mg base (CXF P w) 7 T.d__law_found.a T.d__law_found.fd ["_law_house", "_law_deed_here"] (zcG T.c_NoMember T.c_NoTerms T.c_Bare T.c_NoDeal (zbT K T.c_House T.c_Book lP lQ T.c_NoMember T.c_NoTerms T.c_Bare T.c_NoDeal)):=by
 refine T.d__law_found.F.okN sc__law_found (fun vs H Q E h=>?_) (fun cdv A outer s H vs Q E hr h=>?_)
 ·obtain⟨H0,X,P,L,G,ts,us,as,zs,l,rfl,_⟩:=h;rfl
 have h':=h
 obtain⟨H0,X,P,L,G,ts,us,as,zs,l,rfl,_⟩:=h
 have e_Bare:=T.e_Bare
 have i_Bare_Bare:=T.i_Bare_Bare
 have i_Bare_Closed:=T.i_Bare_Closed
 have i_Bare_Gone:=T.i_Bare_Gone
 have i_Bare_NoDeal:=T.i_Bare_NoDeal
 have i_Bare_NoLayer:=T.i_Bare_NoLayer
 have i_Bare_NoMember:=T.i_Bare_NoMember
 have i_Bare_NoPart:=T.i_Bare_NoPart
 have i_Bare_NoRule:=T.i_Bare_NoRule
 have i_Bare_NoTerms:=T.i_Bare_NoTerms
 have i_Bare_Out:=T.i_Bare_Out
 have i_Bare_Poor:=T.i_Bare_Poor
 have i_Bare_QuitsError:=T.i_Bare_QuitsError
 have i_Bare_Settled:=T.i_Bare_Settled
 have i_Bare_ValueError:=T.i_Bare_ValueError
 have q_Bare_QuitsError:=T.q_Bare_QuitsError
 have e_Closed:=T.e_Closed
 have i_Closed_Bare:=T.i_Closed_Bare
 have i_Closed_Closed:=T.i_Closed_Closed
 have i_Closed_Gone:=T.i_Closed_Gone
 have i_Closed_NoDeal:=T.i_Closed_NoDeal
 have i_Closed_NoLayer:=T.i_Closed_NoLayer
 have i_Closed_NoMember:=T.i_Closed_NoMember
 have i_Closed_NoPart:=T.i_Closed_NoPart
 have i_Closed_NoRule:=T.i_Closed_NoRule
 have i_Closed_NoTerms:=T.i_Closed_NoTerms
 have i_Closed_Out:=T.i_Closed_Out
 have i_Closed_Poor:=T.i_Closed_Poor
 have i_Closed_QuitsError:=T.i_Closed_QuitsError
 have i_Closed_Settled:=T.i_Closed_Settled
 have i_Closed_ValueError:=T.i_Closed_ValueError
 have q_Closed_QuitsError:=T.q_Closed_QuitsError
 have e_Gone:=T.e_Gone
 have i_Gone_Bare:=T.i_Gone_Bare
 have i_Gone_Closed:=T.i_Gone_Closed
 have i_Gone_Gone:=T.i_Gone_Gone
 have i_Gone_NoDeal:=T.i_Gone_NoDeal
 have i_Gone_NoLayer:=T.i_Gone_NoLayer
 have i_Gone_NoMember:=T.i_Gone_NoMember
 have i_Gone_NoPart:=T.i_Gone_NoPart
 have i_Gone_NoRule:=T.i_Gone_NoRule
 have i_Gone_NoTerms:=T.i_Gone_NoTerms
 have i_Gone_Out:=T.i_Gone_Out
 have i_Gone_Poor:=T.i_Gone_Poor
 have i_Gone_QuitsError:=T.i_Gone_QuitsError
 have i_Gone_Settled:=T.i_Gone_Settled
 have i_Gone_ValueError:=T.i_Gone_ValueError
 have q_Gone_QuitsError:=T.q_Gone_QuitsError
 have e_NoDeal:=T.e_NoDeal
 have i_NoDeal_Bare:=T.i_NoDeal_Bare
 have i_NoDeal_Closed:=T.i_NoDeal_Closed
 have i_NoDeal_Gone:=T.i_NoDeal_Gone
 have i_NoDeal_NoDeal:=T.i_NoDeal_NoDeal
 have i_NoDeal_NoLayer:=T.i_NoDeal_NoLayer
 have i_NoDeal_NoMember:=T.i_NoDeal_NoMember
 have i_NoDeal_NoPart:=T.i_NoDeal_NoPart
 have i_NoDeal_NoRule:=T.i_NoDeal_NoRule
 have i_NoDeal_NoTerms:=T.i_NoDeal_NoTerms
 have i_NoDeal_Out:=T.i_NoDeal_Out
 have i_NoDeal_Poor:=T.i_NoDeal_Poor
 have i_NoDeal_QuitsError:=T.i_NoDeal_QuitsError
 have i_NoDeal_Settled:=T.i_NoDeal_Settled
 have i_NoDeal_ValueError:=T.i_NoDeal_ValueError
 have q_NoDeal_QuitsError:=T.q_NoDeal_QuitsError
 have e_NoLayer:=T.e_NoLayer
 have i_NoLayer_Bare:=T.i_NoLayer_Bare
 have i_NoLayer_Closed:=T.i_NoLayer_Closed
 have i_NoLayer_Gone:=T.i_NoLayer_Gone
 have i_NoLayer_NoDeal:=T.i_NoLayer_NoDeal
 have i_NoLayer_NoLayer:=T.i_NoLayer_NoLayer
 have i_NoLayer_NoMember:=T.i_NoLayer_NoMember
 have i_NoLayer_NoPart:=T.i_NoLayer_NoPart
 have i_NoLayer_NoRule:=T.i_NoLayer_NoRule
 have i_NoLayer_NoTerms:=T.i_NoLayer_NoTerms
 have i_NoLayer_Out:=T.i_NoLayer_Out
 have i_NoLayer_Poor:=T.i_NoLayer_Poor
 have i_NoLayer_QuitsError:=T.i_NoLayer_QuitsError
 have i_NoLayer_Settled:=T.i_NoLayer_Settled
 have i_NoLayer_ValueError:=T.i_NoLayer_ValueError
 have q_NoLayer_QuitsError:=T.q_NoLayer_QuitsError
 have e_NoMember:=T.e_NoMember
 have i_NoMember_Bare:=T.i_NoMember_Bare
 have i_NoMember_Closed:=T.i_NoMember_Closed
 have i_NoMember_Gone:=T.i_NoMember_Gone
 have i_NoMember_NoDeal:=T.i_NoMember_NoDeal
 have i_NoMember_NoLayer:=T.i_NoMember_NoLayer
 have i_NoMember_NoMember:=T.i_NoMember_NoMember
 have i_NoMember_NoPart:=T.i_NoMember_NoPart
 have i_NoMember_NoRule:=T.i_NoMember_NoRule
 have i_NoMember_NoTerms:=T.i_NoMember_NoTerms
 have i_NoMember_Out:=T.i_NoMember_Out
 have i_NoMember_Poor:=T.i_NoMember_Poor
 have i_NoMember_QuitsError:=T.i_NoMember_QuitsError
 have i_NoMember_Settled:=T.i_NoMember_Settled
 have i_NoMember_ValueError:=T.i_NoMember_ValueError
 have q_NoMember_QuitsError:=T.q_NoMember_QuitsError
 have e_NoPart:=T.e_NoPart
 have i_NoPart_Bare:=T.i_NoPart_Bare
 have i_NoPart_Closed:=T.i_NoPart_Closed
 have i_NoPart_Gone:=T.i_NoPart_Gone
 have i_NoPart_NoDeal:=T.i_NoPart_NoDeal
 have i_NoPart_NoLayer:=T.i_NoPart_NoLayer
 have i_NoPart_NoMember:=T.i_NoPart_NoMember
 have i_NoPart_NoPart:=T.i_NoPart_NoPart
 have i_NoPart_NoRule:=T.i_NoPart_NoRule
 have i_NoPart_NoTerms:=T.i_NoPart_NoTerms
 have i_NoPart_Out:=T.i_NoPart_Out
 have i_NoPart_Poor:=T.i_NoPart_Poor
 have i_NoPart_QuitsError:=T.i_NoPart_QuitsError
 have i_NoPart_Settled:=T.i_NoPart_Settled
 have i_NoPart_ValueError:=T.i_NoPart_ValueError
 have q_NoPart_QuitsError:=T.q_NoPart_QuitsError
 have e_NoRule:=T.e_NoRule
 have i_NoRule_Bare:=T.i_NoRule_Bare
 have i_NoRule_Closed:=T.i_NoRule_Closed
 have i_NoRule_Gone:=T.i_NoRule_Gone
 have i_NoRule_NoDeal:=T.i_NoRule_NoDeal
 have i_NoRule_NoLayer:=T.i_NoRule_NoLayer
 have i_NoRule_NoMember:=T.i_NoRule_NoMember
 have i_NoRule_NoPart:=T.i_NoRule_NoPart
 have i_NoRule_NoRule:=T.i_NoRule_NoRule
 have i_NoRule_NoTerms:=T.i_NoRule_NoTerms
 have i_NoRule_Out:=T.i_NoRule_Out
 have i_NoRule_Poor:=T.i_NoRule_Poor
 have i_NoRule_QuitsError:=T.i_NoRule_QuitsError
 have i_NoRule_Settled:=T.i_NoRule_Settled
 have i_NoRule_ValueError:=T.i_NoRule_ValueError
 have q_NoRule_QuitsError:=T.q_NoRule_QuitsError
 have e_NoTerms:=T.e_NoTerms
 have i_NoTerms_Bare:=T.i_NoTerms_Bare
 have i_NoTerms_Closed:=T.i_NoTerms_Closed
 have i_NoTerms_Gone:=T.i_NoTerms_Gone
 have i_NoTerms_NoDeal:=T.i_NoTerms_NoDeal
 have i_NoTerms_NoLayer:=T.i_NoTerms_NoLayer
 have i_NoTerms_NoMember:=T.i_NoTerms_NoMember
 have i_NoTerms_NoPart:=T.i_NoTerms_NoPart
 have i_NoTerms_NoRule:=T.i_NoTerms_NoRule
 have i_NoTerms_NoTerms:=T.i_NoTerms_NoTerms
 have i_NoTerms_Out:=T.i_NoTerms_Out
 have i_NoTerms_Poor:=T.i_NoTerms_Poor
 have i_NoTerms_QuitsError:=T.i_NoTerms_QuitsError
 have i_NoTerms_Settled:=T.i_NoTerms_Settled
 have i_NoTerms_ValueError:=T.i_NoTerms_ValueError
 have q_NoTerms_QuitsError:=T.q_NoTerms_QuitsError
 have e_Out:=T.e_Out
 have i_Out_Bare:=T.i_Out_Bare
 have i_Out_Closed:=T.i_Out_Closed
 have i_Out_Gone:=T.i_Out_Gone
 have i_Out_NoDeal:=T.i_Out_NoDeal
 have i_Out_NoLayer:=T.i_Out_NoLayer
 have i_Out_NoMember:=T.i_Out_NoMember
 have i_Out_NoPart:=T.i_Out_NoPart
 have i_Out_NoRule:=T.i_Out_NoRule
 have i_Out_NoTerms:=T.i_Out_NoTerms
 have i_Out_Out:=T.i_Out_Out
 have i_Out_Poor:=T.i_Out_Poor
 have i_Out_QuitsError:=T.i_Out_QuitsError
 have i_Out_Settled:=T.i_Out_Settled
 have i_Out_ValueError:=T.i_Out_ValueError
 have q_Out_QuitsError:=T.q_Out_QuitsError
 have e_Poor:=T.e_Poor
 have i_Poor_Bare:=T.i_Poor_Bare
 have i_Poor_Closed:=T.i_Poor_Closed
 have i_Poor_Gone:=T.i_Poor_Gone
 have i_Poor_NoDeal:=T.i_Poor_NoDeal
 have i_Poor_NoLayer:=T.i_Poor_NoLayer
 have i_Poor_NoMember:=T.i_Poor_NoMember
 have i_Poor_NoPart:=T.i_Poor_NoPart
 have i_Poor_NoRule:=T.i_Poor_NoRule
 have i_Poor_NoTerms:=T.i_Poor_NoTerms
 have i_Poor_Out:=T.i_Poor_Out
 have i_Poor_Poor:=T.i_Poor_Poor
 have i_Poor_QuitsError:=T.i_Poor_QuitsError
 have i_Poor_Settled:=T.i_Poor_Settled
 have i_Poor_ValueError:=T.i_Poor_ValueError
 have q_Poor_QuitsError:=T.q_Poor_QuitsError
 have e_Settled:=T.e_Settled
 have i_Settled_Bare:=T.i_Settled_Bare
 have i_Settled_Closed:=T.i_Settled_Closed
 have i_Settled_Gone:=T.i_Settled_Gone
 have i_Settled_NoDeal:=T.i_Settled_NoDeal
 have i_Settled_NoLayer:=T.i_Settled_NoLayer
 have i_Settled_NoMember:=T.i_Settled_NoMember
 have i_Settled_NoPart:=T.i_Settled_NoPart
 have i_Settled_NoRule:=T.i_Settled_NoRule
 have i_Settled_NoTerms:=T.i_Settled_NoTerms
 have i_Settled_Out:=T.i_Settled_Out
 have i_Settled_Poor:=T.i_Settled_Poor
 have i_Settled_QuitsError:=T.i_Settled_QuitsError
 have i_Settled_Settled:=T.i_Settled_Settled
 have i_Settled_ValueError:=T.i_Settled_ValueError
 have q_Settled_QuitsError:=T.q_Settled_QuitsError
 have cl_Book:=T.cl_Book
 have na_Book_day:=T.na_Book_day
 have na_Book_deals:=T.na_Book_deals
 have na_Book_many:=T.na_Book_many
 have na_Book_wares:=T.na_Book_wares
 have cl_House:=T.cl_House
 have na_House_book:=T.na_House_book
 have na_House_kept:=T.na_House_kept
 have na_House_moves:=T.na_House_moves
 have na_House_order:=T.na_House_order
 have na_House_outs:=T.na_House_outs
 have na_House_pledges:=T.na_House_pledges
 have na_House_purses:=T.na_House_purses
 have na_House_reports:=T.na_House_reports
 have na_House_rule:=T.na_House_rule
 have na_House_shares:=T.na_House_shares
 refine⟨_,(zd (zB (i:=2) sc__law_found.nd rfl (Or.inl rfl) (zad (za zA (za zc zb))))
 (zd (show PS _ _ (zhO K _ _ _ _)from zlV (i:=3) ⟨rfl,rfl⟩ (zkw (zlG (i:=2) sc__law_found.nd rfl (Or.inl rfl) (zl3 (zkB zA (zjT (zkz (zgF (base:=base) T) (hr.mono (by decide)) rfl T.d__law_done.m T.d__law_done.F.kp T.d__law_done.b (za (pv 0) (za (pv 1) zb)))))))) rfl T.m_QuitsError sc__law_found.nd rfl rfl (fun _=>(zf (zB (i:=2) sc__law_found.nd rfl (Or.inl rfl) (zad (za zA (za (show PE _ _ (zeN _ [] E0 _)from zke (zf7 (base:=base) T) (Room.mark (hr.mono (j:=1) (by decide)) _) (by rfl) T.d__law_name.m T.d__law_name.F.kp T.d__law_name.b (za (pv 3) zb)) zb)))))))
 (zf (zH (pv 2))))),?_⟩
 refine zF (σ0:=[some (.ref X.h),some (.ref l),none,none]) rfl ?_
 walk_at "x"
 refine zan (by first | decide | simp) fun t0' H1 ft0 e1 ht0=>?_
 walk_at "x"
 refine zgX h' e1 (fun v H2 hq=>?_) (fun c H2 he=>?_)
 ·walk_at "x"
  refine zan (by first | decide | simp) fun p H3 fp e3 hp=>?_
  walk_at "x"
  exact hq p H3 e3 hp
 ·obtain⟨Ac,n,rfl,hc,k⟩:=he
  refine⟨_,rfl,?_⟩
  have hx:PySem.W.exmOne K (.ref Ac) (.ref T.c_QuitsError)=some true:=by
   rcases hc with⟨rfl,_⟩ | ⟨rfl,_⟩ | ⟨rfl,_⟩ | ⟨rfl,_⟩<;>assumption
  refine zg3 hx fun er H3 f3 e3 h3=>?_
  walk_at "x"
  refine⟨er,Ac,n,rfl,h3,hc,fun H4 e4=>?_⟩
  walk_at "x"
  refine zan (by first | decide | simp) fun p H5 fp e5 hp=>?_
  walk_at "x"
  exact k p H5 (e3.trans (e4.trans e5)) hp
theorem zdd(T:Txt K mg):FnOk P w K mg base (CXF P w) 8 T.d__law_stands.a T.d__law_stands.fd ["_law_house", "_law_rows", "_law_pledges", "_law_rule", "_law_moves_here"] (zh6 K T.c_House T.c_Book lP lQ):=by
 refine T.d__law_stands.F.okN sc__law_stands (fun vs H Q E h=>?_) (fun cdv A outer s H vs Q E hr h=>?_)
 ·obtain⟨H0,X,P,L,ts,as,zs,rfl,_⟩:=h;rfl
 obtain⟨H0,X,P,L,ts,as,zs,rfl,hW,n9,k1,htl,hz,q⟩:=h
 obtain⟨dx,hh⟩:=hW.hc.ob
 obtain⟨⟨dxb,hbk⟩,xs,hd,hI⟩:=id hW.hn.bk
 have hxl:=hI.length
 have hal:=hW.dr.2.1
 have cl_House:=T.cl_House
 have hvl:((vec X.n L).map V.int).length=X.n:=by rw[ya,zO]
 have hlp:=hW.lp
 have hmv:=hW.mv
 have hro:=hW.ro
 have hru:=hW.ru
 have hwl:(as.map V.ref).length=as.length:=ya ..
 obtain⟨hw,c0,c1⟩:=id hW.hn.ok
 obtain⟨m0,hm0⟩:=zQ (show 0<X.ms.length by have:=hW.ml;omega)
 have hat0:atI (X.ms.map V.ref) 0=some (.ref m0):=zaY (by omega) (by rw[yh];show(X.ms[0]?).map _=_;rw[hm0];rfl)
 have hm0r:=hW.mr.2 _ _ hm0
 have hml0:((vec X.k (X.F 0)).map V.int).length=X.k:=by rw[ya,zO]
 refine⟨_,(zd (zB (i:=5) sc__law_stands.nd rfl (Or.inl rfl) (zp (zb5 (base:=base) T) (hr.mono (by decide)) rfl T.d__law_positions.m T.d__law_positions.F.kp T.d__law_positions.b .nil (zy zw) (za (pv 1) (za (zt (show CallR _ _ (zam K)from zN) rfl T.z_len BT.len (za (pv 2) zb)) (za (zt (show CallR _ _ (zam K)from zN) rfl T.z_len BT.len (za (zj (show IxR _ (rIx K)from zh) (pv 4) zc (fun _ _=>rfl)) zb)) zb)))))
 (zd (zbw PassesOwn.never rfl (zaZ rfl T.z_range (za (zt (show CallR _ _ (zam K)from zN) rfl T.z_len BT.len (za (pv 2) zb)) zb)) (zay (i:=6) sc__law_stands.nd rfl (Or.inl rfl))
 (zd (zB (i:=7) sc__law_stands.nd rfl (Or.inl rfl) (zU (pv 0) T.cl_House T.d_House_position.mt (zd0 (base:=base) T) (hr.mono (by decide)) T.d_House_position.b .nil (zy zw) (za (pv 6) zb)))
 (zd (zI (PW.pt (zap (zo (show OpR _ (compareOp .NotEq) (zb6 K)from zcs hr.units) (pv 7) (zj (show IxR _ (rIx K)from zh) (pv 5) (pv 6) (fun _ _=>rfl)) (nomark _)) (zaj (zo (show OpR _ (compareOp .NotEq) (zb6 K)from zcs hr.units) (zU (pv 0) T.cl_House T.d_House_pledge.mt (zeU (base:=base) T) (hr.mono (by decide)) T.d_House_pledge.b .nil (zy zw) (za (pv 6) zb)) (zj (show IxR _ (rIx K)from zh) (pv 2) (pv 6) (fun _ _=>rfl)) (nomark _)))))
 (zf (zH zbS))
 zu)
 (zd (zbJ (zr (show OpR _ (binaryOp .Add) (zJ K)from zC) (zj (show IxR _ (rIx K)from zh) (pv 7) zc (fun _ _=>rfl)) zc) (zbK (pv 7) zc zY))
 (zf (zI (zcW (show PT _ _ (zbN K _)from zZ (zp (zeY (base:=base) T) (hr.mono (by decide)) rfl T.d__law_part_is.m T.d__law_part_is.F.kp T.d__law_part_is.b .nil (zy zw) (za (zU (pv 0) T.cl_House T.d_House_need.mt (zdp (base:=base) T) (hr.mono (by decide)) T.d_House_need.b .nil (zy zw) (za (pv 6) zb)) (za (zp (zcY (base:=base) T) (hr.mono (by decide)) rfl T.d__law_need.m T.d__law_need.F.kp T.d__law_need.b .nil (zy zw) (za (zj (show IxR _ (rIx K)from zh) (pv 5) (pv 6) (fun _ _=>rfl)) (za (pv 3) (za (pv 4) zb)))) zb))) (fun _=>rfl)))
 (zf (zH zbS))
 zu))))))
 (zd (zbw PassesOwn.never rfl (zaZ rfl T.z_range (za (zt (show CallR _ _ (zam K)from zN) rfl T.z_len BT.len (za (pv 1) zb)) zb)) (zay (i:=8) sc__law_stands.nd rfl (Or.inl rfl))
 (zf (zI (zo (show OpR _ (compareOp .NotEq) (zb6 K)from zcs hr.units) (zU (pv 0) T.cl_House T.d_House_deal.mt (zdr (base:=base) T) (hr.mono (by decide)) T.d_House_deal.b .nil (zy zw) (za (pv 8) zb)) (zcj (show CallR _ _ (zet K)from zgZ) rfl T.z_tuple BT.tuple (za (zj (show IxR _ (rIx K)from zh) (pv 1) (pv 8) (fun _ _=>rfl)) zb)) (nomark _))
 (zf (zH zbS))
 zu)))
 (zf (zH (zbZ (show OpR _ (compareOp .Eq) (z3 K)from zV hr.units) (zp (za8 (base:=base) T) (hr.mono (by decide)) rfl T.d__law_found.m T.d__law_found.F.kp T.d__law_found.b .nil (zy zw) (za (pv 0) (za (zax (za zA (za (zt (show CallR _ _ (zam K)from zN) rfl T.z_len BT.len (za (pv 1) zb)) zb))) zb))) (zad (za zA (za zA zb))) (nomark _))))))),?_⟩
 refine zF (σ0:=[some (.ref X.h),some (.ref X.ro),some (.ref X.lp),some (.ref X.ru),some (.ref X.mv),none,none,none,none]) rfl ?_
 walk_at "x"
 refine zP ?_
 refine⟨X.ro,X.n,X.k,ts,as,by rw[hvl,hml0],hro,hW.dr,hW.uk,by omega,by omega,by omega,by have:=hW.hn.k9;omega,by omega,fun r H1 ps fr e1 hr1 hpl hR1 hfp=>?_⟩
 rw[yy]at hpl hR1
 have t1:TbW K "worst_days" lP lQ H1:=TbW.same e1 hW.hn.tb
 have hW1:=hW.same e1
 have hlp1:=hW1.lp
 walk_at "x"
 refine zdb (fun i σ' H'=>∃f6 f7 f8:Option V,σ'=[some (.ref X.h),some (.ref X.ro),some (.ref X.lp),some (.ref X.ru),some (.ref X.mv),some (.ref r),f6,f7,f8]/\SameT H1 H'/\TbW K "worst_days" lP lQ H') ⟨_,_,_,rfl,SameT.refl _,t1⟩ ?_ ?_
 ·rintro i σ' H2 hi ⟨f6,f7,f8,rfl,s2,t2⟩
  rw[show((0:Int)+(i:Int))=(i:Int) by omega]
  have hW2:=hW1.sameT s2 t2
  obtain⟨dx2,hh2⟩:=hW2.hc.ob
  have hr2:=s2.lst hr1
  have hR2:=s2.rows hR1
  have hin:i<X.n:=by omega
  obtain⟨b,hb⟩:=zQ (show i<ps.length by omega)
  have hat:atI (ps.map V.ref) (i:Int)=some (.ref b):=zcA (by rw[yh,hb];rfl)
  have hb2:=hR2.2 _ _ hb
  walk_at "x"
  refine zP ?_
  refine⟨X.h,dx2,X.d,X.A,X.own,_,_,_,X.k,ts,rfl,hh2,hW2.hn.bk,hW2.hn.tok,by have:=hW.hn.k9;omega,fun p H3 fp e3 hp=>?_⟩
  have hr3:=e3.at hr2
  have hb3:=e3.at hb2
  have hh3:=e3.at hh2
  have hpl3:=e3.at hW2.hc.pl
  have hlp3:=e3.at hW2.lp
  have hLL:L (i:Int).toNat=L (i:Int).toNat:=rfl
  walk_at "x"
  rename_i H4 b4 h4
  have e4:=b4.same e3 fp
  have hW4:=hW2.same e4
  obtain⟨dx4,hh4⟩:=hW4.hc.ob
  refine zP ?_
  refine⟨X.h,dx4,X.d,X.A,X.own,_,_,_,ts,X.bs,X.k,X.F,X.w,X.c,rfl,hh4,hW4.hn,fun ra H5 ql s5 t5 hL hra hza=>?_⟩
  have hW5:=hW4.sameT s5 t5
  have hr5:=s5.lst (e4.at hr2)
  have hR5:=s5.rows (hR2.same e4)
  have hb5:=hR5.2 _ _ hb
  have hru5:=hW5.ru
  have hmv5:=hW5.mv
  have hbd:Internal.Within 1000000000 X.k (zaf ts (i:Int)):=fun j _=>by
   have:=zcP hW.hn.tu (i:Int) j
   omega
  walk_at "x"
  refine zP ?_
  refine⟨b,X.ru,X.mv,X.w,X.c,X.ms,X.k,zaf ts (i:Int),X.F,1000000000,rfl,hb5,hru5,hmv5,hW5.mr,hbd,fun i' hi' j hj=>by have:=hW.hn.fw i' (by rw[<- hW.ml];exact hi') j hj;omega,by decide,hW.hn.k9,by rw[hW.ml];exact hW.hn.n64,by rw[hW.ml];exact hW.hn.ok,fun rb H6 a0 b0 frb e6 hrb hnd=>?_⟩
  rw[hW.ml]at hnd
  have hq:=hnd.q ql hL
  walk_at "x"
  refine zP ?_
  refine⟨ra,rb,_,a0,b0,rfl,e6.isQ hra,hrb,hza,hnd.a0,hnd.a1,hnd.b0,hnd.b1,hq,fun H7 e7=>?_⟩
  walk_at "x"
  exact⟨_,_,_,rfl,s2.trans (e4.t.trans (s5.trans (e6.trans e7).t)),TbW.same (e6.trans e7) t5⟩
 ·rintro σ' H2 ⟨f6,f7,f8,rfl,s2,t2⟩
  have hW2:=hW1.sameT s2 t2
  have hro2:=hW2.ro
  walk_at "x"
  refine zdb (fun i σ' H'=>∃f8:Option V,σ'=[some (.ref X.h),some (.ref X.ro),some (.ref X.lp),some (.ref X.ru),some (.ref X.mv),some (.ref r),f6,f7,f8]/\Same H2 H') ⟨_,rfl,Same.refl _⟩ ?_ ?_
  ·rintro i σ' H3 hi ⟨f8,rfl,e3⟩
   rw[show((0:Int)+(i:Int))=(i:Int) by omega]
   have hW3:=hW2.same e3
   obtain⟨dx3,hh3⟩:=hW3.hc.ob
   obtain⟨⟨dxb3,hbk3⟩,xs3,hd3,hI3⟩:=id hW3.hn.bk
   have hro3:=hW3.ro
   obtain⟨a,ha⟩:=zQ (show i<as.length by omega)
   obtain⟨t,ht⟩:=zQ (show i<ts.length by omega)
   obtain⟨x,hx1,hx2⟩:=hI3.getI ht
   have hra:=hW3.dr.2.2 i a t ha ht
   have hat:atI (as.map V.ref) (i:Int)=some (.ref a):=zcA (by rw[yh,ha];rfl)
   walk_at "x"
   refine zP ?_
   refine⟨X.h,dx3,dxb3,X.d,X.A,X.own,_,_,_,(i:Int),xs3,rfl,hh3,hbk3,hd3,.inl ⟨by omega,.ref x,by rw[yy];exact hx1,?_⟩⟩
   walk_at "x"
   refine zjC hra fun p H4 fp e4 hp=>?_
   refine zj3 (e4.at hx2) hp (hW.uk t (yq ht)).lay ?_
   walk_at "x"
   exact⟨_,rfl,e3.trans e4⟩
  ·rintro σ' H3 ⟨f8,rfl,e3⟩
   have hW3:=hW2.same e3
   have hro3:=hW3.ro
   walk_at "x"
   rename_i l H4 fl e4 hl4
   refine zP ?_
   refine⟨H0,X,P,L,L,ts,ts,as,zs,l,rfl,hW3.same e4,hz,htl,.inl ⟨_,hl4,by rw[hwl,hal],fun H5 e5=>⟨_,4,rfl,.inr (.inr (.inr ⟨rfl,rfl⟩)),fun r6 H6 e6 hr6=>?_⟩⟩⟩
   walk_at "x"
   refine zan (by first | decide | simp) fun p7 H7 fp7 e7 hp7=>?_
   refine ze1 (e7.at hr6) hp7 zbR (zb1 4) ?_
   have e37:=e3.trans (e4.trans (e5.trans (e6.trans e7)))
   exact q _ (e1.t.trans (s2.trans e37.t)) (TbW.same e37 t2)
theorem zf6(T:Txt K mg):FnOk P w K mg base (CXF P w) 3 T.d__law_deed.a T.d__law_deed.fd ["_law_script", "_law_at", "_law_many", "_law_wares"] (zjP K):=by
 refine T.d__law_deed.F.okN sc__law_deed (fun vs H Q E h=>?_) (fun cdv A outer s H vs Q E hr h=>?_)
 ·obtain⟨a,ns,z,n,k,rfl,_⟩:=h;rfl
 obtain⟨a,ns,z,n,k,rfl,hS,z0,z1,n0,n1,k0,k1,q⟩:=h
 refine⟨_,(zd (zB (i:=4) sc__law_deed.nd rfl (Or.inl rfl) (zp (zE (base:=base) T) (hr.mono (by decide)) rfl T.d__law_draw.m T.d__law_draw.F.kp T.d__law_draw.b .nil (zy zw) (za (pv 0) (za (pv 1) (za (pv 2) zb)))))
 (zd (zB (i:=5) sc__law_deed.nd rfl (Or.inl rfl) (zr zbY (zr (show OpR _ (binaryOp .Add) (zJ K)from zC) (zr (show OpR _ (binaryOp .Add) (zJ K)from zC) (pv 4) zc) (zp (zE (base:=base) T) (hr.mono (by decide)) rfl T.d__law_draw.m T.d__law_draw.F.kp T.d__law_draw.b .nil (zy zw) (za (pv 0) (za (zr (show OpR _ (binaryOp .Add) (zJ K)from zC) (pv 1) zc) (za (zr zaX (pv 2) zc) zb))))) (pv 2)))
 (zd (zB (i:=6) sc__law_deed.nd rfl (Or.inl rfl) (zr (show OpR _ (binaryOp .Add) (zJ K)from zC) zc (zp (zE (base:=base) T) (hr.mono (by decide)) rfl T.d__law_draw.m T.d__law_draw.F.kp T.d__law_draw.b .nil (zy zw) (za (pv 0) (za (zr (show OpR _ (binaryOp .Add) (zJ K)from zC) (pv 1) zc) (za zc zb))))))
 (zaS (zI (zo (show OpR _ (compareOp .Eq) (z3 K)from zV hr.units) (zp (zE (base:=base) T) (hr.mono (by decide)) rfl T.d__law_draw.m T.d__law_draw.F.kp T.d__law_draw.b .nil (zy zw) (za (pv 0) (za (zr (show OpR _ (binaryOp .Add) (zJ K)from zC) (pv 1) zc) (za zc zb)))) zc (nomark _))
 (zf (zB (i:=6) sc__law_deed.nd rfl (Or.inl rfl) (zr (show OpR _ (binaryOp .Add) (zJ K)from zC) zc (zp (zbO (base:=base) T) (hr.mono (by decide)) rfl T.d__law_great.m T.d__law_great.F.kp T.d__law_great.b .nil (zy zw) (za (pv 0) (za (zr (show OpR _ (binaryOp .Add) (zJ K)from zC) (pv 1) zc) (za (zr zdO zc zc) zb)))))))
 zu)
 (zd (zB (i:=7) sc__law_deed.nd rfl (Or.inl rfl) (zax (za zA (za (pv 4) (za (pv 5) (za (zp (zE (base:=base) T) (hr.mono (by decide)) rfl T.d__law_draw.m T.d__law_draw.F.kp T.d__law_draw.b .nil (zy zw) (za (pv 0) (za (zr (show OpR _ (binaryOp .Add) (zJ K)from zC) (pv 1) zc) (za (pv 3) zb)))) (za (pv 6) zb)))))))
 (zd (zB (i:=7) sc__law_deed.nd rfl (Or.inl rfl) (zr (show OpR _ (binaryOp .Add) (zJ K)from zC) (pv 7) (zax (za (zr (show OpR _ (binaryOp .Add) (zJ K)from zC) zc (zp (zbO (base:=base) T) (hr.mono (by decide)) rfl T.d__law_great.m T.d__law_great.F.kp T.d__law_great.b .nil (zy zw) (za (pv 0) (za (zr (show OpR _ (binaryOp .Add) (zJ K)from zC) (pv 1) zc) (za (zr zdO zc zc) zb))))) (za (zp (zE (base:=base) T) (hr.mono (by decide)) rfl T.d__law_draw.m T.d__law_draw.F.kp T.d__law_draw.b .nil (zy zw) (za (pv 0) (za (zr (show OpR _ (binaryOp .Add) (zJ K)from zC) (pv 1) zc) (za zc zb)))) (za (zp (zE (base:=base) T) (hr.mono (by decide)) rfl T.d__law_draw.m T.d__law_draw.F.kp T.d__law_draw.b .nil (zy zw) (za (pv 0) (za (zr (show OpR _ (binaryOp .Add) (zJ K)from zC) (pv 1) zc) (za zc zb)))) zb))))))
 (zd (zB (i:=8) sc__law_deed.nd rfl (Or.inl rfl) (zp (zE (base:=base) T) (hr.mono (by decide)) rfl T.d__law_draw.m T.d__law_draw.F.kp T.d__law_draw.b .nil (zy zw) (za (pv 0) (za (zr (show OpR _ (binaryOp .Add) (zJ K)from zC) (pv 1) zc) (za zc zb)))))
 (zaS (zI (zo (show OpR _ (compareOp .Eq) (z3 K)from zV hr.units) (pv 8) zc (nomark _))
 (zf (zbJ (zj (show IxR _ (rIx K)from zh) (zax (za (zdj zcR zc) (za (pv 2) zb))) (zp (zE (base:=base) T) (hr.mono (by decide)) rfl T.d__law_draw.m T.d__law_draw.F.kp T.d__law_draw.b .nil (zy zw) (za (pv 0) (za (zr (show OpR _ (binaryOp .Add) (zJ K)from zC) (pv 1) zc) (za zc zb)))) (fun _ _=>rfl)) (zbK (pv 7) zc zY)))
 zu)
 (zaS (zI (zo (show OpR _ (compareOp .Eq) (z3 K)from zV hr.units) (pv 8) zc (nomark _))
 (zf (zbJ (zj (show IxR _ (rIx K)from zh) (zax (za (pv 2) (za (pv 4) zb))) (zp (zE (base:=base) T) (hr.mono (by decide)) rfl T.d__law_draw.m T.d__law_draw.F.kp T.d__law_draw.b .nil (zy zw) (za (pv 0) (za (zr (show OpR _ (binaryOp .Add) (zJ K)from zC) (pv 1) zc) (za zc zb)))) (fun _ _=>rfl)) (zbK (pv 7) zc zY)))
 zu)
 (zaS (zI (PW.pt (zap (zo (show OpR _ (compareOp .Eq) (z3 K)from zV hr.units) (pv 8) zc (nomark _)) (zaj (zo (show OpR _ (compareOp .Eq) (z3 K)from zV hr.units) (pv 8) zc (nomark _)))))
 (zf (zbJ (zdj zcR zc) (zbK (pv 7) (zr (show OpR _ (binaryOp .Add) (zJ K)from zC) zc (zp (zE (base:=base) T) (hr.mono (by decide)) rfl T.d__law_draw.m T.d__law_draw.F.kp T.d__law_draw.b .nil (zy zw) (za (pv 0) (za (zr (show OpR _ (binaryOp .Add) (zJ K)from zC) (pv 1) zc) (za zc zb))))) zY)))
 zu)
 (zf (zH (pv 7))))))))))))),?_⟩
 refine zF (σ0:=[some (.ref a),some (.int z),some (.int n),some (.int k),none,none,none,none,none]) rfl ?_
 walk_at "x"
 rename_i p p0 p1 y y0 y1 u0 u00 u01
 refine zb0 (fun σ' H'=>∃u:Int,σ'=[some (.ref a),some (.int z),some (.int n),some (.int k),some (.int p),some (.int ((p+1+y)%n)),some (.int u),none,none]/\1<=u/\u<=1000000/\H'=H) ?_ ?_
 ·walk_at "x"
  ·rename_i g g0 g1 v v0 v1
   exact⟨_,rfl,by omega,by omega,rfl⟩
  ·exact⟨_,rfl,by omega,by omega,rfl⟩
 rintro σ' H' ⟨u,rfl,hu0,hu1,rfl⟩
 walk_at "x"
 rename_i w w0 w1 l1 H1 fl1 e1 hl1 am am0 am1 dy dy0 dy1 rk rk0 rk1 l2 H2 fl2 e2 hl2
 refine zeB (e2.at hl1) hl2 (by show 8<=100000;decide) fun l H3 fl e3 hl=>?_
 have e03:=e1.trans (e2.trans e3)
 have hS3:SqL K H3 a (ns.map V.int):=hS.keep e03
 have fl0:H' l=none:=Same.none fl (e1.trans e2)
 have ht0:zaB k ⟨p,(p+1+y)%n,w,u,1+am,dy,rk⟩:=⟨⟨w0,w1⟩,⟨hu0,hu1⟩,⟨by show 1<=1+am;omega,by show 1+am<=1000000000;omega⟩,⟨dy0,by show dy<=1000000;omega⟩,rk0,by show rk<=2;omega⟩
 generalize (p+1+y)%n=pq at *
 walk_at "x"
 rename_i wy wy0 wy1
 refine zb0 (fun σ' Hx=>∃t:T7,σ'=[some (.ref a),some (.int z),some (.int n),some (.int k),some (.int p),some (.int pq),some (.int u),some (.ref l),some (.int wy)]/\Same H' Hx/\Hx l=some (.lst (.str "strike" :: za2 t))/\zaB k t) ?_ ?_
 ·walk_at "x"
  ·rename_i hw l4 H4 fl4 e4 hl4 x x0 x1
   obtain⟨v,hv⟩:=zi0 (i:=-1) (j:=n) x0 x1
   have hl4':=e4.at hl
   walk_at "x"
   refine zbi hl4' (j:=1) rfl fun H5 b5 h5=>?_
   exact⟨⟨v,pq,w,u,1+am,dy,rk⟩,rfl,b5.same (e03.trans e4) fl0,h5,ht0⟩
  ·exact⟨⟨p,pq,w,u,1+am,dy,rk⟩,rfl,e03,hl,ht0⟩
 rintro σ' H4 ⟨t,rfl,e4,h4,ht⟩
 have hS4:SqL K H4 a (ns.map V.int):=hS.keep e4
 have h4':H4 l=some (.lst [.str "strike",.int t.p,.int t.q,.int t.w,.int t.u,.int t.a,.int t.y,.int t.r]):=h4
 clear h4 hl ht0 e03 hS3
 refine zb0 (fun σ' Hx=>∃t:T7,σ'=[some (.ref a),some (.int z),some (.int n),some (.int k),some (.int p),some (.int pq),some (.int u),some (.ref l),some (.int wy)]/\Same H' Hx/\Hx l=some (.lst (.str "strike" :: za2 t))/\zaB k t) ?_ ?_
 ·walk_at "x"
  ·rename_i hw l5 H5 fl5 e5 hl5 x x0 x1
   obtain⟨v,hv⟩:=zi0 (i:=n) (j:=p) x0 x1
   have hl5':=e5.at h4'
   walk_at "x"
   refine zbi hl5' (j:=2) rfl fun H6 b6 h6=>?_
   exact⟨⟨t.p,v,t.w,t.u,t.a,t.y,t.r⟩,rfl,b6.same (e4.trans e5) fl0,h6,ht⟩
  ·exact⟨t,rfl,e4,h4',ht⟩
 clear h4' ht
 rintro σ' H5 ⟨t,rfl,e5,h5,ht⟩
 have hS5:SqL K H5 a (ns.map V.int):=hS.keep e5
 have h5':H5 l=some (.lst [.str "strike",.int t.p,.int t.q,.int t.w,.int t.u,.int t.a,.int t.y,.int t.r]):=h5
 clear h5
 refine zb0 (fun σ' Hx=>∃t:T7,σ'=[some (.ref a),some (.int z),some (.int n),some (.int k),some (.int p),some (.int pq),some (.int u),some (.ref l),some (.int wy)]/\Same H' Hx/\Hx l=some (.lst (.str "strike" :: za2 t))/\DOk k t) ?_ ?_
 ·walk_at "x"
  ·rename_i hwy x x0 x1
   have hx5:x=0\/x=1\/x=2\/x=3\/x=4:=by omega
   rcases hx5 with rfl | rfl | rfl | rfl | rfl
   ·refine zbi h5' (j:=3) rfl fun H6 b6 h6=>?_
    exact⟨⟨t.p,t.q,-1,t.u,t.a,t.y,t.r⟩,rfl,b6.same e5 fl0,h6,.inr (.inl (by show(-1:Int)<0;decide))⟩
   ·refine zbi h5' (j:=4) rfl fun H6 b6 h6=>?_
    exact⟨⟨t.p,t.q,t.w,-1,t.a,t.y,t.r⟩,rfl,b6.same e5 fl0,h6,.inr (.inr (.inl (by show(-1:Int)<0;decide)))⟩
   ·refine zbi h5' (j:=5) rfl fun H6 b6 h6=>?_
    exact⟨⟨t.p,t.q,t.w,t.u,-1,t.y,t.r⟩,rfl,b6.same e5 fl0,h6,.inr (.inr (.inr (.inl (by show(-1:Int)<0;decide))))⟩
   ·refine zbi h5' (j:=6) rfl fun H6 b6 h6=>?_
    exact⟨⟨t.p,t.q,t.w,t.u,t.a,-1,t.r⟩,rfl,b6.same e5 fl0,h6,.inr (.inr (.inr (.inr (.inl (by show(-1:Int)<0;decide)))))⟩
   ·refine zbi h5' (j:=7) rfl fun H6 b6 h6=>?_
    exact⟨⟨t.p,t.q,t.w,t.u,t.a,t.y,-1⟩,rfl,b6.same e5 fl0,h6,.inr (.inr (.inr (.inr (.inr (by show(-1:Int)<0;decide)))))⟩
  ·rename_i hwn hwy x x0 x1
   have hx5:x=0\/x=1\/x=2\/x=3\/x=4:=by omega
   rcases hx5 with rfl | rfl | rfl | rfl | rfl
   ·refine zbi h5' (j:=3) rfl fun H6 b6 h6=>?_
    exact⟨⟨t.p,t.q,-1,t.u,t.a,t.y,t.r⟩,rfl,b6.same e5 fl0,h6,.inr (.inl (by show(-1:Int)<0;decide))⟩
   ·refine zbi h5' (j:=4) rfl fun H6 b6 h6=>?_
    exact⟨⟨t.p,t.q,t.w,-1,t.a,t.y,t.r⟩,rfl,b6.same e5 fl0,h6,.inr (.inr (.inl (by show(-1:Int)<0;decide)))⟩
   ·refine zbi h5' (j:=5) rfl fun H6 b6 h6=>?_
    exact⟨⟨t.p,t.q,t.w,t.u,-1,t.y,t.r⟩,rfl,b6.same e5 fl0,h6,.inr (.inr (.inr (.inl (by show(-1:Int)<0;decide))))⟩
   ·refine zbi h5' (j:=6) rfl fun H6 b6 h6=>?_
    exact⟨⟨t.p,t.q,t.w,t.u,t.a,-1,t.r⟩,rfl,b6.same e5 fl0,h6,.inr (.inr (.inr (.inr (.inl (by show(-1:Int)<0;decide)))))⟩
   ·refine zbi h5' (j:=7) rfl fun H6 b6 h6=>?_
    exact⟨⟨t.p,t.q,t.w,t.u,t.a,t.y,-1⟩,rfl,b6.same e5 fl0,h6,.inr (.inr (.inr (.inr (.inr (by show(-1:Int)<0;decide)))))⟩
  ·exact⟨t,rfl,e5,h5',.inl ht⟩
 rintro σ' H6 ⟨t,rfl,e6,h6,ht⟩
 walk_at "x"
 exact q l H6 t fl0 e6 h6 ht
theorem zeo(T:Txt K mg):FnOk P w K mg base (CXF P w) 3 T.d__law_short_of.a T.d__law_short_of.fd ["_law_rows", "_law_pledges", "_law_rule", "_law_moves_here", "_law_deed_here"] (ziv K T.c_House T.c_Book lP lQ):=by
 refine T.d__law_short_of.F.okN sc__law_short_of (fun vs H Q E h=>?_) (fun cdv A outer s H vs Q E hr h=>?_)
 ·obtain⟨H0,X,P,L,ts,as,zs,l,t,rfl,_⟩:=h;rfl
 obtain⟨H0,X,P,L,ts,as,zs,l,t,rfl,hW,hl,hm,ht,n9,k1,htl,q⟩:=h
 have hvl:((vec X.n L).map V.int).length=X.n:=by rw[ya,zO]
 have hlp:=hW.lp
 have hmv:=hW.mv
 have hro:=hW.ro
 have hru:=hW.ru
 have hal:=hW.dr.2.1
 obtain⟨hw,c0,c1⟩:=id hW.hn.ok
 obtain⟨m0,hm0⟩:=zQ (show 0<X.ms.length by have:=hW.ml;omega)
 have hat0:atI (X.ms.map V.ref) 0=some (.ref m0):=zaY (by omega) (by rw[yh];show(X.ms[0]?).map _=_;rw[hm0];rfl)
 have hm0r:=hW.mr.2 _ _ hm0
 have hml0:((vec X.k (X.F 0)).map V.int).length=X.k:=by rw[ya,zO]
 have hl':H l=some (.lst [.str "strike",.int t.p,.int t.q,.int t.w,.int t.u,.int t.a,.int t.y,.int t.r]):=hl
 have hasl:(as.map V.ref).length<=1000:=by rw[ya];omega
 refine⟨_,(zd (zB (i:=5) sc__law_short_of.nd rfl (Or.inl rfl) (zp (zb5 (base:=base) T) (hr.mono (by decide)) rfl T.d__law_positions.m T.d__law_positions.F.kp T.d__law_positions.b .nil (zy zw) (za (zr (show OpR _ (binaryOp .Add) (zJ K)from zC) (pv 0) (zax (za (zr (show OpR _ (binaryOp .Add) (zJ K)from zC) (zbU (show SlR _ (zcU K)from zcD) (pv 4) (zci zc) zck) (zax (za zA zb))) zb))) (za (zt (show CallR _ _ (zam K)from zN) rfl T.z_len BT.len (za (pv 1) zb)) (za (zt (show CallR _ _ (zam K)from zN) rfl T.z_len BT.len (za (zj (show IxR _ (rIx K)from zh) (pv 3) zc (fun _ _=>rfl)) zb)) zb)))))
 (zd (zcQ (i:=6) sc__law_short_of.nd rfl rfl rfl (show PI _ _ _ (zbc K _)from zaz (pv 5)) (zS (Ni:=["_law_position", "_law_rule", "_law_moves_here"]) (caps:=[none,some 2,some 3]) (by rfl)) (fun S _ _ _ _ _=>(z8 (gi:=0) S (Or.inl rfl) rfl)) (fun _ _ _ _ _=>zaM) (fun _ _ _ _ _=>(zp (zcY (base:=base) T) (hr.mono (by decide)) rfl T.d__law_need.m T.d__law_need.F.kp T.d__law_need.b .nil (zy zw) (za (pv 0) (za (pv 1) (za (pv 2) zb))))))
 (zd (zcQ (i:=7) sc__law_short_of.nd rfl rfl rfl (show PI _ _ _ (zbc K _)from zaz (pv 1)) (zS (Ni:=["_law_pledge_here"]) (caps:=[none]) (by rfl)) (fun S _ _ _ _ _=>(z8 (gi:=0) S (Or.inl rfl) rfl)) (fun _ _ _ _ _=>zaM) (fun _ _ _ _ _=>zc))
 (zd (zbw PassesOwn.never rfl (show PI _ _ _ (zbc K _)from zaz (zax (za (zj (show IxR _ (rIx K)from zh) (pv 4) zc (fun _ _=>rfl)) (za (zj (show IxR _ (rIx K)from zh) (pv 4) zc (fun _ _=>rfl)) zb)))) (zay (i:=8) sc__law_short_of.nd rfl (Or.inl rfl))
 (zf (zbJ (zt (zcJ rfl) rfl T.z_max BT.max (za zc (za (zr zaX (zr zaX zc (zr zdV (zr zaX zc (zj (show IxR _ (rIx K)from zh) (zj (show IxR _ (rIx K)from zh) (pv 6) (pv 8) (fun _ _=>rfl)) zc (fun _ _=>rfl))) (zj (show IxR _ (rIx K)from zh) (zj (show IxR _ (rIx K)from zh) (pv 6) (pv 8) (fun _ _=>rfl)) zc (fun _ _=>rfl)))) (zj (show IxR _ (rIx K)from zh) (pv 1) (pv 8) (fun _ _=>rfl))) zb))) (zbK (pv 7) (pv 8) zY))))
 (zf (zH (pv 7))))))),?_⟩
 refine zF (σ0:=[some (.ref X.ro),some (.ref X.lp),some (.ref X.ru),some (.ref X.mv),some (.ref l),none,none,none,none]) rfl ?_
 walk_at "x"
 rename_i d1 H1 fd1 e1 hd1 s1 H2 fs1 e2 hs1
 have hd2:H2 d1=some (.lst [.int t.p,.int t.q,.int t.w,.int t.u,.int t.a,.int t.y,.int t.r]):=e2.at hd1
 refine zeB hd2 hs1 (by show 8<=100000;decide) fun d3 H3 fd3 e3 hd3=>?_
 have e03:=e1.trans (e2.trans e3)
 have hd3':H3 d3=some (.lst (zbs (t,("standing" : Str)))):=hd3
 have hro3:=e03.at hro
 have hlp3:=e03.at hlp
 have hmv3:=e03.at hmv
 walk_at "x"
 rename_i d4 H4 fd4 e4 hd4
 refine zeB (e4.at hro3) hd4 (by rw[ya];show _+1<=_;omega) fun d5 H5 fd5 e5 hd5=>?_
 have e05:=e03.trans (e4.trans e5)
 have hlp5:=e05.at hlp
 have hmv5:=e05.at hmv
 have hm05:=e05.at hm0r
 have hdr:DRows H5 (as++[d3]) (ts++[(t,("standing" : Str))]):=DRows.app (hW.dr.same e05) (fun z=>(hW.dr.same (e1.trans e2)).fresh fd3 z) ((e4.trans e5).at hd3')
 have huk:∀u∈ts++[(t,("standing" : Str))],KD8 X.n X.k u:=fun u hu=>(yv.mp hu).elim (hW.uk u) fun z=>yu.mp z▸KD8.of hm ht
 walk_at "x"
 refine zP ?_
 refine⟨d5,X.n,X.k,ts++[(t,("standing" : Str))],as++[d3],by rw[hvl,hml0],by rw[yx];exact hd5,hdr,huk,by omega,by omega,by omega,by have:=hW.hn.k9;omega,by rw[yl];show _+1<=_;omega,fun r H6 ps fr e6 hr6 hpl hR6 hfp=>?_⟩
 rw[yy]at hpl hR6
 have e06:=e05.trans e6
 have hru6:=e06.at hru
 have hmv6:=e06.at hmv
 have hmr6:=hW.mr.same e06
 have hbd:∀i:Nat,Internal.Within 1000000000 X.k (zaf (ts++[(t,("standing" : Str))]) (i:Int)):=fun i j _=>by
  have:=zcP (ts:=ts++[(t,("standing" : Str))]) (fun u hu=>⟨(huk u hu).u0,(huk u hu).u1⟩) (i:Int) j
  rw[yl]at this
  have h1:[(t,("standing" : Str))].length=1:=rfl
  omega
 have hfw:WithinR 1000000000 X.ms.length X.k X.F:=fun i' hi' j hj=>by have:=hW.hn.fw i' (by rw[<- hW.ml];exact hi') j hj;omega
 walk_at "x"
 refine zaw (zbn (K:=K) (a:=r) (xs:=ps.map V.ref)) (fun H' e=>SqL.of (e.at hr6)) rfl (fun i vs H'=>∃(rs:List Addr) (A B:Nat->Int),vs=rs.map V.ref/\rs.length=i/\∀(j:Nat) c,rs[j]?=some c->H' c=some (.tup [.int (A j),.int (B j)])/\IsNd X.w (zai (ts++[(t,("standing" : Str))]) (j:Int) X.k X.F) X.bs.length X.c (A j) (B j)) (fun H' _=>⟨[],fun _=>0,fun _=>0,rfl,rfl,fun j c h=>nomatch h⟩) ?_ ?_
 ·rintro i x D vs o H7 H8 hi hD e7 hv hvl ⟨rs,A',B',rfl,hrl,hAB⟩ e8 hx
  rw[ya]at hi
  obtain⟨b,hb⟩:=zQ hi
  have ex:x=.ref b:=by rw[yh,hb]at hx;exact(yo hx).symm
  subst ex
  have e78:=e7.trans e8
  have hb8:=e78.at (hR6.2 _ _ hb)
  have hru8:=e78.at hru6
  have hmv8:=e78.at hmv6
  have hv8:=e8.at hv
  have hcs:(rs.map V.ref).length<=1000:=by rw[ya];omega
  walk_at "x"
  refine zP ?_
  refine⟨b,X.ru,X.mv,X.w,X.c,X.ms,X.k,zaf (ts++[(t,("standing" : Str))]) (i:Int),X.F,1000000000,rfl,hb8,hru8,hmv8,hmr6.same e78,hbd i,hfw,by decide,hW.hn.k9,by rw[hW.ml];exact hW.hn.n64,by rw[hW.ml];exact hW.hn.ok,fun rb H9 a0 b0 frb e9 hrb hnd=>?_⟩
  rw[hW.ml]at hnd
  have hv9:=e9.at hv8
  walk_at "x"
  rename_i H10 b10 h10
  refine⟨⟨_,rfl⟩,b10.same (e78.trans e9) hD,_,h10,by rw[yl];exact yc hvl,rs++[rb],fun j=>if j=i then a0 else A' j,fun j=>if j=i then b0 else B' j,by rw[yx];rfl,by rw[yl,hrl];rfl,fun j c hc=>?_⟩
  dsimp only
  rw[yao]at hc
  split at hc
  ·rename_i hj
   have hne:j≠i:=by omega
   rw[if_neg hne,if_neg hne]
   exact⟨b10.tup (e9.at (e8.at (hAB j c hc).1)),(hAB j c hc).2⟩
  ·rename_i hj
   have ej:j-rs.length=0:=by
    cases e:j-rs.length with
    | zero=>rfl
    | succ m=>rw[e]at hc;cases hc
   have eji:j=i:=by omega
   rw[ej]at hc
   cases hc
   subst eji
   rw[if_pos rfl,if_pos rfl]
   exact⟨b10.tup hrb,hnd⟩
 rintro nl H7 vs fnl e7 hnl _ ⟨rs,A',B',rfl,hrl,hAB⟩
 rw[ya,hpl]at hrl
 have e07:=e06.trans e7
 have hlp7:=e07.at hlp
 have hl7:=e07.at hl'
 obtain⟨⟨p0,p1⟩,⟨q0,q1⟩,pq⟩:=id hm
 obtain⟨rp,hrp⟩:=zQ (show t.p.toNat<rs.length by omega)
 obtain⟨rq,hrq⟩:=zQ (show t.q.toNat<rs.length by omega)
 have hatp:atI (rs.map V.ref) t.p=some (.ref rp):=zaY p0 (by rw[yh,hrp];rfl)
 have hatq:atI (rs.map V.ref) t.q=some (.ref rq):=zaY q0 (by rw[yh,hrq];rfl)
 obtain⟨hp7,hnp⟩:=hAB _ _ hrp
 obtain⟨hq7,hnq⟩:=hAB _ _ hrq
 walk_at "x"
 rename_i ms H8 fms e8 hms pr H9 fpr e9 hpr
 rw[hvl]at hms
 have e09:=e07.trans (e8.trans e9)
 have hL9:=e09.at hlp
 have hnl9:=(e8.trans e9).at hnl
 have hp9:=(e8.trans e9).at hp7
 have hq9:=(e8.trans e9).at hq7
 have fms0:H ms=none:=Same.none fms e07
 have b0:=hnp.b0
 have b1:=hnp.b1
 have b2:=hnq.b0
 have b3:=hnq.b1
 have bs1:sz (B' t.p.toNat)<=9000:=yb (zb3 (n:=20) (by omega)) (by decide)
 have bs2:sz (B' t.q.toNat)<=9000:=yb (zb3 (n:=20) (by omega)) (by decide)
 obtain⟨vp,hvp⟩:∃v,v=zaK (zcr (A' t.p.toNat) (B' t.p.toNat)-L t.p.toNat):=⟨_,rfl⟩
 obtain⟨vq,hvq⟩:∃v,v=zaK (zcr (A' t.q.toNat) (B' t.q.toNat)-L t.q.toNat):=⟨_,rfl⟩
 have nem:∀{x:Addr} {o:HO},H7 x=some o->x≠ms:=fun {x o} h=>zG h fms
 have n1:=nem hnl
 have n2:=nem hlp7
 have n3:pr≠ms:=zcy fpr hms
 have pn:t.p.toNat≠t.q.toNat:=by omega
 have hf0:(vec X.n fun _=>(0:Int))=vec X.n fun i=>if 1<0/\i=t.q.toNat then vq else if 0<0/\i=t.p.toNat then vp else 0:=zaI fun i _=>by rw[if_neg (by omega),if_neg (by omega)]
 refine zdP (xs:=[.int t.p,.int t.q]) (fun j σ' H'=>∃f8:Option V,σ'=[some (.ref X.ro),some (.ref X.lp),some (.ref X.ru),some (.ref X.mv),some (.ref l),some (.ref r),some (.ref nl),some (.ref ms),f8]/\Same H7 H'/\H' pr=some (.lst [.int t.p,.int t.q])/\H' ms=some (.lst ((vec X.n fun i=>if 1<j/\i=t.q.toNat then vq else if 0<j/\i=t.p.toNat then vp else 0).map V.int))) ⟨_,rfl,e8.trans e9,hpr,by rw[e9.at hms,hf0]⟩ ?_ ?_ ?_
 ·rintro j σ' H' _ ⟨_,_,_,g,_⟩;exact SqL.of g
 ·rintro j x σ' H10 hx ⟨f8,rfl,e10,hpr10,h10⟩
  have hj:j<2:=(ym.mp hx).1
  have hnl10:=e10.at hnl
  have hL10:=e10.at hlp7
  have hp10:=e10.at hp7
  have hq10:=e10.at hq7
  obtain rfl | rfl:j=0\/j=1:=by omega
  ·have ex:x=.int t.p:=(yo hx).symm
   subst ex
   walk_at "x"
   rename_i H11 b11 h11
   refine⟨_,rfl,b11.same e10 fms,b11.lst hpr10 n3,?_⟩
   rw[h11,zaI fun i hi=>?_]
   by_cases h:i=t.p.toNat
   ·rw[if_pos h,if_neg (show ¬(1<0+1/\i=t.q.toNat) by omega),if_pos (show 0<0+1/\i=t.p.toNat from⟨by omega,h⟩),hvp];rfl
   ·rw[if_neg h,if_neg (by omega),if_neg (by omega),if_neg (by omega),if_neg (by omega)]
  ·have ex:x=.int t.q:=(yo hx).symm
   subst ex
   walk_at "x"
   rename_i H11 b11 h11
   refine⟨_,rfl,b11.same e10 fms,b11.lst hpr10 n3,?_⟩
   rw[h11,zaI fun i hi=>?_]
   by_cases h:i=t.q.toNat
   ·rw[if_pos h,if_pos (show 1<1+1/\i=t.q.toNat from⟨by omega,h⟩),hvq];rfl
   ·rw[if_neg h,if_neg (show ¬(1<1/\i=t.q.toNat) by omega),if_neg (show ¬(1<1+1/\i=t.q.toNat)from fun z=>h z.2)]
    by_cases h':i=t.p.toNat
    ·rw[if_pos (show 0<1/\i=t.p.toNat from⟨by omega,h'⟩),if_pos (show 0<1+1/\i=t.p.toNat from⟨by omega,h'⟩)]
    ·rw[if_neg (show ¬(0<1/\i=t.p.toNat)from fun z=>h' z.2),if_neg (show ¬(0<1+1/\i=t.p.toNat)from fun z=>h' z.2)]
 ·rintro σ' H10 ⟨f8,rfl,e10,hpr10,h10⟩
  walk_at "x"
  have l2:[V.int t.p,V.int t.q].length=2:=rfl
  refine q ms H10 _ _ _ fms0 (e07.trans e10) h10 (Miss.of (ap:=A' t.p.toNat) (bp:=B' t.p.toNat) (aq:=A' t.q.toNat) (bq:=B' t.q.toNat) ?_ ?_ ?_ ?_ fun i h1 h2=>?_)
  ·rw[show((t.p.toNat:Nat):Int)=t.p by omega]at hnp;exact hnp
  ·rw[show((t.q.toNat:Nat):Int)=t.q by omega]at hnq;exact hnq
  ·rw[if_neg (fun z=>pn z.2),if_pos ⟨by rw[l2];decide,rfl⟩,hvp]
  ·rw[if_pos ⟨by rw[l2];decide,rfl⟩,hvq]
  ·rw[if_neg (fun z=>h2 z.2),if_neg (fun z=>h1 z.2)]
theorem zfc(T:Txt K mg):FnOk P w K mg base (CXF P w) 9 T.d__law_struck.a T.d__law_struck.fd ["_law_house", "_law_rows", "_law_pledges", "_law_rule", "_law_moves_here", "_law_deed_here"] (zhJ K T.c_House T.c_Book lP lQ):=by
 refine T.d__law_struck.F.okN sc__law_struck (fun vs H Q E h=>?_) (fun cdv A outer s H vs Q E hr h=>?_)
 ·obtain⟨H0,X,P,L,ts,as,zs,l,t,B,rfl,_⟩:=h;rfl
 obtain⟨H0,X,P,L,ts,as,zs,l,t,B,rfl,hW,hl,hlm,hD,n9,n2,k1,htl,hB,B0,B1,hP,q⟩:=h
 have hvl:((vec X.n L).map V.int).length=X.n:=by rw[ya,zO]
 have hlp:=hW.lp
 have hl':H l=some (.lst [.str "strike",.int t.p,.int t.q,.int t.w,.int t.u,.int t.a,.int t.y,.int t.r]):=hl
 have hsz:∀i,i<X.n->sz (L i)<=60000:=fun i hi=>by
  have:=hB i hi
  exact yb (sz200 (by omega) (by omega)) (by decide)
 have hBm:BdF X.n L (B+1000000000):=hB.mono (by omega)
 have cl_House:=T.cl_House
 refine⟨_,(zd (zB (i:=6) sc__law_struck.nd rfl (Or.inl rfl) (zt (show CallR _ _ (zam K)from zN) rfl T.z_len BT.len (za (pv 2) zb)))
 (zd (zI (PW.pt (zap (zo zaL (zt (ziH rfl) rfl T.z_min BT.min (za (zj (show IxR _ (rIx K)from zh) (pv 5) zc (fun _ _=>rfl)) (za (zj (show IxR _ (rIx K)from zh) (pv 5) zc (fun _ _=>rfl)) zb))) zc (nomark _)) (zap (zo zeT (zt (zcJ rfl) rfl T.z_max BT.max (za (zj (show IxR _ (rIx K)from zh) (pv 5) zc (fun _ _=>rfl)) (za (zj (show IxR _ (rIx K)from zh) (pv 5) zc (fun _ _=>rfl)) zb))) (pv 6) (nomark _)) (zaj (zo (show OpR _ (compareOp .Eq) (z3 K)from zV hr.units) (zj (show IxR _ (rIx K)from zh) (pv 5) zc (fun _ _=>rfl)) (zj (show IxR _ (rIx K)from zh) (pv 5) zc (fun _ _=>rfl)) (nomark _))))))
 (zf (zH (zbZ (show OpR _ (compareOp .Eq) (z3 K)from zV hr.units) (zp (za8 (base:=base) T) (hr.mono (by decide)) rfl T.d__law_found.m T.d__law_found.F.kp T.d__law_found.b .nil (zy zw) (za (pv 0) (za (pv 5) zb))) (zad (za zA (za zA zb))) (nomark _))))
 zu)
 (zd (zI (zo zaL (zt (show CallR _ _ (zf1 K)from ziK rfl) rfl T.z_min BT.min (za (zbU (show SlR _ (zcU K)from zcD) (pv 5) (zci zc) zck) zb)) zc (nomark _))
 (zf (zH (zbZ (show OpR _ (compareOp .Eq) (z3 K)from zV hr.units) (zp (za8 (base:=base) T) (hr.mono (by decide)) rfl T.d__law_found.m T.d__law_found.F.kp T.d__law_found.b .nil (zy zw) (za (pv 0) (za (pv 5) zb))) (zad (za zA (za zA zb))) (nomark _))))
 zu)
 (zd (zB (i:=7) sc__law_struck.nd rfl (Or.inl rfl) (zp (zeo (base:=base) T) (hr.mono (by decide)) rfl T.d__law_short_of.m T.d__law_short_of.F.kp T.d__law_short_of.b .nil (zy zw) (za (pv 1) (za (pv 2) (za (pv 3) (za (pv 4) (za (pv 5) zb)))))))
 (zaS (zI (zo zb9 (zt (show CallR _ _ (zeX K)from zdE rfl) rfl T.z_max BT.max (za (pv 7) zb)) zc (nomark _))
 (zd (zI (PW.pt (zap (zo (show OpR _ (compareOp .NotEq) (zb6 K)from zcs hr.units) (zp (za8 (base:=base) T) (hr.mono (by decide)) rfl T.d__law_found.m T.d__law_found.F.kp T.d__law_found.b .nil (zy zw) (za (pv 0) (za (pv 5) zb))) (zad (za zA (za zA zb))) (nomark _)) (zaj (zcW (show PT _ _ (zbN K _)from zZ (zp (zdd (base:=base) T) (hr.mono (by decide)) rfl T.d__law_stands.m T.d__law_stands.F.kp T.d__law_stands.b .nil (zy zw) (za (pv 0) (za (pv 1) (za (pv 2) (za (pv 3) (za (pv 4) zb)))))) (fun _=>rfl))))))
 (zf (zH zbS))
 zu)
 (zd (zI (zo zb9 (zt (show CallR _ _ (zeX K)from zdE rfl) rfl T.z_max BT.max (za (pv 7) zb)) (zr zdO zc zc) (nomark _))
 (zf (zH zbS))
 zu)
 (zd (zB (i:=8) sc__law_struck.nd rfl (Or.inl rfl) (show PE _ _ (tBM K _ _ _ _)from zcm yC PySem.F.slot_list_index PySem.F.type_list_index zkj (pv 7) (za (zt (show CallR _ _ (zeX K)from zdE rfl) rfl T.z_max BT.max (za (pv 7) zb)) zb)))
 (zd (zbw PassesOwn.never rfl (show PI _ _ _ (zbc K _)from zaz (zax (za (zj (show IxR _ (rIx K)from zh) (pv 5) zc (fun _ _=>rfl)) (za (zj (show IxR _ (rIx K)from zh) (pv 5) zc (fun _ _=>rfl)) zb)))) (zay (i:=9) sc__law_struck.nd rfl (Or.inl rfl))
 (zd (zR (zU (pv 0) T.cl_House T.d_House_put.mt (zgT (base:=base) T) (hr.mono (by decide)) T.d_House_put.b .nil (zy zw) (za (pv 9) (za (zj (show IxR _ (rIx K)from zh) (pv 7) (pv 9) (fun _ _=>rfl)) zb))))
 (zf (zR (zU (pv 0) T.cl_House T.d_House_lay.mt (zdy (base:=base) T) (hr.mono (by decide)) T.d_House_lay.b .nil (zy zw) (za (pv 9) (za (zr zaX (zj (show IxR _ (rIx K)from zh) (pv 7) (pv 9) (fun _ _=>rfl)) (zcj zim rfl T.z_int BT.int (za (zbZ (show OpR _ (compareOp .Eq) (z3 K)from zV hr.units) (pv 9) (pv 8) (nomark _)) zb))) zb)))))))
 (zd (zI (zo (show OpR _ (compareOp .NotEq) (zb6 K)from zcs hr.units) (zp (za8 (base:=base) T) (hr.mono (by decide)) rfl T.d__law_found.m T.d__law_found.F.kp T.d__law_found.b .nil (zy zw) (za (pv 0) (za (pv 5) zb))) (zad (za zA (za zA zb))) (nomark _))
 (zf (zH zbS))
 zu)
 (zd (zR (zU (pv 0) T.cl_House T.d_House_lay.mt (zdy (base:=base) T) (hr.mono (by decide)) T.d_House_lay.b .nil (zy zw) (za (pv 8) (za zc zb))))
 (zf (zbw PassesOwn.never rfl (zaZ rfl T.z_range (za (pv 6) zb)) (zay (i:=9) sc__law_struck.nd rfl (Or.inl rfl))
 (zf (zbJ (zr (show OpR _ (binaryOp .Add) (zJ K)from zC) (zj (show IxR _ (rIx K)from zh) (pv 2) (pv 9) (fun _ _=>rfl)) (zj (show IxR _ (rIx K)from zh) (pv 7) (pv 9) (fun _ _=>rfl))) (zbK (pv 2) (pv 9) zY)))))))))))
 zu)
 (zd (zR (show PE _ _ (tBM K _ _ _ _)from zcm yC yF yG zaW (pv 1) (za (zr (show OpR _ (binaryOp .Add) (zJ K)from zC) (zbU (show SlR _ (zcU K)from zcD) (pv 5) (zci zc) zck) (zax (za zA zb))) zb)))
 (zd (zB (i:=10) sc__law_struck.nd rfl (Or.inl rfl) (zp (za8 (base:=base) T) (hr.mono (by decide)) rfl T.d__law_found.m T.d__law_found.F.kp T.d__law_found.b .nil (zy zw) (za (pv 0) (za (pv 5) zb))))
 (zf (zH (znf (zbZ (show OpR _ (compareOp .Eq) (z3 K)from zV hr.units) (pv 10) (zad (za zA (za (zr zaX (zt (show CallR _ _ (zam K)from zN) rfl T.z_len BT.len (za (pv 1) zb)) zc) zb))) (nomark _)) (zme (show PE _ _ (zhA K _)from zlt (zt (show CallR _ _ (zaU K)from zaH) rfl T.z_isinstance BT.isinstance (za (zj (show IxR _ (rIx K)from zh) (pv 10) zc (fun _ _=>rfl)) (za (zdc (v:=.ty "bool") rfl T.z_bool BT.bool rfl) zb))))))))))))))),?_⟩
 refine zF (σ0:=[some (.ref X.h),some (.ref X.ro),some (.ref X.lp),some (.ref X.ru),some (.ref X.mv),some (.ref l),none,none,none,none,none]) rfl ?_
 by_cases hm:zbd (X.n:Int) t.p t.q
 ·obtain⟨⟨p0,p1⟩,⟨q0,q1⟩,pq⟩:=id hm
  walk_at "x"
  all_goals first | (exfalso;omega) | skip
  rename_i hc1 hc2 d1 H1 fd1 e1 hd1
  clear hc1 hc2
  have hd1':H1 d1=some (.lst ([t.w,t.u,t.a,t.y,t.r].map V.int)):=hd1
  refine zP ?_
  refine zil (.of hd1') (by simp) fun x hx hmin=>?_
  have hW1:=hW.same e1
  have hl1:=e1.at hl
  by_cases ht:zaB (X.k:Int) t
  ·obtain⟨⟨w0,w1⟩,⟨u0,u1⟩,⟨a0,a1⟩,⟨y0,y1⟩,r0,r1⟩:=id ht
   have hx0:¬x<0:=by
    simp only[yf,yz,or_false]at hx
    omega
   walk_at "x"
   refine zP ?_
   refine⟨H0,X,P,L,ts,as,zs,l,t,rfl,hW1,hl1,hm,ht,n9,k1,by omega,fun ms H2 M cp cq fms e2 hms hM=>?_⟩
   have hW2:=hW1.same e2
   have fm:=hW1.fresh fms
   have hl2:=e2.at hl1
   have hZ:=(hW2.more (l:=l) hl2 hlm).more (l:=ms) hms fm.1
   have hMp:=hM.p
   have hMq:=hM.q
   have hMo:=hM.o
   have mp0:0<=M t.p.toNat:=by rw[hMp];unfold zaK;split<;>omega
   have mq0:0<=M t.q.toNat:=by rw[hMq];unfold zaK;split<;>omega
   have hne:vec X.n M≠[]:=fun z=>by have:=congrArg List.length z;rw[zO]at this;have:X.n=0:=this;omega
   have memv:∀{i:Nat},i<X.n->M i∈vec X.n M:=fun {i} hi=>yq (zbf hi)
   have hml:(vec X.n M).length=X.n:=zO ..
   have maxu:∀{x y:Int},x∈vec X.n M->(∀z∈vec X.n M,z<=x)->y∈vec X.n M->(∀z∈vec X.n M,z<=y)->y=x:=fun {x y} h1 h2 h3 h4=>Int.le_antisymm (h2 y h3) (h4 x h1)
   have pn:t.p.toNat≠t.q.toNat:=by omega
   walk_at "x"
   rw[hvl]
   refine zb0 (fun σ' H'=>∃(f8 f9:Option V) (P' L':Nat->Int),σ'=[some (.ref X.h),some (.ref X.ro),some (.ref X.lp),some (.ref X.ru),some (.ref X.mv),some (.ref l),some (.int (X.n:Int)),some (.ref ms),f8,f9,none]/\KW K T.c_House T.c_Book lP lQ H0 X H' P' L' L' ts ts as ((l,.str "strike" :: za2 t) :: zs)/\BdF X.n L' (B+1000000000)/\(∀i,i<X.n->0<=P' i)/\¬L' t.p.toNat<cp/\¬L' t.q.toNat<cq) ?_ ?_
   ·walk_at "x"
    refine zP ?_
    refine zgN (.of hms) hne fun x1 hx1 hmx1=>?_
    walk_at "x"
    ·rename_i hpos
     obtain⟨j,hj,hjf⟩:=zgv hx1
     have hjn:j<X.n:=by have:=(ym.mp hj).1;rwa [hml]at this
     have hMj:M j=x1:=by rw[zbf hjn]at hj;exact yo hj
     have hjpq:j=t.p.toNat\/j=t.q.toNat:=by
      by_cases c1:j=t.p.toNat
      ·exact .inl c1
      ·by_cases c2:j=t.q.toNat
       ·exact .inr c2
       ·have:=hMo j c1 c2;omega
     have hlack:L t.p.toNat<cp\/L t.q.toNat<cq:=by
      rcases hjpq with c | c
      ·rw[c,hMp]at hMj;unfold zaK at hMj;split at hMj<;>omega
      ·rw[c,hMq]at hMj;unfold zaK at hMj;split at hMj<;>omega
     refine zP ?_
     refine zgQ hZ hsz (by omega) hl2 hm ht hM hlack fun r3 H3 hZ3 hr3=>?_
     walk_at "x"
     refine zan (by first | decide | simp) fun r4 H4 fr4 e4 hr4=>?_
     refine zi5 (e4.at hr3) hr4 zbR (zb1 3) ?_
     have hZ4:=hZ3.same e4
     walk_at "x"
     refine zP ?_
     refine⟨H0,X,P,L,ts,as,_,rfl,hZ4,n9,k1,by omega,hsz,fun H5 s5 t5=>?_⟩
     have hZ5:=hZ4.sameT s5 t5
     have hms5:=hZ5.zl _ (.head _)
     walk_at "x"
     refine zP ?_
     refine zgN (.of hms5) hne fun x2 hx2 hmx2=>?_
     obtain rfl:=maxu hx1 hmx1 hx2 hmx2
     walk_at "x"
     ·exact q H5 P L ts as hZ5.less.less hBm hP (by omega)
     ·rename_i hbig
      have M9:∀i,i<X.n->0<=M i/\M i<=1000000000:=fun i hi=>by
       have h1:=hmx1 _ (memv hi)
       by_cases c1:i=t.p.toNat
       ·rw[c1]at h1 ⊢;omega
       ·by_cases c2:i=t.q.toNat
        ·rw[c2]at h1 ⊢;omega
        ·have:=hMo i c1 c2;omega
      refine zP ?_
      refine zgN (.of hms5) hne fun x3 hx3 hmx3=>?_
      obtain rfl:=maxu hx1 hmx1 hx3 hmx3
      refine zP ?_
      refine zlj hms5 hj hjf (by rw[hml];omega) ?_
      have hl5':H5 l=some (.lst [.str "strike",.int t.p,.int t.q,.int t.w,.int t.u,.int t.a,.int t.y,.int t.r]):=hZ5.zl _ (.tail _ (.head _))
      walk_at "x"
      rename_i pr H6 fpr e6 hpr
      have hZ6:=(hZ5.same e6).more hpr (hZ5.fresh fpr).1
      refine zdP (xs:=[.int t.p,.int t.q]) (fun i σ' H'=>∃(f9:Option V) (P' L':Nat->Int),σ'=[some (.ref X.h),some (.ref X.ro),some (.ref X.lp),some (.ref X.ru),some (.ref X.mv),some (.ref l),some (.int (X.n:Int)),some (.ref ms),some (.int (j:Int)),f9,none]/\KW K T.c_House T.c_Book lP lQ H0 X H' P' L' L ts ts as ((pr,[.int t.p,.int t.q]) :: (ms,(vec X.n M).map V.int) :: (l,.str "strike" :: za2 t) :: zs)/\∀m,m<X.n->P' m=P m+zc6 t.p.toNat t.q.toNat i j m/\L' m=L m+zdv M t.p.toNat t.q.toNat i j m) ⟨_,P,L,rfl,hZ6,fun m hm=>by rw[(zgg (M:=M)).1,(zgg (M:=M)).2,Int.add_zero,Int.add_zero];exact⟨rfl,rfl⟩⟩ ?_ ?_ ?_
      ·rintro i σ' H7 _ ⟨f9,P',L',rfl,hZ7,_⟩;exact SqL.of (hZ7.zl _ (.head _))
      ·rintro i x σ' H7 hx' ⟨f9,P',L',rfl,hZ7,hPL⟩
       have hi2:i<2:=(ym.mp hx').1
       have hms7:=hZ7.zl (ms,(vec X.n M).map V.int) (.tail _ (.head _))
       obtain⟨e,rfl,he0,he1,hie⟩:∃e:Int,x=.int e/\0<=e/\e<X.n/\((i=0/\e=t.p)\/(i=1/\e=t.q)):=by
        obtain rfl | rfl:i=0\/i=1:=by omega
        ·exact⟨t.p,(yo hx').symm,p0,p1,.inl ⟨rfl,rfl⟩⟩
        ·exact⟨t.q,(yo hx').symm,q0,q1,.inr ⟨rfl,rfl⟩⟩
       have hen:e.toNat<X.n:=by omega
       have hMe:=M9 _ hen
       have hPe:=hPL _ hen
       have hP0:=hP _ hen
       obtain⟨dx7,hh7⟩:=hZ7.hc.ob
       have hmo:mOk X.n e:=⟨he0,he1⟩
       walk_at "x"
       refine zP ?_
       refine⟨X.h,X.A,X.own,e,M e.toNat,X.n,P',L',rfl,hZ7.hc,fun _ _ H8 b8 h8=>?_,fun z=>absurd hmo z,fun _ z=>absurd (show tOk (M e.toNat)from hMe) z⟩
       have hZ8:=hZ7.pu b8.l h8
       obtain⟨dx8,hh8⟩:=hZ8.hc.ob
       have hms8:=hZ8.zl (ms,(vec X.n M).map V.int) (.tail _ (.head _))
       walk_at "x"
       refine zP ?_
       refine .inr ⟨_,rfl,?_⟩
       have hd:(if decide (e=(j:Int))=true then(1:Int)else 0)=dj j e.toNat:=by
        by_cases c:e=(j:Int)
        ·rw[if_pos (decide_eq_true c),show e.toNat=j by clear hPe;omega,zda]
        ·rw[if_neg (by rw[decide_eq_true_eq];exact c),zeL (by clear hPe;omega)]
       have hie':(i=0/\e.toNat=t.p.toNat)\/(i=1/\e.toNat=t.q.toNat):=hie.imp (fun z=>⟨z.1,by rw[z.2]⟩) fun z=>⟨z.1,by rw[z.2]⟩
       have htk:tOk (M e.toNat-dj j e.toNat):=by
        have h0:=zf4 j e.toNat
        by_cases c:e.toNat=j
        ·have h1:0<M e.toNat:=by rw[c,hMj];exact hpos
         exact⟨by omega,by omega⟩
        ·rw[zeL c];exact⟨by omega,by omega⟩
       have hPn:0<=P' e.toNat:=by
        have:=zl2 (p:=t.p.toNat) (q:=t.q.toNat) (i:=i) (j:=j) (m:=e.toNat)
        rw[hPe.1];omega
       walk_at "x"
       refine zP ?_
       rw[hd]
       refine⟨X.h,X.A,X.own,e,M e.toNat-dj j e.toNat,X.n,zbb P' e (M e.toNat),L',rfl,hZ8.hc,fun _ _ _ H9 H10 b9 h9 b10 h10=>?_,fun z=>absurd hmo z,fun _ z=>absurd htk z,fun _ _ z=>?_⟩
       ·exact⟨_,_,_,rfl,(hZ8.pu b9.l h9).pl b10.l h10,fun m hm=>⟨zjS hie' pn (hPL m hm).1,zjE hie' pn (hPL m hm).2⟩⟩
       ·unfold zbb at z
        rw[if_pos rfl]at z
        have:=zf4 j e.toNat
        clear hPe
        omega
      ·rintro σ' H7 ⟨f9,P7,L7,rfl,hZ7,hPL⟩
       have hPL':∀m,m<X.n->P7 m=P m+dj j m/\L7 m=L m+(M m-dj j m):=fun m hm=>by
        have h1:=hPL m hm
        have h2:=zlW (M:=M) (m:=m) hjpq (hMo m)
        rw[show[V.int t.p,V.int t.q].length=2 from rfl,h2.1,h2.2]at h1
        exact h1
       have hl7:=hZ7.zl (l,.str "strike" :: za2 t) (.tail _ (.tail _ (.head _)))
       have hsz7:∀i,i<X.n->sz (L7 i)<=60000:=fun i hi=>by
        have h1:=hB i hi
        have h2:=M9 i hi
        have h3:=(hPL' i hi).2
        have h4:=zf4 j i
        exact yb (sz200 (by omega) (by omega)) (by decide)
       have hPLj:=(hPL' j hjn).2
       have hlack7:L7 t.p.toNat<cp\/L7 t.q.toNat<cq:=by
        rw[zda]at hPLj
        rcases hjpq with c | c
        ·rw[c]at hMj hPLj
         have h4:=hMp▸zgA (x:=cp-L t.p.toNat) (by rw[<- hMp,hMj];exact hpos)
         exact .inl (by omega)
        ·rw[c]at hMj hPLj
         have h4:=hMq▸zgA (x:=cq-L t.q.toNat) (by rw[<- hMq,hMj];exact hpos)
         exact .inr (by omega)
       walk_at "x"
       refine zP ?_
       refine zgQ hZ7 hsz7 (by omega) hl7 hm ht hM hlack7 fun r8 H8 hZ8 hr8=>?_
       walk_at "x"
       refine zan (by first | decide | simp) fun r9 H9 fr9 e9 hr9=>?_
       refine zi5 (e9.at hr8) hr9 zbR (zb1 3) ?_
       have hZ9:=hZ8.same e9
       obtain⟨dx9,hh9⟩:=hZ9.hc.ob
       walk_at "x"
       show ziE T.c_House T.c_NoMember T.c_NoTerms T.c_Poor [V.ref X.h,V.int (j:Int),V.int 1] H9 _ E0
       refine⟨X.h,X.A,X.own,(j:Int),1,X.n,P7,L7,rfl,hZ9.hc,fun _ _ _ H10 H11 b10 h10 b11 h11=>?_,fun z=>absurd (show mOk X.n (j:Int) from⟨by omega,by omega⟩) z,fun _ z=>absurd (show tOk 1 from⟨by decide,by decide⟩) z,fun _ _ z=>?_⟩
       ·have hZ11:=(hZ9.pu b10.l h10).pl b11.l h11
        have hlp11:=hZ11.lp
        have hms11:=hZ11.zl (ms,(vec X.n M).map V.int) (.tail _ (.head _))
        walk_at "x"
        refine zdb (fun i σ' H'=>∃(f9:Option V) (G':Nat->Int),σ'=[some (.ref X.h),some (.ref X.ro),some (.ref X.lp),some (.ref X.ru),some (.ref X.mv),some (.ref l),some (.int (X.n:Int)),some (.ref ms),some (.int (j:Int)),f9,none]/\KW K T.c_House T.c_Book lP lQ H0 X H' (zbb P7 (j:Int) (-1)) (zbb L7 (j:Int) 1) G' ts ts as ((pr,[.int t.p,.int t.q]) :: (ms,(vec X.n M).map V.int) :: (l,.str "strike" :: za2 t) :: zs)/\∀m,m<X.n->(m<i->G' m=L m+M m)/\(¬m<i->G' m=L m)) ⟨_,L,rfl,hZ11,fun m hm=>⟨fun z=>absurd z (Nat.not_lt_zero _),fun _=>rfl⟩⟩ ?_ ?_
        ·rintro i σ' H12 hi ⟨f9,G',rfl,hZ12,hG⟩
         rw[show((0:Int)+(i:Int))=(i:Int) by omega]
         have hlp12:=hZ12.lp
         have hms12:=hZ12.zl (ms,(vec X.n M).map V.int) (.tail _ (.head _))
         have hin:i<X.n:=by omega
         walk_at "x"
         rename_i H13 b13 h13
         refine⟨_,_,rfl,hZ12.lq b13.l h13,fun m hm=>?_⟩
         have h1:=hG m hm
         rw[yy]
         by_cases c:m=i
         ·rw[if_pos c]
          exact⟨fun _=>by rw[h1.2 (by omega),c]at *;rw[(hG i hin).2 (by omega)],fun z=>absurd z (by omega)⟩
         ·rw[if_neg c]
          exact⟨fun z=>h1.1 (by omega),fun z=>h1.2 (by omega)⟩
        ·rintro σ' H12 ⟨f9,G',rfl,hZ12,hG⟩
         rw[yy]at hG
         have hG':∀m,m<X.n->G' m=L m+M m:=fun m hm=>(hG m hm).1 hm
         have hL:∀m,m<X.n->zbb L7 (j:Int) 1 m=G' m:=fun m hm=>by
          have h1:=(hPL' m hm).2
          have h2:=hG' m hm
          unfold zbb
          rw[yy]
          by_cases c:m=j
          ·rw[if_pos c,<- c,h1,h2,c,zda];omega
          ·rw[if_neg c,h1,h2,zeL c];omega
         refine⟨_,_,_,G',rfl,(hZ12.congr (fun _ _=>rfl) hL (fun _ _=>rfl)).less.less,fun m hm=>?_,fun m hm=>?_,?_,?_⟩
         ·have h2:=hB m hm
          have h3:=M9 m hm
          rw[hG' m hm]
          omega
         ·have h1:=(hPL' m hm).1
          have h2:=hP m hm
          unfold zbb
          rw[yy]
          by_cases c:m=j
          ·rw[if_pos c,<- c,h1,c,zda];rw[c]at h2;omega
          ·rw[if_neg c,h1,zeL c];omega
         ·rw[hG' _ (by omega),hMp]
          have:=zhr (cp-L t.p.toNat)
          omega
         ·rw[hG' _ (by omega),hMq]
          have:=zhr (cq-L t.q.toNat)
          omega
       ·have h1:=(hPL' j hjn).1
        have h2:=hP j hjn
        rw[yy]at z
        rw[zda]at h1
        omega
    ·rename_i hpos
     have h1:=hmx1 _ (memv (i:=t.p.toNat) (by omega))
     have h2:=hmx1 _ (memv (i:=t.q.toNat) (by omega))
     refine⟨_,_,P,L,rfl,hZ.less,hBm,hP,?_,?_⟩
     ·rw[hMp]at h1;unfold zaK at h1;split at h1<;>omega
     ·rw[hMq]at h2;unfold zaK at h2;split at h2<;>omega
   ·rintro σ' H3 ⟨f8,f9,P',L',rfl,hW3,hB3,hP3,c1,c2⟩
    have hl3:=hW3.zl _ (.head _)
    have hl3':H3 l=some (.lst [.str "strike",.int t.p,.int t.q,.int t.w,.int t.u,.int t.a,.int t.y,.int t.r]):=hl3
    have hro3:=hW3.ro
    have hal:=hW.dr.2.1
    have hmap:(as.map V.ref).length=as.length:=ya ..
    have hsz3:∀i,i<X.n->sz (L' i)<=60000:=fun i hi=>by
     have:=hB3 i hi
     exact yb (sz200 (by omega) (by omega)) (by decide)
    walk_at "x"
    rename_i d4 H4 fd4 e4 hd4 s4 H5 fs4 e5 hs4
    have hd5:H5 d4=some (.lst [.int t.p,.int t.q,.int t.w,.int t.u,.int t.a,.int t.y,.int t.r]):=e5.at hd4
    refine zeB hd5 hs4 (by show 8<=100000;decide) fun d6 H6 fd6 e6 hd6=>?_
    have hd6':H6 d6=some (.lst (zbs (t,("standing" : Str)))):=hd6
    have hW5:=hW3.same (e4.trans e5)
    have f6:=hW5.fresh fd6
    have hW6:=hW5.same e6
    have hro6:=hW6.ro
    refine zP ?_
    refine zcq hro6 (by omega) fun H7 b7 h7=>?_
    have hW7:=hW6.add b7.l hd6' f6.1 f6.2.1 f6.2.2 (by rw[yx];exact h7) (KD8.of hm ht)
    have hl7:=hW7.zl _ (.head _)
    walk_at "x"
    refine zP ?_
    refine zkv hW7 hsz3 (by omega) hl7 hm ht hM c1 c2 fun r8 H8 hW8 hr8=>?_
    have hro8:=hW8.ro
    walk_at "x"
    refine zan (by first | decide | simp) fun r9 H9 fr9 e9 hr9=>?_
    have hlen:(((as++[d6]).map V.ref).length:Int)-1=ts.length:=by
     rw[ya,yl,hal];show((ts.length+1:Nat):Int)-1=_;omega
    rw[hlen]at hr9
    have hr89:=e9.at hr8
    refine zmH hr89 hr9 zgH ?_
    walk_at "x"
    exact q H9 P' L' _ _ (hW8.same e9).less hB3 hP3 (by rw[yl];exact yg _)
  ·have hx0:x<0:=by
    have h1:=hmin t.w (by simp)
    have h2:=hmin t.u (by simp)
    have h3:=hmin t.a (by simp)
    have h4:=hmin t.y (by simp)
    have h5:=hmin t.r (by simp)
    rcases hD with z | z
    ·exact absurd z ht
    ·omega
   walk_at "x"
   refine zP ?_
   refine zj9 hW1 hsz (by omega) hl1 hm ht fun r H2 hW2 hr2=>?_
   walk_at "x"
   refine zan (by first | decide | simp) fun p3 H3 fp3 e3 hp3=>?_
   refine ze1 (e3.at hr2) hp3 zbR (zb1 2) ?_
   exact q H3 P L ts as (hW2.same e3) hBm hP (by omega)
 ·have nm:¬((0<=t.p/\t.p<(X.n:Int))/\(0<=t.q/\t.q<(X.n:Int))/\t.p≠t.q):=hm
  walk_at "x"
  all_goals first | (exfalso;omega) | skip
  all_goals
   refine zP ?_
   refine zjQ hW hsz (by omega) hl hm fun r H2 hW2 hr2=>?_
   walk_at "x"
   refine zan (by first | decide | simp) fun p3 H3 fp3 e3 hp3=>?_
   refine ze1 (e3.at hr2) hp3 zbR (zb1 1) ?_
   exact q H3 P L ts as (hW2.same e3) hBm hP (by omega)
theorem zfN(T:Txt K mg):FnOk P w K mg base (CXF P w) 8 T.d__law_freed.a T.d__law_freed.fd ["_law_script", "_law_at", "_law_house", "_law_rows", "_law_pledges", "_law_rule", "_law_moves_here"] (zix K T.c_House T.c_Book lP lQ):=by
 refine T.d__law_freed.F.okN sc__law_freed (fun vs H Q E h=>?_) (fun cdv A outer s H vs Q E hr h=>?_)
 ·obtain⟨H0,X,P,L,ts,as,zs,a,ns,z,B,rfl,_⟩:=h;rfl
 obtain⟨H0,X,P,L,ts,as,zs,a,ns,z,B,rfl,hS0,z0,z1,hW,n9,n2,k1,htl,hB,B0,B1,hP,q⟩:=h
 have hS:SqL K H a (ns.map V.int):=hW.e0.seq hS0
 have hvl:((vec X.n L).map V.int).length=X.n:=by rw[ya,zO]
 have hlp:=hW.lp
 have hmv:=hW.mv
 have hro:=hW.ro
 obtain⟨hw,c0,c1⟩:=id hW.hn.ok
 obtain⟨m0,hm0⟩:=zQ (show 0<X.ms.length by have:=hW.ml;omega)
 have hat0:atI (X.ms.map V.ref) 0=some (.ref m0):=zaY (by omega) (by rw[yh];show(X.ms[0]?).map _=_;rw[hm0];rfl)
 have hm0r:=hW.mr.2 _ _ hm0
 have hml0:((vec X.k (X.F 0)).map V.int).length=X.k:=by rw[ya,zO]
 have hsz:∀i,i<X.n->sz (L i)<=60000:=fun i hi=>by
  have:=hB i hi
  exact yb (sz200 (by omega) (by omega)) (by decide)
 refine⟨_,(zd (zB (i:=7) sc__law_freed.nd rfl (Or.inl rfl) (zp (zE (base:=base) T) (hr.mono (by decide)) rfl T.d__law_draw.m T.d__law_draw.F.kp T.d__law_draw.b .nil (zy zw) (za (pv 0) (za (pv 1) (za (zt (show CallR _ _ (zam K)from zN) rfl T.z_len BT.len (za (pv 4) zb)) zb)))))
 (zd (zB (i:=8) sc__law_freed.nd rfl (Or.inl rfl) (zp (zcY (base:=base) T) (hr.mono (by decide)) rfl T.d__law_need.m T.d__law_need.F.kp T.d__law_need.b .nil (zy zw) (za (zj (show IxR _ (rIx K)from zh) (zp (zb5 (base:=base) T) (hr.mono (by decide)) rfl T.d__law_positions.m T.d__law_positions.F.kp T.d__law_positions.b .nil (zy zw) (za (pv 3) (za (zt (show CallR _ _ (zam K)from zN) rfl T.z_len BT.len (za (pv 4) zb)) (za (zt (show CallR _ _ (zam K)from zN) rfl T.z_len BT.len (za (zj (show IxR _ (rIx K)from zh) (pv 6) zc (fun _ _=>rfl)) zb)) zb)))) (pv 7) (fun _ _=>rfl)) (za (pv 5) (za (pv 6) zb)))))
 (zd (zB (i:=9) sc__law_freed.nd rfl (Or.inl rfl) (zr zaX (zj (show IxR _ (rIx K)from zh) (pv 4) (pv 7) (fun _ _=>rfl)) (zr zdV (zr zaX (zr (show OpR _ (binaryOp .Add) (zJ K)from zC) (zj (show IxR _ (rIx K)from zh) (pv 8) zc (fun _ _=>rfl)) (zj (show IxR _ (rIx K)from zh) (pv 8) zc (fun _ _=>rfl))) zc) (zj (show IxR _ (rIx K)from zh) (pv 8) zc (fun _ _=>rfl)))))
 (zd (zB (i:=10) sc__law_freed.nd rfl (Or.inl rfl) (zt (zcJ rfl) rfl T.z_max BT.max (za zc (za (zr zaX (zr (show OpR _ (binaryOp .Add) (zJ K)from zC) (pv 9) (zp (zE (base:=base) T) (hr.mono (by decide)) rfl T.d__law_draw.m T.d__law_draw.F.kp T.d__law_draw.b .nil (zy zw) (za (pv 0) (za (zr (show OpR _ (binaryOp .Add) (zJ K)from zC) (pv 1) zc) (za zc zb))))) zc) zb))))
 (zaS (zI (zo (show OpR _ (compareOp .Eq) (z3 K)from zV hr.units) (zp (zE (base:=base) T) (hr.mono (by decide)) rfl T.d__law_draw.m T.d__law_draw.F.kp T.d__law_draw.b .nil (zy zw) (za (pv 0) (za (zr (show OpR _ (binaryOp .Add) (zJ K)from zC) (pv 1) zc) (za zc zb)))) zc (nomark _))
 (zf (zB (i:=10) sc__law_freed.nd rfl (Or.inl rfl) (zp (zbO (base:=base) T) (hr.mono (by decide)) rfl T.d__law_great.m T.d__law_great.F.kp T.d__law_great.b .nil (zy zw) (za (pv 0) (za (zr (show OpR _ (binaryOp .Add) (zJ K)from zC) (pv 1) zc) (za (zr (show OpR _ (binaryOp .Add) (zJ K)from zC) (zj (show IxR _ (rIx K)from zh) (pv 4) (pv 7) (fun _ _=>rfl)) zc) zb))))))
 zu)
 (zd (zB (i:=10) sc__law_freed.nd rfl (Or.inl rfl) (zt (show CallR _ _ zhL from zi2 rfl) rfl T.z_min BT.min (za (pv 10) (za (zj (show IxR _ (rIx K)from zh) (pv 4) (pv 7) (fun _ _=>rfl)) (za (zr zdO zc zc) zb)))))
 (zd (zB (i:=11) sc__law_freed.nd rfl (Or.inl rfl) (zp (za8 (base:=base) T) (hr.mono (by decide)) rfl T.d__law_found.m T.d__law_found.F.kp T.d__law_found.b .nil (zy zw) (za (pv 2) (za (zax (za zA (za (pv 7) (za (pv 10) zb)))) zb))))
 (zd (zI (zo zb9 (pv 10) (pv 9) (nomark _))
 (zf (zH (zbZ (show OpR _ (compareOp .Eq) (z3 K)from zV hr.units) (pv 11) (zad (za zA (za zA zb))) (nomark _))))
 zu)
 (zd (zbJ (zr zaX (zj (show IxR _ (rIx K)from zh) (pv 4) (pv 7) (fun _ _=>rfl)) (pv 10)) (zbK (pv 4) (pv 7) zY))
 (zf (zH (zbZ (show OpR _ (compareOp .Eq) (z3 K)from zV hr.units) (pv 11) (zad (za zA (za znc zb))) (nomark _))))))))))))),?_⟩
 refine zF (σ0:=[some (.ref a),some (.int z),some (.ref X.h),some (.ref X.ro),some (.ref X.lp),some (.ref X.ru),some (.ref X.mv),none,none,none,none,none]) rfl ?_
 walk_at "x"
 rename_i mb mb0 mb1
 have hmn:mb.toNat<X.n:=by omega
 refine zP ?_
 refine⟨X.ro,X.n,X.k,ts,as,by rw[hvl,hml0],hro,hW.dr,hW.uk,by omega,by omega,by omega,by have:=hW.hn.k9;omega,by omega,fun r H1 ps fr e1 hr1 hpl hR1 hfp=>?_⟩
 rw[yy]at hpl hR1
 obtain⟨b,hb⟩:=zQ (show mb.toNat<ps.length by omega)
 have hat:atI (ps.map V.ref) mb=some (.ref b):=zaY mb0 (by rw[yh,hb];rfl)
 have hb1:=hR1.2 _ _ hb
 have hW1:=hW.same e1
 have hbd:Internal.Within 1000000000 X.k (zaf ts mb):=fun j _=>by
  have:=zcP hW.hn.tu mb j
  omega
 dsimp only at hb1
 rw[show((mb.toNat:Nat):Int)=mb by omega]at hb1
 walk_at "x"
 refine zP ?_
 refine⟨b,X.ru,X.mv,X.w,X.c,X.ms,X.k,zaf ts mb,X.F,1000000000,rfl,hb1,hW1.ru,hW1.mv,hW1.mr,hbd,fun i' hi' j hj=>by have:=hW.hn.fw i' (by rw[<- hW.ml];exact hi') j hj;omega,by decide,hW.hn.k9,by rw[hW.ml];exact hW.hn.n64,by rw[hW.ml];exact hW.hn.ok,fun rb H2 ta tb frb e2 hrb hnd=>?_⟩
 rw[hW.ml]at hnd
 have hnd':IsNd X.w (zai ts mb X.k X.F) X.bs.length X.c ta tb:=hnd
 have b0:=hnd.b0
 have b1:=hnd.b1
 have a0:=hnd.a0
 have bs:sz tb<=9000:=yb (zb3 (n:=20) (by omega)) (by decide)
 have hW2:=hW1.same e2
 have hlp2:=hW2.lp
 have hS2:SqL K H2 a (ns.map V.int):=hW2.e0.seq hS0
 have hLb:=hB _ hmn
 walk_at "x"
 rename_i dr dr0 dr1
 rw[zkL (by omega)]
 obtain⟨most,hmost⟩:∃v,v=L mb.toNat-zcr ta tb:=⟨_,rfl⟩
 rw[<- hmost]
 refine zb0 (fun σ' H'=>∃co:Int,σ'=[some (.ref a),some (.int z),some (.ref X.h),some (.ref X.ro),some (.ref X.lp),some (.ref X.ru),some (.ref X.mv),some (.int mb),some (.ref rb),some (.int most),some (.int co),none]/\H'=H2/\0<=co) ?_ ?_
 ·walk_at "x"
  ·exact⟨_,rfl,rfl,by omega⟩
  ·exact⟨_,rfl,rfl,by split<;>omega⟩
 rintro σ' H3 ⟨co,rfl,rfl,co0⟩
 walk_at "x"
 refine zP ?_
 refine zmG fun x x1 x2 x3 x4=>?_
 have x0:0<=x:=by
  have h9:(10:Int) ^ (9:Int).toNat=1000000000:=rfl
  omega
 walk_at "x"
 rename_i l H4 fl e4 hl4
 have hW4:=hW2.same e4
 refine zP ?_
 refine⟨H0,X,P,L,L,ts,ts,as,zs,l,rfl,hW4,hsz,by omega,.inr (.inl ⟨mb,x,hl4,⟨mb0,by omega⟩,⟨x0,x3⟩,x2,yb (sz200 (by omega) (by omega)) (by decide),fun ql hL=>⟨fun hlt H5 hW5=>⟨_,3,rfl,.inr (.inr (.inl ⟨rfl,rfl⟩)),fun r6 H6 e6 hr6=>?_⟩,fun hnl H5 hW5 r6 H6 e6 hr6=>?_⟩⟩)⟩
 ·rw[hnd'.q ql hL,zdT (by omega)]at hlt
  have hgt:most<x:=by omega
  walk_at "x"
  refine zan (by first | decide | simp) fun r7 H7 fr7 e7 hr7=>?_
  refine ze1 (e7.at hr6) hr7 zbR (zb1 3) ?_
  exact q H7 P L (hW5.same (e6.trans e7)) hB hP
 ·rw[hnd'.q ql hL,zdT (by omega)]at hnl
  have hgt:¬most<x:=by omega
  have hW6:=hW5.same e6
  have hlp6:=hW6.lp
  walk_at "x"
  rename_i H7 b7 h7
  have hW7:=hW6.lq b7.l h7
  refine zan (by first | decide | simp) fun r8 H8 fr8 e8 hr8=>?_
  refine zmY (e8.at (b7.tup hr6)) hr8 zgH ?_
  have hG:∀i,i<X.n->(fun i=>if i=mb.toNat then L mb.toNat-x else L i) i=zbb L mb (-x) i:=fun i hi=>by
   unfold zbb
   dsimp only
   split<;>omega
  refine q H8 (zbb P mb x) (zbb L mb (-x)) ((hW7.same e8).congr (fun _ _=>rfl) (fun _ _=>rfl) hG) (fun i hi=>?_) fun i hi=>?_
  ·have h1:=hB i hi
   unfold zbb
   split
   ·omega
   ·exact h1
  ·have h1:=hP i hi
   unfold zbb
   split
   ·rename_i hh;rw[hh]at h1;omega
   ·exact h1
def zf0(K:Fg):Sp:=fun vs H Q _=>∃(a:Addr) (ns:List Int),vs=[.ref a]/\SqL K H a (ns.map V.int)/\ns.length<=63/\zfV ns/\(∀pos qual,Tb H (zel K "worst_days") pos qual)/\∀H',Q (.bl true) H'
theorem zmw(T:Txt K mg):FnOk P w K mg base (CXF P w) 10 T.d_law.a T.d_law.fd ["_law_script"] (zf0 K):=by
 refine T.d_law.F.okN sc_law (fun vs H Q E h=>?_) (fun cdv A outer s H vs Q E hr h=>?_)
 ·obtain⟨a,ns,rfl,_⟩:=h;rfl
 obtain⟨a,ns,rfl,hS,h63,hz,hTb,k⟩:=h
 have hT0:TbW K "worst_days" lP lQ H:=hTb lP lQ
 refine⟨_,(zd (zB (i:=1) sc_law.nd rfl (Or.inl rfl) (zr (show OpR _ (binaryOp .Add) (zJ K)from zC) zc (zp (zE (base:=base) T) (hr.mono (by decide)) rfl T.d__law_draw.m T.d__law_draw.F.kp T.d__law_draw.b .nil (zy zw) (za (pv 0) (za zc (za zc zb))))))
 (zd (zB (i:=2) sc_law.nd rfl (Or.inl rfl) (zr (show OpR _ (binaryOp .Add) (zJ K)from zC) zc (zp (zE (base:=base) T) (hr.mono (by decide)) rfl T.d__law_draw.m T.d__law_draw.F.kp T.d__law_draw.b .nil (zy zw) (za (pv 0) (za zc (za zc zb))))))
 (zd (zB (i:=3) sc_law.nd rfl (Or.inl rfl) (zr (show OpR _ (binaryOp .Add) (zJ K)from zC) zc (zp (zE (base:=base) T) (hr.mono (by decide)) rfl T.d__law_draw.m T.d__law_draw.F.kp T.d__law_draw.b .nil (zy zw) (za (pv 0) (za zc (za zc zb))))))
 (zaS (zI (zo (show OpR _ (compareOp .Eq) (z3 K)from zV hr.units) (zp (zE (base:=base) T) (hr.mono (by decide)) rfl T.d__law_draw.m T.d__law_draw.F.kp T.d__law_draw.b .nil (zy zw) (za (pv 0) (za zc (za zc zb)))) zc (nomark _))
 (zf (zB (i:=3) sc_law.nd rfl (Or.inl rfl) (zr (show OpR _ (binaryOp .Add) (zJ K)from zC) zc (zp (zE (base:=base) T) (hr.mono (by decide)) rfl T.d__law_draw.m T.d__law_draw.F.kp T.d__law_draw.b .nil (zy zw) (za (pv 0) (za zc (za zc zb)))))))
 zu)
 (zd (zB (i:=4) sc_law.nd rfl (Or.inl rfl) (zp (zfQ (base:=base) T) (hr.mono (by decide)) rfl T.d__law_moves.m T.d__law_moves.F.kp T.d__law_moves.b .nil (zy zw) (za (pv 0) (za zc (za (pv 3) (za (pv 2) zb))))))
 (zd (zB (i:=5) sc_law.nd rfl (Or.inl rfl) (zad (za (zj (show IxR _ (rIx K)from zh) (zax (za zA (za zA zb))) (zp (zE (base:=base) T) (hr.mono (by decide)) rfl T.d__law_draw.m T.d__law_draw.F.kp T.d__law_draw.b .nil (zy zw) (za (pv 0) (za zc (za zc zb)))) (fun _ _=>rfl)) (za (zr (show OpR _ (binaryOp .Add) (zJ K)from zC) zc (zp (zE (base:=base) T) (hr.mono (by decide)) rfl T.d__law_draw.m T.d__law_draw.F.kp T.d__law_draw.b .nil (zy zw) (za (pv 0) (za zc (za (pv 3) zb))))) zb))))
 (zd (zcQ (i:=6) sc_law.nd rfl rfl rfl (zaZ rfl T.z_range (za (pv 1) zb)) (zS (Ni:=["_law_k", "_law_script"]) (caps:=[none,some 0]) (by rfl)) (fun S _ _ _ _ _=>(z8 (gi:=0) S (Or.inl rfl) rfl)) (fun _ _ _ _ _=>zaM) (fun _ _ _ _ _=>(zp (zfh (base:=base) T) (hr.mono (by decide)) rfl T.d__law_pledge.m T.d__law_pledge.F.kp T.d__law_pledge.b .nil (zy zw) (za (pv 1) (za (zr (show OpR _ (binaryOp .Add) (zJ K)from zC) zc (zr zaO zc (pv 0))) zb)))))
 (zd (zB (i:=7) sc_law.nd rfl (Or.inl rfl) (zax zb))
 (zd (zcQ (i:=8) sc_law.nd rfl rfl rfl (show PI _ _ _ (zbc K _)from zaz (pv 4)) (zS (Ni:=["_law_row"]) (caps:=[none]) (by rfl)) (fun S _ _ _ _ _=>(z8 (gi:=0) S (Or.inl rfl) rfl)) (fun _ _ _ _ _=>zaM) (fun _ _ _ _ _=>(zcj (show CallR _ _ (zcl K)from zdh) rfl T.z_list BT.list (za (pv 0) zb))))
 (zd (zB (i:=9) sc_law.nd rfl (Or.inl rfl) (zg6 T.mk_House (zdZ (base:=base) T) (hr.mono (by decide)) rfl T.m_House T.d_House___init__.b .nil (zy zw) (za (zbt rfl (show PI _ _ _ (zbc K _)from zaz (pv 6)) (zS (Ni:=["_law_pledge_here"]) (caps:=[none]) (by rfl)) (fun S _ _ _ _ _=>(z8 (gi:=0) S (Or.inl rfl) rfl)) (fun _ _ _ _ _=>zaM) (fun _ _ _ _ _=>(zad (za zc (za (pv 0) (za zc zb)))))) (za (pv 8) (za (pv 5) (za (zax zb) (za zc zb)))))))
 (zd (zbw PassesOwn.never rfl (show PI _ _ _ (zbc K _)from zaz (pv 8)) (zay (i:=10) sc_law.nd rfl (Or.inl rfl))
 (zf (zbJ zc (zbK (pv 10) (zp (zE (base:=base) T) (hr.mono (by decide)) rfl T.d__law_draw.m T.d__law_draw.F.kp T.d__law_draw.b .nil (zy zw) (za (pv 0) (za zc (za (pv 2) zb)))) zY))))
 (zd (zR (show PE _ _ (tBM K _ _ _ _)from zcm yC yF yG zaW (pv 8) (za (zbt rfl (zaZ rfl T.z_range (za (pv 2) zb)) (zS (Ni:=["_law_ware"]) (caps:=[none]) (by rfl)) (fun S _ _ _ _ _=>(z8 (gi:=0) S (Or.inl rfl) rfl)) (fun _ _ _ _ _=>zaM) (fun _ _ _ _ _=>zc)) zb)))
 (zd (zbw PassesOwn.never rfl (zaZ rfl T.z_range (za (zr (show OpR _ (binaryOp .Add) (zJ K)from zC) zc (zt (show CallR _ _ (zam K)from zN) rfl T.z_len BT.len (za (zbU (show SlR _ (zcU K)from zcD) (pv 0) zck (zci zc)) zb))) zb)) (zay (i:=11) sc_law.nd rfl (Or.inl rfl))
 (zd (zB (i:=12) sc_law.nd rfl (Or.inl rfl) (zr (show OpR _ (binaryOp .Add) (zJ K)from zC) zc (zr zaO zc (pv 11))))
 (zd (zB (i:=13) sc_law.nd rfl (Or.inl rfl) (zp (zE (base:=base) T) (hr.mono (by decide)) rfl T.d__law_draw.m T.d__law_draw.F.kp T.d__law_draw.b .nil (zy zw) (za (pv 0) (za (pv 12) (za zc zb)))))
 (zd (zB (i:=14) sc_law.nd rfl (Or.inl rfl) zbS)
 (zaS (zI (zo zaL (pv 13) zc (nomark _))
 (zd (zB (i:=15) sc_law.nd rfl (Or.inl rfl) (zp (zf6 (base:=base) T) (hr.mono (by decide)) rfl T.d__law_deed.m T.d__law_deed.F.kp T.d__law_deed.b .nil (zy zw) (za (pv 0) (za (zr (show OpR _ (binaryOp .Add) (zJ K)from zC) (pv 12) zc) (za (pv 1) (za (pv 2) zb))))))
 (zf (zB (i:=14) sc_law.nd rfl (Or.inl rfl) (zp (zfc (base:=base) T) (hr.mono (by decide)) rfl T.d__law_struck.m T.d__law_struck.F.kp T.d__law_struck.b .nil (zy zw) (za (pv 9) (za (pv 7) (za (pv 6) (za (pv 5) (za (pv 4) (za (pv 15) zb))))))))))
 (zf (zI (zo zaL (pv 13) zc (nomark _))
 (zf (zB (i:=14) sc_law.nd rfl (Or.inl rfl) (zp (zfN (base:=base) T) (hr.mono (by decide)) rfl T.d__law_freed.m T.d__law_freed.F.kp T.d__law_freed.b .nil (zy zw) (za (pv 0) (za (zr (show OpR _ (binaryOp .Add) (zJ K)from zC) (pv 12) zc) (za (pv 9) (za (pv 7) (za (pv 6) (za (pv 5) (za (pv 4) zb))))))))))
 (zf (zI (zo zb9 (zt (show CallR _ _ (zam K)from zN) rfl T.z_len BT.len (za (pv 7) zb)) zc (nomark _))
 (zd (zB (i:=16) sc_law.nd rfl (Or.inl rfl) (zp (zE (base:=base) T) (hr.mono (by decide)) rfl T.d__law_draw.m T.d__law_draw.F.kp T.d__law_draw.b .nil (zy zw) (za (pv 0) (za (zr (show OpR _ (binaryOp .Add) (zJ K)from zC) (pv 12) zc) (za (zt (show CallR _ _ (zam K)from zN) rfl T.z_len BT.len (za (pv 7) zb)) zb)))))
 (zf (zI (zo (show OpR _ (compareOp .Eq) (z3 K)from zV hr.units) (zj (show IxR _ (rIx K)from zh) (zj (show IxR _ (rIx K)from zh) (pv 7) (pv 16) (fun _ _=>rfl)) zc (fun _ _=>rfl)) zA (nomark _))
 (zd (zR (zU (pv 9) T.cl_House T.d_House_break_off.mt (zdL (base:=base) T) (hr.mono (by decide)) T.d_House_break_off.b .nil (zy zw) (za (pv 16) zb)))
 (zf (zbJ zA (zbK (zj (show IxR _ (rIx K)from zh) (pv 7) (pv 16) (fun _ _=>rfl)) zc zY))))
 zu)))
 zu)))))
 (zf (zI (PW.pt (zap (zcW (show PT _ _ (zbN K _)from zZ (pv 14) (fun _=>rfl))) (zaj (zcW (show PT _ _ (zbN K _)from zZ (zp (zdd (base:=base) T) (hr.mono (by decide)) rfl T.d__law_stands.m T.d__law_stands.F.kp T.d__law_stands.b .nil (zy zw) (za (pv 9) (za (pv 7) (za (pv 6) (za (pv 5) (za (pv 4) zb)))))) (fun _=>rfl))))))
 (zf (zH zbS))
 zu)))))))
 (zf (zH zbS))))))))))))))),?_⟩
 refine zF (σ0:=[some (.ref a),none,none,none,none,none,none,none,none,none,none,none,none,none,none,none,none]) rfl ?_
 walk_at "x"
 rename_i nx nx0 nx1 wx wx0 wx1 dx0 dx00 dx01
 obtain⟨N,eN,N0,N1⟩:∃N:Nat,2+nx=(N:Int)/\2<=N/\N<=6:=⟨(2+nx).toNat,by omega,by omega,by omega⟩
 obtain⟨W,eW,W0,W1⟩:∃W:Nat,1+wx=(W:Int)/\1<=W/\W<=4:=⟨(1+wx).toNat,by omega,by omega,by omega⟩
 rw[eN,eW]
 refine zb0 (fun σ' H'=>∃D:Nat,σ'=[some (.ref a),some (.int (N:Int)),some (.int (W:Int)),some (.int (D:Int)),none,none,none,none,none,none,none,none,none,none,none,none,none]/\H'=H/\1<=D/\D<=30) ?_ ?_
 ·walk_at "x"
  ·rename_i d2 d20 d21
   exact⟨(1+d2).toNat,by rw[show(((1+d2).toNat:Nat):Int)=1+d2 by omega],rfl,by omega,by omega⟩
  ·exact⟨(1+dx0).toNat,by rw[show(((1+dx0).toNat:Nat):Int)=1+dx0 by omega],rfl,by omega,by omega⟩
 rintro σ' H' ⟨D,rfl,rfl,D0,D1⟩
 walk_at "x"
 refine zP ?_
 refine⟨a,ns,400,D,W,rfl,hS,by decide,by decide,by omega,by omega,by omega,by omega,fun mv H1 ms F fmv e1 hmv hml hmr hmw hmf=>?_⟩
 rw[yy]at hml hmr hmw
 rw[yy]at hmw
 have hS1:SqL K H1 a (ns.map V.int):=hS.keep e1
 walk_at "x"
 rename_i wl H2 fwl e2 hwl x x0 x1
 have hS2:SqL K H2 a (ns.map V.int):=hS1.keep e2
 obtain⟨w,hw,hat⟩:∃w:Str,(w = "worst" \/ w = "mean")/\atI [V.str "worst",V.str "mean"] x=some (.str w):=by
  obtain rfl | rfl:x=0\/x=1:=by omega
  ·exact⟨"worst",.inl rfl,rfl⟩
  ·exact⟨"mean",.inr rfl,rfl⟩
 walk_at "x"
 rename_i y y0 y1
 refine zan (by first | decide | simp) fun ru H3 fru e3 hru=>?_
 have hS3:SqL K H3 a (ns.map V.int):=hS2.keep e3
 walk_at "x"
 refine zaw (zc1 (lo:=0) (n:=N)) (fun _ _=>trivial) rfl (fun i vs _=>∃f:Nat->Int,vs=(vec i f).map V.int/\BdF i f 1000000000) (fun H' _=>⟨fun _=>0,rfl,fun i hi=>absurd hi (by omega)⟩) ?_ ?_
 ·rintro i x D' vs o H4 H5 hi hD e4 hv hvl ⟨f,rfl,hf⟩ e5 rfl
  have hS5:SqL K H5 a (ns.map V.int):=(hS3.keep e4).keep e5
  have hv5:=e5.at hv
  have hvl2:((vec i f).map V.int).length<=1000:=by omega
  walk_at "x"
  refine zP ?_
  refine zgI hS5 (by omega) (by omega) fun v v0 v1=>?_
  refine zcq hv5 (by omega) fun H6 b6 h6=>?_
  rw[zgm]at h6
  refine⟨⟨_,rfl⟩,b6.same (e4.trans e5) hD,_,h6,by rw[ya,zO];exact yg _,fun t=>if t=i then v else f t,rfl,fun t ht=>?_⟩
  dsimp only
  by_cases c:t=i
  ·rw[if_pos c];omega
  ·rw[if_neg c];exact hf t (by omega)
 rintro lp H4 vs flp e4 hlp _ ⟨G,rfl,hG⟩
 have e14:=e2.trans (e3.trans e4)
 have hmv4:=e14.at hmv
 have hmr4:=hmr.same e14
 walk_at "x"
 rename_i ro H5 fro e5 hro
 have e15:=e14.trans e5
 refine zhc (e5.at hmv4) (hmr4.same e5) W0 (by omega) (by omega) rfl fun hd H6 cs fhd e6 hhd hcl hRc hfc hndc=>?_
 have hlp6:=e6.at (e5.at hlp)
 walk_at "x"
 refine zaw (zbn (K:=K) (a:=lp) (xs:=(vec N G).map V.int)) (fun H' e=>SqL.of (e.at hlp6)) rfl (fun i vs H'=>IsTs m3V H' vs ((List.range i).map fun i=>(0,G i,7))) (fun H' _=>trivial) ?_ ?_
 ·rintro i x D' vs o H7 H8 hi hD e7 hv hvl hI e8 hx
  rw[ya,zO]at hi
  have ex:x=.int (G i):=by rw[yh,zbf hi]at hx;exact(yo hx).symm
  subst ex
  have hvl2:vs.length<=1000:=by rw[ya,zO]at *;omega
  have hv8:=e8.at hv
  walk_at "x"
  rename_i tp H9 ftp e9 htp H10 b10 h10
  refine⟨⟨_,rfl⟩,b10.same (e7.trans (e8.trans e9)) hD,_,h10,by rw[yl];exact yc hvl,?_⟩
  dsimp only
  rw[List.range_succ,yx]
  exact IsTs.app (f:=m3V) (x:=(0,G i,7)) (b10.tup htp) (LBut.isTs b10 ((hI.same e8).same e9))
 rintro mb H7 us fmb e7 hmb _ hI7
 rw[ya,zO]at hI7
 walk_at "x"
 rename_i od H8 fod e8 hod
 refine zhe fun h dx H9 fh e9 h9=>?_
 have hc1:1+y=((1+y).toNat:Int):=by omega
 have e79:Same H7 H9:=e8.trans e9
 have e69:=e7.trans e79
 have okr:zb7 w (1+y) cs.length:=⟨hw,by omega,by rw[hcl,hml];omega⟩
 have oko:OkO []:=⟨by decide,by decide⟩
 refine⟨h,dx,mb,hd,ru,od,us,_,cs,W,F,w,1+y,[],0,rfl,h9,e79.at hmb,hI7.same e79,by rw[ya,y6];omega,e69.at hhd,hRc.same e69,by omega,by omega,by omega,by omega,(e4.trans (e5.trans (e6.trans e69))).at hru,e9.at hod,by decide,fun _ _ B d bs H10 nb10 h10 hbl hN=>⟨rfl,?_⟩,fun z=>absurd okr z,fun _ z=>absurd oko z⟩
 have hxl:((List.range N).map fun i=>((0:Int),G i,(7:Int))).length=N:=by rw[ya,y6]
 have hxg:∀i,i<N->((List.range N).map fun i=>((0:Int),G i,(7:Int))).getD i (0,0,0)=(0,G i,7):=fun i hi=>by
  rw[yi,yh,List.getElem?_range hi];rfl
 have hpu:H10 B.pu=some (.lst ((vec N fun _=>(0:Int)).map V.int)):=by
  rw[hN.pu,hxl];congr 3;exact zaI fun i hi=>by rw[hxg i hi]
 have hpl:H10 B.pl=some (.lst ((vec N G).map V.int)):=by
  rw[hN.pl,hxl];congr 3;exact zaI fun i hi=>by rw[hxg i hi]
 have e19:Same H1 H9:=e15.trans (e6.trans e69)
 have e09:Same H' H9:=e1.trans e19
 have fh0:H' h=none:=Same.none fh (e1.trans (e15.trans (e6.trans (e7.trans e8))))
 have e010:Same H' H10:=nb10.same e09 fh0
 have up:∀{x:Addr} {xs:List V},H9 x=some (.lst xs)->H10 x=some (.lst xs):=fun {x xs} q=>nb10.at q (za0 q h9 (by intro z;cases z))
 have hro9:=(e6.trans e69).at hro
 have hlp9:=(e5.trans (e6.trans e69)).at hlp
 have hmv9:=e19.at hmv
 have hmr9:=hmr.same e19
 have hhd9:=e69.at hhd
 have hRc9:=hRc.same e69
 obtain⟨ap1,ap2,ap3,ap4⟩:=zgY hN.st.nd
 have fr9:∀x∈B.pu :: B.pl :: d :: B.ou :: B.mv :: bs,H9 x=none:=fun x hx=>(hN.st.ex x (by
  simp only[yf]at hx
  simp only[yf,yv,yz,or_false]
  rcases hx with z | z | z | z | z | z<;>simp[z])).2.2
 have nf:∀{x y:Addr} {xs:List V},H9 x=some (.lst xs)->y∈B.pu :: B.pl :: d :: B.ou :: B.mv :: bs->x≠y:=fun q hy=>zG q (fr9 _ hy)
 have m1:B.pu∈B.pu :: B.pl :: d :: B.ou :: B.mv :: bs:=.head _
 have m2:B.pl∈B.pu :: B.pl :: d :: B.ou :: B.mv :: bs:=.tail _ (.head _)
 have m3:d∈B.pu :: B.pl :: d :: B.ou :: B.mv :: bs:=.tail _ (.tail _ (.head _))
 have m4:∀x∈B.ou :: B.mv :: bs,x∈B.pu :: B.pl :: d :: B.ou :: B.mv :: bs:=fun x hx=>.tail _ (.tail _ (.tail _ hx))
 have rolp:ro≠lp:=zcy fro hlp
 have mvlp:mv≠lp:=zG ((e2.trans e3).at hmv) flp
 have mvro:mv≠ro:=zG hmv4 fro
 have mslp:∀b∈ms,b≠lp:=fun b hb z=>(hmr.same (e2.trans e3)).fresh flp (z▸hb)
 have msro:∀b∈ms,b≠ro:=fun b hb z=>hmr4.fresh fro (z▸hb)
 obtain⟨X,hX⟩:∃X:KX,X=⟨h,ro,d,lp,mv,ru,B,bs,ms,0,N,W,F,w,1+y⟩:=⟨_,rfl⟩
 have hXh:X.h=h:=by rw[hX]
 have hXro:X.ro=ro:=by rw[hX]
 have hXlp:X.lp=lp:=by rw[hX]
 have hXmv:X.mv=mv:=by rw[hX]
 have hXru:X.ru=ru:=by rw[hX]
 have hXn:X.n=N:=by rw[hX]
 have hXk:X.k=W:=by rw[hX]
 have hW0:KW K T.c_House T.c_Book lP lQ H' X H10 (fun _=>0) G G [] [] [] []:=by
  rw[hX]
  refine⟨e010.t,⟨⟨dx,h10⟩,hpu,hpl,ap1⟩,⟨by have:=hN.bk;rw[hxl]at this;exact this,(fun t ht=>nomatch ht),(fun t ht=>nomatch ht),by show 0<=1000;decide,hN.ru,hN.mv,hN.rows,?_,by rw[hbl];exact okr,by show W<=9;omega,by show bs.length<64;omega,TbW.same e010 hT0⟩,by have:=hN.ou;rw[hxl]at this;exact this,up hro9,⟨yP,rfl,fun i a t z=>nomatch z⟩,(fun t ht=>nomatch ht),up hlp9,up hmv9,⟨hmr9.1,fun i a z=>up (hmr9.2 i a z)⟩,by show ms.length=bs.length;omega,nb10.at ((e4.trans (e5.trans (e6.trans e69))).at hru) (za0 ((e4.trans (e5.trans (e6.trans e69))).at hru) h9 (by intro z;cases z)),(fun z hz=>nomatch hz),?_,fun x hx=>?_,fun x hx=>?_⟩
  ·intro i hi j hj
   exact hmw i (by have hi':i<bs.length:=hi;omega) j hj
  ·show([B.pu,B.pl,d,ro,lp]:List Addr).Nodup
   simp only[yJ,yf,yz,or_false,not_or,yP,and_true,not_false_eq_true]
   exact⟨⟨ap1,ap2,(nf hro9 m1).symm,(nf hlp9 m1).symm⟩,⟨ap3,(nf hro9 m2).symm,(nf hlp9 m2).symm⟩,⟨(nf hro9 m3).symm,(nf hlp9 m3).symm⟩,rolp⟩
  ·have hx':x∈B.ou :: B.mv :: mv :: (bs++(ms++[])):=hx
   show x∉([B.pu,B.pl,d,ro,lp]:List Addr)
   simp only[yf,yv,yz,or_false,not_or]at hx' ⊢
   have hnew:x∈B.ou :: B.mv :: bs->(¬x=B.pu/\¬x=B.pl/\¬x=d/\¬x=ro/\¬x=lp):=fun hm=>⟨(ap4 x hm).1,(ap4 x hm).2.1,(ap4 x hm).2.2,(nf hro9 (m4 x hm)).symm,(nf hlp9 (m4 x hm)).symm⟩
   rcases hx' with z | z | z | z | z
   ·exact hnew (by rw[z];exact .head _)
   ·exact hnew (by rw[z];exact .tail _ (.head _))
   ·rw[z];exact⟨nf hmv9 m1,nf hmv9 m2,nf hmv9 m3,mvro,mvlp⟩
   ·exact hnew (.tail _ (.tail _ z))
   ·obtain⟨j,_,_,hcj⟩:=hmr9.mem z
    exact⟨nf hcj m1,nf hcj m2,nf hcj m3,msro x z,mslp x z⟩
  ·have hx':x∈[B.pu,B.pl,d,ro,lp]:=hx
   simp only[yf,yz,or_false]at hx'
   rcases hx' with z | z | z | z | z
   ·rw[z];exact Same.none (fr9 _ m1) e09
   ·rw[z];exact Same.none (fr9 _ m2) e09
   ·rw[z];exact Same.none (fr9 _ m3) e09
   ·rw[z];exact Same.none fro (e1.trans e14)
   ·rw[z];exact Same.none flp (e1.trans (e2.trans e3))
 have hco':∀(c:Addr) (xs:List V),H5 c=none->H9 c=some (.lst xs)->c∉muts X []/\c∉imms X []/\H' c=none:=fun c xs f5 hcj=>by
  refine⟨fun z=>?_,fun z=>?_,Same.none f5 (e1.trans e15)⟩
  ·rw[hX]at z
   have z':c∈[B.pu,B.pl,d,ro,lp]:=z
   simp only[yf,yz,or_false]at z'
   rcases z' with z | z | z | z | z
   ·exact nf hcj m1 z
   ·exact nf hcj m2 z
   ·exact nf hcj m3 z
   ·rw[z,hro]at f5;cases f5
   ·rw[z,e5.at hlp]at f5;cases f5
  ·rw[hX]at z
   have z':c∈B.ou :: B.mv :: mv :: (bs++(ms++[])):=z
   simp only[yf,yv,yz,or_false]at z'
   rcases z' with z | z | z | z | z
   ·exact nf hcj (m4 c (by rw[z];exact .head _)) rfl
   ·exact nf hcj (m4 c (by rw[z];exact .tail _ (.head _))) rfl
   ·rw[z,e5.at hmv4]at f5;cases f5
   ·exact nf hcj (m4 c (.tail _ (.tail _ z))) rfl
   ·obtain⟨j,_,_,hcm⟩:=(hmr.same e15).mem z
    rw[hcm]at f5;cases f5
 have hco:∀c∈cs,c∉muts X []/\c∉imms X []/\H' c=none:=fun c hc=>by
  obtain⟨j,_,_,hcj⟩:=hRc9.mem hc
  exact hco' c _ (hfc c hc) hcj
 have hch:=hco' hd _ fhd hhd9
 have hhd10:=up hhd9
 have hRc10:Rows H10 cs W F:=⟨hRc9.1,fun i a z=>up (hRc9.2 i a z)⟩
 clear hN fr9 nf m1 m2 m3 m4 ap1 ap2 ap3 ap4 hpu hpl up nb10 h10 hxg hxl hRc9 hhd9 hmr9 hmv9 hlp9 hro9 hI7 hmb hod
 clear hco'
 walk_at "x"
 refine zdP (xs:=cs.map V.ref) (fun i σ' Hx=>∃(f10:Option V) (F':Nat->Nat->Int),σ'=[some (.ref a),some (.int (N:Int)),some (.int (W:Int)),some (.int (D:Int)),some (.ref mv),some (.ref ru),some (.ref lp),some (.ref ro),some (.ref hd),some (.ref h),f10,none,none,none,none,none,none]/\KW K T.c_House T.c_Book lP lQ H' X Hx (fun _=>0) G G [] [] [] []/\Hx hd=some (.lst (cs.map V.ref))/\Rows Hx cs W F') ⟨_,F,rfl,hW0,hhd10,hRc10⟩ ?_ ?_ ?_
 ·rintro i σ' Hx _ ⟨_,_,_,_,g,_⟩;exact SqL.of g
 ·rintro i x σ' H11 hx ⟨f10,F',rfl,hW11,hhd11,hR11⟩
  have hi:i<cs.length:=by have:=(ym.mp hx).1;rwa [ya]at this
  obtain⟨c,hc⟩:=zQ hi
  have ex:x=.ref c:=by rw[yh,hc]at hx;exact(yo hx).symm
  subst ex
  have hcm:=yq hc
  have hS11:SqL K H11 a (ns.map V.int):=hW11.e0.seq hS
  have hrow:=hR11.2 _ _ hc
  have ndc:hd≠c:=fun z=>hndc (z▸hcm)
  walk_at "x"
  rename_i dv dv0 dv1 H12 b12 h12
  exact⟨_,_,rfl,hW11.other b12.l (hco c hcm).1 (hco c hcm).2.1 (hco c hcm).2.2,b12.lst hhd11 ndc,hR11.set b12 hc h12⟩
 rintro σ' H11 ⟨f10,F',rfl,hW11,hhd11,hR11⟩
 have hcs:(cs.map V.ref).length<=1000:=by rw[ya];omega
 walk_at "x"
 rename_i nl H12 fnl e12 hnl H13 b13 h13
 have hW13:=(hW11.same e12).other b13.l hch.1 hch.2.1 hch.2.2
 have hS13:SqL K H13 a (ns.map V.int):=hW13.e0.seq hS
 have hcl16:(zcf (ns.map V.int) none (some 16)).length<=16:=zm7 (k:=16)
 walk_at "x"
 rename_i sc H14 fsc e14' hsc
 have hW14:=hW13.same e14'
 clear hW13 hW11 hW0 hhd11 hhd10 hR11 hRc10 hco hch h13 hnl
 refine zdb (fun i σ' Hx=>∃(g11 g12 g13 g14 g15 g16:Option V) (P L:Nat->Int) (ts:List (T7 × Str)) (as:List Addr),σ'=[some (.ref a),some (.int (N:Int)),some (.int (W:Int)),some (.int (D:Int)),some (.ref mv),some (.ref ru),some (.ref lp),some (.ref ro),some (.ref hd),some (.ref h),f10,g11,g12,g13,g14,g15,g16]/\KW K T.c_House T.c_Book lP lQ H' X Hx P L L ts ts as []/\BdF X.n L (1000000000*(1+(i:Int)))/\(∀i,i<X.n->0<=P i)/\ts.length<=i) ⟨_,_,_,_,_,_,_,G,[],[],rfl,hW14,by rw[hXn];exact hG.mono (by omega),(fun _ _=>yW 0),yg 0⟩ ?_ ?_
 ·rintro i σ' H15 hi ⟨g11,g12,g13,g14,g15,g16,P,L,ts,as,rfl,hW,hB,hP,htl⟩
  have hi20:i<20:=by omega
  have hS15:SqL K H15 a (ns.map V.int):=hW.e0.seq hS
  have hro15:H15 ro=some (.lst (as.map V.ref)):=by have:=hW.ro;rw[hXro]at this;exact this
  have hal:=hW.dr.2.1
  have haml:(as.map V.ref).length=as.length:=ya ..
  have cl_House:=T.cl_House
  have hBm:BdF X.n L (1000000000*(2+(i:Int))):=hB.mono (by omega)
  walk_at "x"
  rename_i wy wy0 wy1
  refine zb0 (fun σ' Hx=>∃(g15 g16:Option V) (P L:Nat->Int) (ts:List (T7 × Str)) (as:List Addr),σ'=[some (.ref a),some (.int (N:Int)),some (.int (W:Int)),some (.int (D:Int)),some (.ref mv),some (.ref ru),some (.ref lp),some (.ref ro),some (.ref hd),some (.ref h),f10,some (.int (0+(i:Int))),some (.int (70+16*(0+(i:Int)))),some (.int wy),some (.bl true),g15,g16]/\KW K T.c_House T.c_Book lP lQ H' X Hx P L L ts ts as []/\BdF X.n L (1000000000*(2+(i:Int)))/\(∀i,i<X.n->0<=P i)/\ts.length<=i+1) ?_ ?_
  ·walk_at "x"
   ·refine zP ?_
    refine⟨a,ns,_,N,W,rfl,hS15,by omega,by omega,by omega,by omega,by omega,by omega,fun l H16 t fl e16 hl hD=>?_⟩
    walk_at "x"
    refine zP ?_
    refine⟨H',X,P,L,ts,as,[],l,t,_,by rw[hXh,hXro,hXlp,hXru,hXmv],hW.same e16,hl,(hW.fresh fl).1,by rw[hXk];exact hD,by omega,by omega,by omega,by omega,hB,by omega,by omega,hP,fun H17 P' L' ts' as' hW17 hB17 hP17 htl17=>?_⟩
    walk_at "x"
    exact⟨_,_,P',L',ts',as',rfl,hW17,hB17.mono (by omega),hP17,by omega⟩
   ·refine zP ?_
    refine⟨H',X,P,L,ts,as,[],a,ns,_,_,by rw[hXh,hXro,hXlp,hXru,hXmv],hS,by omega,by omega,hW,by omega,by omega,by omega,by omega,hB,by omega,by omega,hP,fun H16 P' L' hW16 hB16 hP16=>?_⟩
    walk_at "x"
    exact⟨_,_,P',L',ts,as,rfl,hW16,hB16.mono (by omega),hP16,by omega⟩
   ·rename_i c1 c2 hlen x x0 x1
    rw[haml]at x1
    obtain⟨c,hc⟩:=zQ (show x.toNat<as.length by omega)
    obtain⟨t,ht⟩:=zQ (show x.toNat<ts.length by omega)
    have hat:atI (as.map V.ref) x=some (.ref c):=zaY x0 (by rw[yh,hc];rfl)
    have hrow:H15 c=some (.lst [.int t.1.p,.int t.1.q,.int t.1.w,.int t.1.u,.int t.1.a,.int t.1.y,.int t.1.r,.str t.2]):=hW.dr.2.2 _ c t hc ht
    obtain⟨dxh,hh⟩:=hW.hc.ob
    have hh15:H15 h=some (.ins T.c_House dxh (hfl X.A X.own)):=by rw[<- hXh];exact hh
    have hT:=hW.uk t (yq ht)
    have hcd:c≠X.d:=fun z=>hW.ne.2.2.1.2.2 (z▸yq hc)
    walk_at "x"
    ·rename_i hs
     refine zP ?_
     refine⟨X.h,dxh,X.d,X.A,X.own,_,_,_,x,ts,t,by rw[hXh],hh,hW.hn.bk,x0,ht,hs,fun H16 hB16 g16=>?_⟩
     have hset:∀u∈ts.set x.toNat (t.1, "broken"),u∈ts\/u=(t.1,("broken" : Str)):=fun u hu=>List.mem_or_eq_of_mem_set hu
     have hW16:=hW.dl g16 hB16 (fun u hu=>(hset u hu).elim (hW.hn.tok u) fun z=>by rw[z];exact⟨hT.w0,hT.w1⟩) (fun u hu=>(hset u hu).elim (hW.hn.tu u) fun z=>by rw[z];exact⟨hT.u0,hT.u1⟩) (by rw[yap];omega)
     have hro16:H16 ro=some (.lst (as.map V.ref)):=by have:=hW16.ro;rw[hXro]at this;exact this
     have hrow16:=g16.at hrow hcd
     walk_at "x"
     refine zbi hrow16 (j:=7) rfl fun H17 b17 h17=>?_
     have hW17:=hW16.row (t:=(t.1,("broken" : Str))) b17 hc h17 ⟨hT.p0,hT.p1,hT.q0,hT.q1,hT.pq,hT.w0,hT.w1,hT.u0,hT.u1,.inr rfl⟩
     exact⟨_,_,P,L,_,as,rfl,hW17,hBm,hP,by rw[yap];omega⟩
    ·exact⟨_,_,P,L,ts,as,rfl,hW,hBm,hP,by omega⟩
   ·exact⟨_,_,P,L,ts,as,rfl,hW,hBm,hP,by omega⟩
  ·rintro σ' H16 ⟨g15',g16',P',L',ts',as',rfl,hW16,hB16,hP16,htl16⟩
   have hsz:∀i,i<X.n->sz (L' i)<=60000:=fun j hj=>by
    have:=hB16 j hj
    exact yb (sz200 (by omega) (by omega)) (by decide)
   walk_at "x"
   refine zP ?_
   refine⟨H',X,P',L',ts',as',[],by rw[hXh,hXro,hXlp,hXru,hXmv],hW16,by omega,by omega,by omega,hsz,fun H17 s17 t17=>?_⟩
   walk_at "x"
   exact⟨_,_,_,_,_,_,P',L',ts',as',rfl,hW16.sameT s17 t17,hB16.mono (by omega),hP16,htl16⟩
 ·rintro σ' H15 ⟨g11,g12,g13,g14,g15,g16,P,L,ts,as,rfl,hW,hB,hP,htl⟩
  walk_at "x"
  exact k _
end
theorem fin{P:Program}{w:World}{K:Fg}{mg:Str->Option Value}{fa:Addr}(T:Txt K mg)(hfa:mg "law" = some (.ref fa)) :
  ∃fd:FuncData,(∀(s:Shared) (v:Value),BindsTo s fd ⟨[v],[]⟩ [("_law_script",v)])/\(∃p,PySem.W.tabIn K "worst_days" = some p)/\∀base:Heap,K.In base->base.Ns mainGlobals mg->TabX K mg base "worst_days" -> FnOk P w K mg base (CXF P w) 10 fa fd ["_law_script"] (zf0 K):=by
 have e:=hfa.symm.trans T.d_law.m
 cases e
 exact⟨_,T.bl_law,⟨_,T.tb_worst_days⟩,fun base _ _ _=>zmw T⟩
theorem walk{l:PySem.W.OpenLaw}{q:Program}{loose:List Str}{XP:(Str->Option Value)->Heap->Prop}{YP:World->Heap->Prop}{d:DefRec}{K:Params->Fg}(hn:l.most=some 63)(hdf:d.params.defaults=[])
  (hY:∀(w:World) (h:Heap),YP w h->(K w.params).In h)
  (hrec:∃d',(PyProof.Rows.recsOf q).find? (fun e=>e.name == ("worst_days" : Str))=some d') (hnt:∀w:World,PySem.W.noTabs (K w.params)=true)
  (F:∀(w:World) (mg:Str->Option Value) (fa:Addr) (h:Heap),(K w.params).In h->h.Ns mainGlobals mg->mg d.name=some (.ref fa) ->
   ∃fd:FuncData,(∀(s:Shared) (u:Value),BindsTo s fd ⟨[u],[]⟩ [("_law_script",u)])/\(∃p,PySem.W.tabIn (K w.params) "worst_days" = some p)/\∀base:Heap,(K w.params).In base->base.Ns mainGlobals mg->TabX (K w.params) mg base "worst_days" -> FnOk l.prog w (K w.params) mg base (CXF l.prog w) 10 fa fd ["_law_script"] (zf0 (K w.params))) :
  PySem.W.WalkO q loose XP YP l.row.toRowW d [] (fun f vs=>PySem.call f vs):=
 let ⟨_,hrec'⟩:=hrec
 Internal.walk_ofT (n:=63) (k:=10) (x := "_law_script") (CX:=fun w=>CXF l.prog w) (sp:=fun w=>zf0 (K w.params)) hn (by decide) hdf ⟨rfl,by decide,by decide⟩ hY hrec' hnt F (fun _ _ a ns hl hz hS hT=>⟨a,ns,rfl,hS,hl,hz,hT,fun _=>rfl⟩) fun _ H s e s' z=>zw _ H s e s' z
end Internal.K
theorem PySem.W.Fast.tw5530227052539615235:True:=trivial
theorem PySem.W.Fast.tw14314216761631471179:True:=trivial
theorem PySem.W.Fast.tw8593367291577758019:True:=trivial
theorem PySem.W.Fast.tw10585699981842462817:True:=trivial
theorem PySem.W.Fast.tw9239809511510025658:True:=trivial
theorem PySem.W.Fast.tw16769220292513865549:True:=trivial
theorem PySem.W.Fast.tw2594546601158090638:True:=trivial
theorem PySem.W.Fast.tw11120719852706631377:True:=trivial
theorem PySem.W.Fast.tw13651888230164629464:True:=trivial
theorem PySem.W.Fast.tw9416925400477970195:True:=trivial
theorem PySem.W.Fast.tw7230705076122221807:True:=trivial
theorem PySem.W.Fast.tw17627190160630279690:True:=trivial
theorem PySem.W.Fast.tw9570966221133538510:True:=trivial
theorem PySem.W.Fast.tw17590086433661965954:True:=trivial
theorem PySem.W.Fast.tw16977294590966763363:True:=trivial
theorem PySem.W.Fast.tw11635260936633047857:True:=trivial
theorem PySem.W.Fast.tw14280626426989266824:True:=trivial
theorem PySem.W.Fast.tw3497163103531381374:True:=trivial
theorem PySem.W.Fast.tw6796247449114019072:True:=trivial
theorem PySem.W.Fast.tw7897393803327414206:True:=trivial
theorem PySem.W.Fast.tw914944211712028978:True:=trivial
theorem PySem.W.Fast.tw4915601400313632839:True:=trivial
theorem PySem.W.Fast.tw10939137383240582394:True:=trivial
theorem PySem.W.Fast.tw4691231137554358478:True:=trivial
theorem PySem.W.Fast.tw929952826888861020:True:=trivial
theorem PySem.W.Fast.tw16110257385710727972:True:=trivial
theorem PySem.W.Fast.tw5860574259462710681:True:=trivial
theorem PySem.W.Fast.tw7442279036310004645:True:=trivial
theorem PySem.W.Fast.tw3660425020306558999:True:=trivial
theorem PySem.W.Fast.tw11470440205265123599:True:=trivial
theorem PySem.W.Fast.tw3956036175732750953:True:=trivial
theorem PySem.W.Fast.tw14778656301996256565:True:=trivial
theorem PySem.W.Fast.tw940586378218465786:True:=trivial
theorem PySem.W.Fast.tw13891936180246361632:True:=trivial
theorem PySem.W.Fast.tw7198999723289126857:True:=trivial
theorem PySem.W.Fast.tw9552448029443397733:True:=trivial
theorem PySem.W.Fast.tw1646469518971170761:True:=trivial
theorem PySem.W.Fast.tw8629272526601061338:True:=trivial
theorem PySem.W.Fast.tw253029581961635583:True:=trivial
theorem PySem.W.Fast.tw7884432973953724034:True:=trivial
theorem PySem.W.Fast.tw17534547850745440076:True:=trivial
theorem PySem.W.Fast.tw14023327745925169830:True:=trivial
theorem PySem.W.Fast.tw15123844155744079633:True:=trivial
theorem PySem.W.Fast.tw8031165807286734574:True:=trivial
theorem PySem.W.Fast.tw7505750272237563789:True:=trivial
theorem PySem.W.Fast.tw13033013636703100164:True:=trivial
theorem PySem.W.Fast.tw10370703122727519029:True:=trivial
theorem PySem.W.Fast.tw5273147086593535252:True:=trivial
theorem PySem.W.Fast.tw262730707230289059:True:=trivial
theorem PySem.W.Fast.tw17750927256925420676:True:=trivial
theorem PySem.W.Fast.tw11489046201866626460:True:=trivial
theorem PySem.W.Fast.tw10363591315626602850:True:=trivial
theorem PySem.W.Fast.tw15660326857461092197:True:=trivial
theorem PySem.W.Fast.tw15233613335420870247:True:=trivial
theorem PySem.W.Fast.tw13258386705307168156:True:=trivial
theorem PySem.W.Fast.tw17328988027533612688:True:=trivial
theorem PySem.W.Fast.tw7158830652817699014:True:=trivial
theorem PySem.W.Fast.tw11187843451448113502:True:=trivial
theorem PySem.W.Fast.tw15205270933232281062:True:=trivial
theorem PySem.W.Fast.tw8068367094438889040:True:=trivial
theorem PySem.W.Fast.tw9313612294885097173:True:=trivial
theorem PySem.W.Fast.tw7497103478097795278:True:=trivial
theorem PySem.W.Fast.tw15967959069656097120:True:=trivial
theorem PySem.W.Fast.tw170997002338172899:True:=trivial
theorem PySem.W.Fast.tw5041374068347130719:True:=trivial
theorem PySem.W.Fast.tw9610488561474225783:True:=trivial
theorem PySem.W.Fast.tw16186143870892013994:True:=trivial
theorem PySem.W.Fast.tw14793821829875108276:True:=trivial
theorem PySem.W.Fast.tw11617674245834290458:True:=trivial
theorem PySem.W.Fast.tw8797929271408489331:True:=trivial
theorem PySem.W.Fast.tw8619459022412295453:True:=trivial
theorem PySem.W.Fast.tw4652637786821284164:True:=trivial
theorem PySem.W.Fast.tw13308601569554610823:True:=trivial
theorem PySem.W.Fast.tw13987051793447016981:True:=trivial
theorem PySem.W.Fast.tw4524269509609931734:True:=trivial
theorem PySem.W.Fast.tw15677918377246020791:True:=trivial
theorem PySem.W.Fast.tw17134708102548130464:True:=trivial
theorem PySem.W.Fast.tw13564227442481994104:True:=trivial
theorem PySem.W.Fast.tw580328652030867039:True:=trivial
theorem PySem.W.Fast.tw8444027433029993785:True:=trivial
theorem PySem.W.Fast.tw10538432155207783650:True:=trivial
theorem PySem.W.Fast.tw17943147393822978641:True:=trivial
theorem PySem.W.Fast.tw7745586510646426791:True:=trivial
theorem PySem.W.Fast.tw1218408902294732922:True:=trivial
theorem PySem.W.Fast.tw8162747890035155885:True:=trivial
theorem PySem.W.Fast.tw16886341664239972882:True:=trivial
theorem PySem.W.Fast.tw8844526892039015678:True:=trivial
theorem PySem.W.Fast.tw4419044135164392043:True:=trivial
theorem PySem.W.Fast.tw2748219942203372898:True:=trivial
theorem PySem.W.Fast.tw3681975687626250491:True:=trivial
theorem PySem.W.Fast.tw16109166571875813373:True:=trivial
theorem PySem.W.Fast.tw4698075917665110851:True:=trivial
theorem PySem.W.Fast.tw14508991077003706348:True:=trivial
theorem PySem.W.Fast.tw17618349272126317558:True:=trivial
theorem PySem.W.Fast.tw14648812200635464477:True:=trivial
theorem PySem.W.Fast.tw18348200909416161466:True:=trivial
theorem PySem.W.Fast.tw2152356163906368876:True:=trivial
theorem PySem.W.Fast.tw12896976196577567784:True:=trivial
theorem PySem.W.Fast.tw8996294286339016396:True:=trivial
theorem PySem.W.Fast.tw13033773982184017289:True:=trivial
theorem PySem.W.Fast.tw2766346029238798008:True:=trivial
theorem PySem.W.Fast.tw7471103928347137713:True:=trivial
theorem PySem.W.Fast.tw16109497542017147403:True:=trivial
theorem PySem.W.Fast.tw3099874765136156786:True:=trivial
theorem PySem.W.Fast.tw14914054184335591333:True:=trivial
theorem PySem.W.Fast.tw369057096074953443:True:=trivial
theorem PySem.W.Fast.tw5803345931486523553:True:=trivial
theorem PySem.W.Fast.tw17810190475341862368:True:=trivial
theorem PySem.W.Fast.tw17981020612072417535:True:=trivial
theorem PySem.W.Fast.tw3109967772851668533:True:=trivial
theorem PySem.W.Fast.tw14280298900448490521:True:=trivial
theorem PySem.W.Fast.tw2335204402958013177:True:=trivial
theorem PySem.W.Fast.tw18162617273064547496:True:=trivial
theorem PySem.W.Fast.tw5493899099708166140:True:=trivial
theorem PySem.W.Fast.tw12955032737992558948:True:=trivial
theorem PySem.W.Fast.tw4188532728778220140:True:=trivial
theorem PySem.W.Fast.tw11884061731820606702:True:=trivial
theorem PySem.W.Fast.tw1631109357592605936:True:=trivial
theorem PySem.W.Fast.tw950709474089205464:True:=trivial
theorem PySem.W.Fast.tw18325282635050678829:True:=trivial
theorem PySem.W.Fast.tw9062183768604278067:True:=trivial
theorem PySem.W.Fast.tw7314901149585141390:True:=trivial
theorem PySem.W.Fast.tw966640756800809314:True:=trivial
theorem PySem.W.Fast.tw8826832849688468862:True:=trivial
theorem PySem.W.Fast.tw4605622494548071181:True:=trivial
theorem PySem.W.Fast.tw13304652440903814817:True:=trivial
theorem PySem.W.Fast.tw12319090481418343297:True:=trivial
theorem PySem.W.Fast.tw3759742313523472976:True:=trivial
theorem PySem.W.Fast.tw12885251114016667088:True:=trivial
theorem PySem.W.Fast.tw7908123246170664318:True:=trivial
theorem PySem.W.Fast.tw10967585235670400679:True:=trivial
theorem PySem.W.Fast.tw12301294977646572688:True:=trivial
theorem PySem.W.Fast.tw15538898953860907786:True:=trivial
theorem PySem.W.Fast.tw5576885660025410319:True:=trivial
theorem PySem.W.Fast.tw5685504606589539830:True:=trivial
theorem PySem.W.Fast.tw1160776917227340993:True:=trivial
theorem PySem.W.Fast.tw5862806981602061097:True:=trivial
theorem PySem.W.Fast.tw2457309354349324139:True:=trivial
theorem PySem.W.Fast.tw9071292533357129870:True:=trivial
theorem PySem.W.Fast.tw18433011770548011787:True:=trivial
theorem PySem.W.Fast.tw7379749263088850235:True:=trivial
theorem PySem.W.Fast.tw4167131783032505788:True:=trivial
theorem PySem.W.Fast.tw16042439546776235066:True:=trivial
theorem PySem.W.Fast.tw14138533131777354894:True:=trivial
theorem PySem.W.Fast.tw3295870496751571991:True:=trivial
theorem PySem.W.Fast.tw1835222404676930899:True:=trivial
theorem PySem.W.Fast.tw4713802506663583179:True:=trivial
theorem PySem.W.Fast.tw16205649375808261282:True:=trivial
theorem PySem.W.Fast.tw5244101479721666161:True:=trivial
theorem PySem.W.Fast.tw5034997587289683322:True:=trivial
theorem PySem.W.Fast.tw11184589433927591258:True:=trivial
theorem PySem.W.Fast.tw14546858894661260647:True:=trivial
theorem PySem.W.Fast.tw11580245322039679904:True:=trivial
theorem PySem.W.Fast.tw251163101762688407:True:=trivial
theorem PySem.W.Fast.tw2651257370872880272:True:=trivial
theorem PySem.W.Fast.tw11641277691712969460:True:=trivial
theorem PySem.W.Fast.tw16609312872000445439:True:=trivial
theorem PySem.W.Fast.tw5071729534303672422:True:=trivial
theorem PySem.W.Fast.tw4656108404664957189:True:=trivial
theorem PySem.W.Fast.tw11462540297423630085:True:=trivial
theorem PySem.W.Fast.tw6899834488812509118:True:=trivial
theorem PySem.W.Fast.tw1952887747497494741:True:=trivial
theorem PySem.W.Fast.tw3984358829871320796:True:=trivial
theorem PySem.W.Fast.tw11316405928776582734:True:=trivial
theorem PySem.W.Fast.tw13049083863920516864:True:=trivial
theorem PySem.W.Fast.tw9734534532433510393:True:=trivial
theorem PySem.W.Fast.tw7653558946741628322:True:=trivial
theorem PySem.W.Fast.tw14950844336455245968:True:=trivial
theorem PySem.W.Fast.tw5496535706529614045:True:=trivial
theorem PySem.W.Fast.tw11330813055404581968:True:=trivial
theorem PySem.W.Fast.tw10431186596971666755:True:=trivial
theorem PySem.W.Fast.tw13935556105138479340:True:=trivial
theorem PySem.W.Fast.tw16145151908862530799:True:=trivial
theorem PySem.W.Fast.tw9054300298028947970:True:=trivial
theorem PySem.W.Fast.tw934166117997986470:True:=trivial
theorem PySem.W.Fast.tw15327665625324692733:True:=trivial
theorem PySem.W.Fast.tw17632376048206273757:True:=trivial
theorem PySem.W.Fast.tw11544483673531564275:True:=trivial
theorem PySem.W.Fast.tw16295697756849999080:True:=trivial
theorem PySem.W.Fast.tw1576799929250803360:True:=trivial
theorem PySem.W.Fast.tw1021930828638600976:True:=trivial
theorem PySem.W.Fast.tw18183219041410740835:True:=trivial
theorem PySem.W.Fast.tw12069043837108558095:True:=trivial
theorem PySem.W.Fast.tw13247840742575830639:True:=trivial
theorem PySem.W.Fast.tw1147962599247645566:True:=trivial
theorem PySem.W.Fast.tw1059075809853293873:True:=trivial
theorem PySem.W.Fast.tw12302876199409312785:True:=trivial
theorem PySem.W.Fast.tw10996707654449035566:True:=trivial
theorem PySem.W.Fast.tw11227203445319781618:True:=trivial
theorem PySem.W.Fast.tw8679594898227944869:True:=trivial
theorem PySem.W.Fast.tw18395141939321025030:True:=trivial
theorem PySem.W.Fast.tw1388972131627281984:True:=trivial
theorem PySem.W.Fast.tw6631953012352554894:True:=trivial
theorem PySem.W.Fast.tw5520077240862345917:True:=trivial
theorem PySem.W.Fast.tw6879544345785404654:True:=trivial
theorem PySem.W.Fast.tw3540398487620782004:True:=trivial
theorem PySem.W.Fast.tw13965935388272633459:True:=trivial
theorem PySem.W.Fast.tw7660743354435900417:True:=trivial
theorem PySem.W.Fast.tw6150671798647893951:True:=trivial
theorem PySem.W.Fast.tw10276371912193806062:True:=trivial
theorem PySem.W.Fast.tw1451282249044810553:True:=trivial
theorem PySem.W.Fast.tw1968561015234581913:True:=trivial
theorem PySem.W.Fast.tw16442228300962845128:True:=trivial
theorem PySem.W.Fast.tw6426405671997715822:True:=trivial
theorem PySem.W.Fast.tw15809269134716580800:True:=trivial
theorem PySem.W.Fast.tw14921105027888942140:True:=trivial
theorem PySem.W.Fast.tw11099411684374536787:True:=trivial
theorem PySem.W.Fast.tw16145011495767040381:True:=trivial
theorem PySem.W.Fast.tw8797204929952108100:True:=trivial
theorem PySem.W.Fast.tw4597990189600313433:True:=trivial
theorem PySem.W.Fast.tw14207574378566356011:True:=trivial
theorem PySem.W.Fast.tw2704081133499546450:True:=trivial
theorem PySem.W.Fast.tw11619991442519767808:True:=trivial
theorem PySem.W.Fast.tw4091558693523374553:True:=trivial
theorem PySem.W.Fast.tw2182224139262642169:True:=trivial
theorem PySem.W.Fast.tw15669809451575391604:True:=trivial
theorem PySem.W.Fast.tw6809688709334168610:True:=trivial
theorem PySem.W.Fast.tw7918365947203706139:True:=trivial
theorem PySem.W.Fast.tw9221121457843150239:True:=trivial
theorem PySem.W.Fast.tw3921009378835339808:True:=trivial
theorem PySem.W.Fast.tw16450445181567512079:True:=trivial
theorem PySem.W.Fast.tw7231590600786914899:True:=trivial
theorem PySem.W.Fast.tw12078678591454677275:True:=trivial
theorem PySem.W.Fast.tw5604426971859976584:True:=trivial
theorem PySem.W.Fast.tw11481712730356075706:True:=trivial
theorem PySem.W.Fast.tw16024364462063327739:True:=trivial
theorem PySem.W.Fast.tw11388870078651091677:True:=trivial
theorem PySem.W.Fast.tw1258081664164030766:True:=trivial
theorem PySem.W.Fast.tw10060636853785008769:True:=trivial
theorem PySem.W.Fast.tw14707842934396114999:True:=trivial
theorem PySem.W.Fast.tw4172289052770698749:True:=trivial
theorem PySem.W.Fast.tw1863118800793986456:True:=trivial
theorem PySem.W.Fast.tw13172540362092480696:True:=trivial
theorem PySem.W.Fast.tw15248615213687251533:True:=trivial
theorem PySem.W.Fast.tw13863252051523555739:True:=trivial
theorem PySem.W.Fast.tw17893357895924942753:True:=trivial
theorem PySem.W.Fast.tw8007949684561207723:True:=trivial
theorem PySem.W.Fast.tw17207819671239644958:True:=trivial
theorem PySem.W.Fast.tw913036813910426078:True:=trivial
theorem PySem.W.Fast.tw9134104662112259108:True:=trivial
theorem PySem.W.Fast.tw17828048096580548625:True:=trivial
theorem PySem.W.Fast.tw12569822621112831158:True:=trivial
theorem PySem.W.Fast.tw2237718433611361589:True:=trivial
theorem PySem.W.Fast.tw7609524208557817326:True:=trivial
theorem PySem.W.Fast.tw9328318613521313810:True:=trivial
theorem PySem.W.Fast.tw3082473393545042508:True:=trivial
theorem PySem.W.Fast.tw6344587681201244291:True:=trivial
theorem PySem.W.Fast.tw15276324450329236790:True:=trivial
theorem PySem.W.Fast.tw10345585172392963593:True:=trivial
theorem PySem.W.Fast.tw12581854038325171155:True:=trivial
theorem PySem.W.Fast.tw7901743738050588437:True:=trivial
theorem PySem.W.Fast.tw4323551583399248681:True:=trivial
theorem PySem.W.Fast.tw6515365669136382294:True:=trivial
theorem PySem.W.Fast.tw81543653527984575:True:=trivial
theorem PySem.W.Fast.tw8008814760591721871:True:=trivial
theorem PySem.W.Fast.tw4473033912343540813:True:=trivial
theorem PySem.W.Fast.tw4180869185772565756:True:=trivial
theorem PySem.W.Fast.tw15361738718141977303:True:=trivial
theorem PySem.W.Fast.tw15379948339651760426:True:=trivial
theorem PySem.W.Fast.tw11048459747190900317:True:=trivial
theorem PySem.W.Fast.tw17479722255604758474:True:=trivial
theorem PySem.W.Fast.tw5086709755684934753:True:=trivial
theorem PySem.W.Fast.tw7458065550233291845:True:=trivial
theorem PySem.W.Fast.tw1298575040168029539:True:=trivial
theorem PySem.W.Fast.tw616093735677949755:True:=trivial
theorem PySem.W.Fast.tw14132153686788061451:True:=trivial
theorem PySem.W.Fast.tw3979087701611237167:True:=trivial
theorem PySem.W.Fast.tw6635398241135405431:True:=trivial
theorem PySem.W.Fast.tw12372123748791330340:True:=trivial
theorem PySem.W.Fast.tw10173433061542462383:True:=trivial
theorem PySem.W.Fast.tw2962390026586306569:True:=trivial
theorem PySem.W.Fast.tw18124799324851314254:True:=trivial
theorem PySem.W.Fast.tw14015255042874347113:True:=trivial
theorem PySem.W.Fast.tw8483461793817119470:True:=trivial
theorem PySem.W.Fast.tw3267907690818353706:True:=trivial
theorem PySem.W.Fast.tw11921639076129040273:True:=trivial
theorem PySem.W.Fast.tw2659507987855057299:True:=trivial
theorem PySem.W.Fast.tw12793302955098704863:True:=trivial
theorem PySem.W.Fast.tw8374011272164226959:True:=trivial
theorem PySem.W.Fast.tw14522764474353479984:True:=trivial
theorem PySem.W.Fast.tw10820891356006510330:True:=trivial
theorem PySem.W.Fast.tw10282334172726136792:True:=trivial
theorem PySem.W.Fast.tw16426854830745244700:True:=trivial
theorem PySem.W.Fast.tw6015303852634423085:True:=trivial
theorem PySem.W.Fast.tw2074139951951321096:True:=trivial
theorem PySem.W.Fast.tw10928888718353652007:True:=trivial
theorem PySem.W.Fast.tw12102401735285041855:True:=trivial
theorem PySem.W.Fast.tw847384209236650251:True:=trivial
theorem PySem.W.Fast.tw4023553152953264428:True:=trivial
theorem PySem.W.Fast.tw894142191404617791:True:=trivial
theorem PySem.W.Fast.tw12339713985047424614:True:=trivial
theorem PySem.W.Fast.tw2491184950882783081:True:=trivial
theorem PySem.W.Fast.tw7578075452054667228:True:=trivial
theorem PySem.W.Fast.tw11433283301002670856:True:=trivial
theorem PySem.W.Fast.tw17775257098320399065:True:=trivial
theorem PySem.W.Fast.tw7661783270849947414:True:=trivial
theorem PySem.W.Fast.tw13328386639986785246:True:=trivial
theorem PySem.W.Fast.tw4290936969316299344:True:=trivial
theorem PySem.W.Fast.tw16573474039614021755:True:=trivial
theorem PySem.W.Fast.tw10323034344068323538:True:=trivial
theorem PySem.W.Fast.tw9401173466539785455:True:=trivial
theorem PySem.W.Fast.tw5817178154268422464:True:=trivial
theorem PySem.W.Fast.tw10341200131628347025:True:=trivial
theorem PySem.W.Fast.tw15393455820219758057:True:=trivial
theorem PySem.W.Fast.tw7384698191373806310:True:=trivial
theorem PySem.W.Fast.tw12997535745390684269:True:=trivial
theorem PySem.W.Fast.tw465702673823020411:True:=trivial
theorem PySem.W.Fast.tw17059659413695941751:True:=trivial
theorem PySem.W.Fast.tw15819316965109186573:True:=trivial
theorem PySem.W.Fast.tw1183255019393045486:True:=trivial
theorem PySem.W.Fast.tw15073758371158501203:True:=trivial
theorem PySem.W.Fast.tw17826607590376131376:True:=trivial
theorem PySem.W.Fast.tw7535049350227573551:True:=trivial
theorem PySem.W.Fast.tw15048893109711209694:True:=trivial
theorem PySem.W.Fast.tw3118063973305469237:True:=trivial
theorem PySem.W.Fast.tw11934064893983430104:True:=trivial
theorem PySem.W.Fast.tw7072634828529556970:True:=trivial
theorem PySem.W.Fast.tw4323125085122940831:True:=trivial
theorem PySem.W.Fast.tw10384342962185813795:True:=trivial
theorem PySem.W.Fast.tw9848909319960231652:True:=trivial
theorem PySem.W.Fast.tw13888661320407228227:True:=trivial
theorem PySem.W.Fast.tw14968436413421982919:True:=trivial
theorem PySem.W.Fast.tw7043319727568378479:True:=trivial
theorem PySem.W.Fast.tw8901048311331180954:True:=trivial
theorem PySem.W.Fast.tw775803069826697807:True:=trivial
theorem PySem.W.Fast.tw18373743801397723287:True:=trivial
theorem PySem.W.Fast.tw14672051648036507714:True:=trivial
theorem PySem.W.Fast.tw11024962177773402348:True:=trivial
theorem PySem.W.Fast.tw13250438958496412336:True:=trivial
open PySem PySem.W PyProof.Rows
set_option maxRecDepth 100000 in
set_option maxHeartbeats 0 in
theorem PySem.Challenge.cw_quits_k78_needs_and_pledges_holds : PySem.Challenge.rw_quits_k78_needs_and_pledges.Holds := by
 w_on;o_law;k_head;(case hw=>w_witness2)
 k_fill
 refine Internal.K.walk (l:=PySem.Challenge.rw_quits_k78_needs_and_pledges) rfl rfl (fun w h Y=>PySem.W.km_in_of Y) ?xRec ?xTab ?F
 case xRec=>exact⟨_,rfl⟩
 case xTab=>intro w;kernel_rfl
 case F=>
  intro w mg fa h KX G hmg
  refine Internal.K.fin ?T hmg
  case T=>
   refine' Internal.K.txt_mk KX G ?m_Bare ?m_Closed ?m_Gone ?m_NoDeal ?m_NoLayer ?m_NoMember ?m_NoPart ?m_NoRule ?m_NoTerms ?m_Out ?m_Poor ?m_QuitsError ?m_Settled ?hd_Bare ?ty_Bare ?hd_Closed ?ty_Closed ?hd_Gone ?ty_Gone ?hd_NoDeal ?ty_NoDeal ?hd_NoLayer ?ty_NoLayer ?hd_NoMember ?ty_NoMember ?hd_NoPart ?ty_NoPart ?hd_NoRule ?ty_NoRule ?hd_NoTerms ?ty_NoTerms ?hd_Out ?ty_Out ?hd_Poor ?ty_Poor ?hd_QuitsError ?ty_QuitsError ?hd_Settled ?ty_Settled ?sn_ ?tk_ ?b_QuitsError ?x_Bare ?ga_Bare ?gn_Bare ?be_Bare ?fa_Bare ?mo_Bare ?s_Bare_Bare ?s_Bare_Closed ?n_Bare_Closed ?s_Bare_Gone ?n_Bare_Gone ?s_Bare_NoDeal ?n_Bare_NoDeal ?s_Bare_NoLayer ?n_Bare_NoLayer ?s_Bare_NoMember ?n_Bare_NoMember ?s_Bare_NoPart ?n_Bare_NoPart ?s_Bare_NoRule ?n_Bare_NoRule ?s_Bare_NoTerms ?n_Bare_NoTerms ?s_Bare_Out ?n_Bare_Out ?s_Bare_Poor ?n_Bare_Poor ?s_Bare_QuitsError ?n_Bare_QuitsError ?s_Bare_Settled ?n_Bare_Settled ?v_Bare ?x_Closed ?ga_Closed ?gn_Closed ?be_Closed ?fa_Closed ?mo_Closed ?s_Closed_Bare ?n_Closed_Bare ?s_Closed_Closed ?s_Closed_Gone ?n_Closed_Gone ?s_Closed_NoDeal ?n_Closed_NoDeal ?s_Closed_NoLayer ?n_Closed_NoLayer ?s_Closed_NoMember ?n_Closed_NoMember ?s_Closed_NoPart ?n_Closed_NoPart ?s_Closed_NoRule ?n_Closed_NoRule ?s_Closed_NoTerms ?n_Closed_NoTerms ?s_Closed_Out ?n_Closed_Out ?s_Closed_Poor ?n_Closed_Poor ?s_Closed_QuitsError ?n_Closed_QuitsError ?s_Closed_Settled ?n_Closed_Settled ?v_Closed ?x_Gone ?ga_Gone ?gn_Gone ?be_Gone ?fa_Gone ?mo_Gone ?s_Gone_Bare ?n_Gone_Bare ?s_Gone_Closed ?n_Gone_Closed ?s_Gone_Gone ?s_Gone_NoDeal ?n_Gone_NoDeal ?s_Gone_NoLayer ?n_Gone_NoLayer ?s_Gone_NoMember ?n_Gone_NoMember ?s_Gone_NoPart ?n_Gone_NoPart ?s_Gone_NoRule ?n_Gone_NoRule ?s_Gone_NoTerms ?n_Gone_NoTerms ?s_Gone_Out ?n_Gone_Out ?s_Gone_Poor ?n_Gone_Poor ?s_Gone_QuitsError ?n_Gone_QuitsError ?s_Gone_Settled ?n_Gone_Settled ?v_Gone ?x_NoDeal ?ga_NoDeal ?gn_NoDeal ?be_NoDeal ?fa_NoDeal ?mo_NoDeal ?s_NoDeal_Bare ?n_NoDeal_Bare ?s_NoDeal_Closed ?n_NoDeal_Closed ?s_NoDeal_Gone ?n_NoDeal_Gone ?s_NoDeal_NoDeal ?s_NoDeal_NoLayer ?n_NoDeal_NoLayer ?s_NoDeal_NoMember ?n_NoDeal_NoMember ?s_NoDeal_NoPart ?n_NoDeal_NoPart ?s_NoDeal_NoRule ?n_NoDeal_NoRule ?s_NoDeal_NoTerms ?n_NoDeal_NoTerms ?s_NoDeal_Out ?n_NoDeal_Out ?s_NoDeal_Poor ?n_NoDeal_Poor ?s_NoDeal_QuitsError ?n_NoDeal_QuitsError ?s_NoDeal_Settled ?n_NoDeal_Settled ?v_NoDeal ?x_NoLayer ?ga_NoLayer ?gn_NoLayer ?be_NoLayer ?fa_NoLayer ?mo_NoLayer ?s_NoLayer_Bare ?n_NoLayer_Bare ?s_NoLayer_Closed ?n_NoLayer_Closed ?s_NoLayer_Gone ?n_NoLayer_Gone ?s_NoLayer_NoDeal ?n_NoLayer_NoDeal ?s_NoLayer_NoLayer ?s_NoLayer_NoMember ?n_NoLayer_NoMember ?s_NoLayer_NoPart ?n_NoLayer_NoPart ?s_NoLayer_NoRule ?n_NoLayer_NoRule ?s_NoLayer_NoTerms ?n_NoLayer_NoTerms ?s_NoLayer_Out ?n_NoLayer_Out ?s_NoLayer_Poor ?n_NoLayer_Poor ?s_NoLayer_QuitsError ?n_NoLayer_QuitsError ?s_NoLayer_Settled ?n_NoLayer_Settled ?v_NoLayer ?x_NoMember ?ga_NoMember ?gn_NoMember ?be_NoMember ?fa_NoMember ?mo_NoMember ?s_NoMember_Bare ?n_NoMember_Bare ?s_NoMember_Closed ?n_NoMember_Closed ?s_NoMember_Gone ?n_NoMember_Gone ?s_NoMember_NoDeal ?n_NoMember_NoDeal ?s_NoMember_NoLayer ?n_NoMember_NoLayer ?s_NoMember_NoMember ?s_NoMember_NoPart ?n_NoMember_NoPart ?s_NoMember_NoRule ?n_NoMember_NoRule ?s_NoMember_NoTerms ?n_NoMember_NoTerms ?s_NoMember_Out ?n_NoMember_Out ?s_NoMember_Poor ?n_NoMember_Poor ?s_NoMember_QuitsError ?n_NoMember_QuitsError ?s_NoMember_Settled ?n_NoMember_Settled ?v_NoMember ?x_NoPart ?ga_NoPart ?gn_NoPart ?be_NoPart ?fa_NoPart ?mo_NoPart ?s_NoPart_Bare ?n_NoPart_Bare ?s_NoPart_Closed ?n_NoPart_Closed ?s_NoPart_Gone ?n_NoPart_Gone ?s_NoPart_NoDeal ?n_NoPart_NoDeal ?s_NoPart_NoLayer ?n_NoPart_NoLayer ?s_NoPart_NoMember ?n_NoPart_NoMember ?s_NoPart_NoPart ?s_NoPart_NoRule ?n_NoPart_NoRule ?s_NoPart_NoTerms ?n_NoPart_NoTerms ?s_NoPart_Out ?n_NoPart_Out ?s_NoPart_Poor ?n_NoPart_Poor ?s_NoPart_QuitsError ?n_NoPart_QuitsError ?s_NoPart_Settled ?n_NoPart_Settled ?v_NoPart ?x_NoRule ?ga_NoRule ?gn_NoRule ?be_NoRule ?fa_NoRule ?mo_NoRule ?s_NoRule_Bare ?n_NoRule_Bare ?s_NoRule_Closed ?n_NoRule_Closed ?s_NoRule_Gone ?n_NoRule_Gone ?s_NoRule_NoDeal ?n_NoRule_NoDeal ?s_NoRule_NoLayer ?n_NoRule_NoLayer ?s_NoRule_NoMember ?n_NoRule_NoMember ?s_NoRule_NoPart ?n_NoRule_NoPart ?s_NoRule_NoRule ?s_NoRule_NoTerms ?n_NoRule_NoTerms ?s_NoRule_Out ?n_NoRule_Out ?s_NoRule_Poor ?n_NoRule_Poor ?s_NoRule_QuitsError ?n_NoRule_QuitsError ?s_NoRule_Settled ?n_NoRule_Settled ?v_NoRule ?x_NoTerms ?ga_NoTerms ?gn_NoTerms ?be_NoTerms ?fa_NoTerms ?mo_NoTerms ?s_NoTerms_Bare ?n_NoTerms_Bare ?s_NoTerms_Closed ?n_NoTerms_Closed ?s_NoTerms_Gone ?n_NoTerms_Gone ?s_NoTerms_NoDeal ?n_NoTerms_NoDeal ?s_NoTerms_NoLayer ?n_NoTerms_NoLayer ?s_NoTerms_NoMember ?n_NoTerms_NoMember ?s_NoTerms_NoPart ?n_NoTerms_NoPart ?s_NoTerms_NoRule ?n_NoTerms_NoRule ?s_NoTerms_NoTerms ?s_NoTerms_Out ?n_NoTerms_Out ?s_NoTerms_Poor ?n_NoTerms_Poor ?s_NoTerms_QuitsError ?n_NoTerms_QuitsError ?s_NoTerms_Settled ?n_NoTerms_Settled ?v_NoTerms ?x_Out ?ga_Out ?gn_Out ?be_Out ?fa_Out ?mo_Out ?s_Out_Bare ?n_Out_Bare ?s_Out_Closed ?n_Out_Closed ?s_Out_Gone ?n_Out_Gone ?s_Out_NoDeal ?n_Out_NoDeal ?s_Out_NoLayer ?n_Out_NoLayer ?s_Out_NoMember ?n_Out_NoMember ?s_Out_NoPart ?n_Out_NoPart ?s_Out_NoRule ?n_Out_NoRule ?s_Out_NoTerms ?n_Out_NoTerms ?s_Out_Out ?s_Out_Poor ?n_Out_Poor ?s_Out_QuitsError ?n_Out_QuitsError ?s_Out_Settled ?n_Out_Settled ?v_Out ?x_Poor ?ga_Poor ?gn_Poor ?be_Poor ?fa_Poor ?mo_Poor ?s_Poor_Bare ?n_Poor_Bare ?s_Poor_Closed ?n_Poor_Closed ?s_Poor_Gone ?n_Poor_Gone ?s_Poor_NoDeal ?n_Poor_NoDeal ?s_Poor_NoLayer ?n_Poor_NoLayer ?s_Poor_NoMember ?n_Poor_NoMember ?s_Poor_NoPart ?n_Poor_NoPart ?s_Poor_NoRule ?n_Poor_NoRule ?s_Poor_NoTerms ?n_Poor_NoTerms ?s_Poor_Out ?n_Poor_Out ?s_Poor_Poor ?s_Poor_QuitsError ?n_Poor_QuitsError ?s_Poor_Settled ?n_Poor_Settled ?v_Poor ?x_Settled ?ga_Settled ?gn_Settled ?be_Settled ?fa_Settled ?mo_Settled ?s_Settled_Bare ?n_Settled_Bare ?s_Settled_Closed ?n_Settled_Closed ?s_Settled_Gone ?n_Settled_Gone ?s_Settled_NoDeal ?n_Settled_NoDeal ?s_Settled_NoLayer ?n_Settled_NoLayer ?s_Settled_NoMember ?n_Settled_NoMember ?s_Settled_NoPart ?n_Settled_NoPart ?s_Settled_NoRule ?n_Settled_NoRule ?s_Settled_NoTerms ?n_Settled_NoTerms ?s_Settled_Out ?n_Settled_Out ?s_Settled_Poor ?n_Settled_Poor ?s_Settled_QuitsError ?n_Settled_QuitsError ?s_Settled_Settled ?v_Settled ?m_Book ?pg_Book ?hd_Book ?po_Book ?sa_Book ?mk_Book ?kc_Book ?na_Book_day ?na_Book_deals ?na_Book_many ?na_Book_wares ?m_House ?pg_House ?hd_House ?po_House ?sa_House ?mk_House ?kc_House ?na_House_book ?na_House_kept ?na_House_moves ?na_House_order ?na_House_outs ?na_House_pledges ?na_House_purses ?na_House_reports ?na_House_rule ?na_House_shares ?g_MOST_AMOUNT ?g_MOST_COINS ?g_MOST_DAY ?g_MOST_UNITS ?g_PAYEE ?g_PAYER ?g_STATE ?g_UNITS ?g_WARE ?g_WORDS ?o_WORDS ?a_Book___init__ ?i_Book___init__ ?l_Book___init__ ?c_Book___init__ ?k_Book___init__ ?a_Book_strike ?i_Book_strike ?l_Book_strike ?c_Book_strike ?k_Book_strike ?a_Book_check_members ?i_Book_check_members ?l_Book_check_members ?c_Book_check_members ?k_Book_check_members ?a_Book_check_terms ?i_Book_check_terms ?l_Book_check_terms ?c_Book_check_terms ?k_Book_check_terms ?a_Book_break_off ?i_Book_break_off ?l_Book_break_off ?c_Book_break_off ?k_Book_break_off ?a_Book_standing_deal ?i_Book_standing_deal ?l_Book_standing_deal ?c_Book_standing_deal ?k_Book_standing_deal ?a_Book_put_state ?i_Book_put_state ?l_Book_put_state ?c_Book_put_state ?k_Book_put_state ?a_Book_deal ?i_Book_deal ?l_Book_deal ?c_Book_deal ?k_Book_deal ?a_Book_position ?i_Book_position ?l_Book_position ?c_Book_position ?k_Book_position ?a_House___init__ ?i_House___init__ ?l_House___init__ ?c_House___init__ ?k_House___init__ ?a_House_put ?i_House_put ?l_House_put ?c_House_put ?k_House_put ?a_House_lay ?i_House_lay ?l_House_lay ?c_House_lay ?k_House_lay ?a_House_free ?i_House_free ?l_House_free ?c_House_free ?k_House_free ?a_House_check_coins ?i_House_check_coins ?l_House_check_coins ?c_House_check_coins ?k_House_check_coins ?a_House_strike ?i_House_strike ?l_House_strike ?c_House_strike ?k_House_strike ?a_House_break_off ?i_House_break_off ?l_House_break_off ?c_House_break_off ?k_House_break_off ?a_House_pledge ?i_House_pledge ?l_House_pledge ?c_House_pledge ?k_House_pledge ?a_House_need ?i_House_need ?l_House_need ?c_House_need ?k_House_need ?a_House_need_with ?i_House_need_with ?l_House_need_with ?c_House_need_with ?k_House_need_with ?a_House_deal ?i_House_deal ?l_House_deal ?c_House_deal ?k_House_deal ?a_House_position ?i_House_position ?l_House_position ?c_House_position ?k_House_position ?a_check_order ?l_check_order ?c_check_order ?k_check_order ?a_divisor ?l_divisor ?c_divisor ?k_divisor ?a_part ?l_part ?c_part ?k_part ?a_under ?l_under ?c_under ?k_under ?a_losses_of ?l_losses_of ?c_losses_of ?k_losses_of ?a_worst_days ?l_worst_days ?c_worst_days ?k_worst_days ?a_need_of ?l_need_of ?c_need_of ?k_need_of ?a_check_rule ?l_check_rule ?c_check_rule ?k_check_rule ?a_check_enough ?l_check_enough ?c_check_enough ?k_check_enough ?a_check_covered ?l_check_covered ?c_check_covered ?k_check_covered ?a__law_cell ?l__law_cell ?c__law_cell ?k__law_cell ?a__law_draw ?l__law_draw ?c__law_draw ?k__law_draw ?a__law_great ?l__law_great ?c__law_great ?k__law_great ?a__law_pledge ?l__law_pledge ?c__law_pledge ?k__law_pledge ?a__law_moves ?l__law_moves ?c__law_moves ?k__law_moves ?a__law_loss ?l__law_loss ?c__law_loss ?k__law_loss ?a__law_need ?l__law_need ?c__law_need ?k__law_need ?a__law_positions ?l__law_positions ?c__law_positions ?k__law_positions ?a__law_part_is ?l__law_part_is ?c__law_part_is ?k__law_part_is ?a__law_stands ?l__law_stands ?c__law_stands ?k__law_stands ?a__law_name ?l__law_name ?c__law_name ?k__law_name ?a__law_done ?l__law_done ?c__law_done ?k__law_done ?a__law_found ?l__law_found ?c__law_found ?k__law_found ?a__law_deed ?l__law_deed ?c__law_deed ?k__law_deed ?a__law_short_of ?l__law_short_of ?c__law_short_of ?k__law_short_of ?a__law_struck ?l__law_struck ?c__law_struck ?k__law_struck ?a__law_freed ?l__law_freed ?c__law_freed ?k__law_freed ?a_law ?l_law ?c_law ?k_law ?cq_worst_days ?lc_worst_days ?ve_worst_days ?w_ValueError ?w_abs ?w_bool ?w_enumerate ?w_int ?w_isinstance ?w_len ?w_list ?w_max ?w_min ?w_range ?w_sorted ?w_sum ?w_tuple ?w_zip
   (case m_Bare|m_Closed|m_Gone|m_NoDeal|m_NoLayer|m_NoMember|m_NoPart|m_NoRule|m_NoTerms|m_Out|m_Poor|m_QuitsError|m_Settled|hd_Bare|ty_Bare|hd_Closed|ty_Closed|hd_Gone|ty_Gone|hd_NoDeal|ty_NoDeal|hd_NoLayer|ty_NoLayer|hd_NoMember|ty_NoMember|hd_NoPart|ty_NoPart|hd_NoRule|ty_NoRule|hd_NoTerms|ty_NoTerms|hd_Out|ty_Out|hd_Poor|ty_Poor|hd_QuitsError|ty_QuitsError|hd_Settled|ty_Settled|sn_|tk_|b_QuitsError=>k_is)
   (case x_Bare=>k_exc)
   (case ga_Bare|gn_Bare|be_Bare|fa_Bare|mo_Bare|s_Bare_Bare|s_Bare_Closed=>k_is)
   (case n_Bare_Closed=>decide)
   (case s_Bare_Gone=>k_is)
   (case n_Bare_Gone=>decide)
   (case s_Bare_NoDeal=>k_is)
   (case n_Bare_NoDeal=>decide)
   (case s_Bare_NoLayer=>k_is)
   (case n_Bare_NoLayer=>decide)
   (case s_Bare_NoMember=>k_is)
   (case n_Bare_NoMember=>decide)
   (case s_Bare_NoPart=>k_is)
   (case n_Bare_NoPart=>decide)
   (case s_Bare_NoRule=>k_is)
   (case n_Bare_NoRule=>decide)
   (case s_Bare_NoTerms=>k_is)
   (case n_Bare_NoTerms=>decide)
   (case s_Bare_Out=>k_is)
   (case n_Bare_Out=>decide)
   (case s_Bare_Poor=>k_is)
   (case n_Bare_Poor=>decide)
   (case s_Bare_QuitsError=>k_is)
   (case n_Bare_QuitsError=>decide)
   (case s_Bare_Settled=>k_is)
   (case n_Bare_Settled=>decide)
   (case v_Bare=>k_is)
   (case x_Closed=>k_exc)
   (case ga_Closed|gn_Closed|be_Closed|fa_Closed|mo_Closed|s_Closed_Bare=>k_is)
   (case n_Closed_Bare=>decide)
   (case s_Closed_Closed|s_Closed_Gone=>k_is)
   (case n_Closed_Gone=>decide)
   (case s_Closed_NoDeal=>k_is)
   (case n_Closed_NoDeal=>decide)
   (case s_Closed_NoLayer=>k_is)
   (case n_Closed_NoLayer=>decide)
   (case s_Closed_NoMember=>k_is)
   (case n_Closed_NoMember=>decide)
   (case s_Closed_NoPart=>k_is)
   (case n_Closed_NoPart=>decide)
   (case s_Closed_NoRule=>k_is)
   (case n_Closed_NoRule=>decide)
   (case s_Closed_NoTerms=>k_is)
   (case n_Closed_NoTerms=>decide)
   (case s_Closed_Out=>k_is)
   (case n_Closed_Out=>decide)
   (case s_Closed_Poor=>k_is)
   (case n_Closed_Poor=>decide)
   (case s_Closed_QuitsError=>k_is)
   (case n_Closed_QuitsError=>decide)
   (case s_Closed_Settled=>k_is)
   (case n_Closed_Settled=>decide)
   (case v_Closed=>k_is)
   (case x_Gone=>k_exc)
   (case ga_Gone|gn_Gone|be_Gone|fa_Gone|mo_Gone|s_Gone_Bare=>k_is)
   (case n_Gone_Bare=>decide)
   (case s_Gone_Closed=>k_is)
   (case n_Gone_Closed=>decide)
   (case s_Gone_Gone|s_Gone_NoDeal=>k_is)
   (case n_Gone_NoDeal=>decide)
   (case s_Gone_NoLayer=>k_is)
   (case n_Gone_NoLayer=>decide)
   (case s_Gone_NoMember=>k_is)
   (case n_Gone_NoMember=>decide)
   (case s_Gone_NoPart=>k_is)
   (case n_Gone_NoPart=>decide)
   (case s_Gone_NoRule=>k_is)
   (case n_Gone_NoRule=>decide)
   (case s_Gone_NoTerms=>k_is)
   (case n_Gone_NoTerms=>decide)
   (case s_Gone_Out=>k_is)
   (case n_Gone_Out=>decide)
   (case s_Gone_Poor=>k_is)
   (case n_Gone_Poor=>decide)
   (case s_Gone_QuitsError=>k_is)
   (case n_Gone_QuitsError=>decide)
   (case s_Gone_Settled=>k_is)
   (case n_Gone_Settled=>decide)
   (case v_Gone=>k_is)
   (case x_NoDeal=>k_exc)
   (case ga_NoDeal|gn_NoDeal|be_NoDeal|fa_NoDeal|mo_NoDeal|s_NoDeal_Bare=>k_is)
   (case n_NoDeal_Bare=>decide)
   (case s_NoDeal_Closed=>k_is)
   (case n_NoDeal_Closed=>decide)
   (case s_NoDeal_Gone=>k_is)
   (case n_NoDeal_Gone=>decide)
   (case s_NoDeal_NoDeal|s_NoDeal_NoLayer=>k_is)
   (case n_NoDeal_NoLayer=>decide)
   (case s_NoDeal_NoMember=>k_is)
   (case n_NoDeal_NoMember=>decide)
   (case s_NoDeal_NoPart=>k_is)
   (case n_NoDeal_NoPart=>decide)
   (case s_NoDeal_NoRule=>k_is)
   (case n_NoDeal_NoRule=>decide)
   (case s_NoDeal_NoTerms=>k_is)
   (case n_NoDeal_NoTerms=>decide)
   (case s_NoDeal_Out=>k_is)
   (case n_NoDeal_Out=>decide)
   (case s_NoDeal_Poor=>k_is)
   (case n_NoDeal_Poor=>decide)
   (case s_NoDeal_QuitsError=>k_is)
   (case n_NoDeal_QuitsError=>decide)
   (case s_NoDeal_Settled=>k_is)
   (case n_NoDeal_Settled=>decide)
   (case v_NoDeal=>k_is)
   (case x_NoLayer=>k_exc)
   (case ga_NoLayer|gn_NoLayer|be_NoLayer|fa_NoLayer|mo_NoLayer|s_NoLayer_Bare=>k_is)
   (case n_NoLayer_Bare=>decide)
   (case s_NoLayer_Closed=>k_is)
   (case n_NoLayer_Closed=>decide)
   (case s_NoLayer_Gone=>k_is)
   (case n_NoLayer_Gone=>decide)
   (case s_NoLayer_NoDeal=>k_is)
   (case n_NoLayer_NoDeal=>decide)
   (case s_NoLayer_NoLayer|s_NoLayer_NoMember=>k_is)
   (case n_NoLayer_NoMember=>decide)
   (case s_NoLayer_NoPart=>k_is)
   (case n_NoLayer_NoPart=>decide)
   (case s_NoLayer_NoRule=>k_is)
   (case n_NoLayer_NoRule=>decide)
   (case s_NoLayer_NoTerms=>k_is)
   (case n_NoLayer_NoTerms=>decide)
   (case s_NoLayer_Out=>k_is)
   (case n_NoLayer_Out=>decide)
   (case s_NoLayer_Poor=>k_is)
   (case n_NoLayer_Poor=>decide)
   (case s_NoLayer_QuitsError=>k_is)
   (case n_NoLayer_QuitsError=>decide)
   (case s_NoLayer_Settled=>k_is)
   (case n_NoLayer_Settled=>decide)
   (case v_NoLayer=>k_is)
   (case x_NoMember=>k_exc)
   (case ga_NoMember|gn_NoMember|be_NoMember|fa_NoMember|mo_NoMember|s_NoMember_Bare=>k_is)
   (case n_NoMember_Bare=>decide)
   (case s_NoMember_Closed=>k_is)
   (case n_NoMember_Closed=>decide)
   (case s_NoMember_Gone=>k_is)
   (case n_NoMember_Gone=>decide)
   (case s_NoMember_NoDeal=>k_is)
   (case n_NoMember_NoDeal=>decide)
   (case s_NoMember_NoLayer=>k_is)
   (case n_NoMember_NoLayer=>decide)
   (case s_NoMember_NoMember|s_NoMember_NoPart=>k_is)
   (case n_NoMember_NoPart=>decide)
   (case s_NoMember_NoRule=>k_is)
   (case n_NoMember_NoRule=>decide)
   (case s_NoMember_NoTerms=>k_is)
   (case n_NoMember_NoTerms=>decide)
   (case s_NoMember_Out=>k_is)
   (case n_NoMember_Out=>decide)
   (case s_NoMember_Poor=>k_is)
   (case n_NoMember_Poor=>decide)
   (case s_NoMember_QuitsError=>k_is)
   (case n_NoMember_QuitsError=>decide)
   (case s_NoMember_Settled=>k_is)
   (case n_NoMember_Settled=>decide)
   (case v_NoMember=>k_is)
   (case x_NoPart=>k_exc)
   (case ga_NoPart|gn_NoPart|be_NoPart|fa_NoPart|mo_NoPart|s_NoPart_Bare=>k_is)
   (case n_NoPart_Bare=>decide)
   (case s_NoPart_Closed=>k_is)
   (case n_NoPart_Closed=>decide)
   (case s_NoPart_Gone=>k_is)
   (case n_NoPart_Gone=>decide)
   (case s_NoPart_NoDeal=>k_is)
   (case n_NoPart_NoDeal=>decide)
   (case s_NoPart_NoLayer=>k_is)
   (case n_NoPart_NoLayer=>decide)
   (case s_NoPart_NoMember=>k_is)
   (case n_NoPart_NoMember=>decide)
   (case s_NoPart_NoPart|s_NoPart_NoRule=>k_is)
   (case n_NoPart_NoRule=>decide)
   (case s_NoPart_NoTerms=>k_is)
   (case n_NoPart_NoTerms=>decide)
   (case s_NoPart_Out=>k_is)
   (case n_NoPart_Out=>decide)
   (case s_NoPart_Poor=>k_is)
   (case n_NoPart_Poor=>decide)
   (case s_NoPart_QuitsError=>k_is)
   (case n_NoPart_QuitsError=>decide)
   (case s_NoPart_Settled=>k_is)
   (case n_NoPart_Settled=>decide)
   (case v_NoPart=>k_is)
   (case x_NoRule=>k_exc)
   (case ga_NoRule|gn_NoRule|be_NoRule|fa_NoRule|mo_NoRule|s_NoRule_Bare=>k_is)
   (case n_NoRule_Bare=>decide)
   (case s_NoRule_Closed=>k_is)
   (case n_NoRule_Closed=>decide)
   (case s_NoRule_Gone=>k_is)
   (case n_NoRule_Gone=>decide)
   (case s_NoRule_NoDeal=>k_is)
   (case n_NoRule_NoDeal=>decide)
   (case s_NoRule_NoLayer=>k_is)
   (case n_NoRule_NoLayer=>decide)
   (case s_NoRule_NoMember=>k_is)
   (case n_NoRule_NoMember=>decide)
   (case s_NoRule_NoPart=>k_is)
   (case n_NoRule_NoPart=>decide)
   (case s_NoRule_NoRule|s_NoRule_NoTerms=>k_is)
   (case n_NoRule_NoTerms=>decide)
   (case s_NoRule_Out=>k_is)
   (case n_NoRule_Out=>decide)
   (case s_NoRule_Poor=>k_is)
   (case n_NoRule_Poor=>decide)
   (case s_NoRule_QuitsError=>k_is)
   (case n_NoRule_QuitsError=>decide)
   (case s_NoRule_Settled=>k_is)
   (case n_NoRule_Settled=>decide)
   (case v_NoRule=>k_is)
   (case x_NoTerms=>k_exc)
   (case ga_NoTerms|gn_NoTerms|be_NoTerms|fa_NoTerms|mo_NoTerms|s_NoTerms_Bare=>k_is)
   (case n_NoTerms_Bare=>decide)
   (case s_NoTerms_Closed=>k_is)
   (case n_NoTerms_Closed=>decide)
   (case s_NoTerms_Gone=>k_is)
   (case n_NoTerms_Gone=>decide)
   (case s_NoTerms_NoDeal=>k_is)
   (case n_NoTerms_NoDeal=>decide)
   (case s_NoTerms_NoLayer=>k_is)
   (case n_NoTerms_NoLayer=>decide)
   (case s_NoTerms_NoMember=>k_is)
   (case n_NoTerms_NoMember=>decide)
   (case s_NoTerms_NoPart=>k_is)
   (case n_NoTerms_NoPart=>decide)
   (case s_NoTerms_NoRule=>k_is)
   (case n_NoTerms_NoRule=>decide)
   (case s_NoTerms_NoTerms|s_NoTerms_Out=>k_is)
   (case n_NoTerms_Out=>decide)
   (case s_NoTerms_Poor=>k_is)
   (case n_NoTerms_Poor=>decide)
   (case s_NoTerms_QuitsError=>k_is)
   (case n_NoTerms_QuitsError=>decide)
   (case s_NoTerms_Settled=>k_is)
   (case n_NoTerms_Settled=>decide)
   (case v_NoTerms=>k_is)
   (case x_Out=>k_exc)
   (case ga_Out|gn_Out|be_Out|fa_Out|mo_Out|s_Out_Bare=>k_is)
   (case n_Out_Bare=>decide)
   (case s_Out_Closed=>k_is)
   (case n_Out_Closed=>decide)
   (case s_Out_Gone=>k_is)
   (case n_Out_Gone=>decide)
   (case s_Out_NoDeal=>k_is)
   (case n_Out_NoDeal=>decide)
   (case s_Out_NoLayer=>k_is)
   (case n_Out_NoLayer=>decide)
   (case s_Out_NoMember=>k_is)
   (case n_Out_NoMember=>decide)
   (case s_Out_NoPart=>k_is)
   (case n_Out_NoPart=>decide)
   (case s_Out_NoRule=>k_is)
   (case n_Out_NoRule=>decide)
   (case s_Out_NoTerms=>k_is)
   (case n_Out_NoTerms=>decide)
   (case s_Out_Out|s_Out_Poor=>k_is)
   (case n_Out_Poor=>decide)
   (case s_Out_QuitsError=>k_is)
   (case n_Out_QuitsError=>decide)
   (case s_Out_Settled=>k_is)
   (case n_Out_Settled=>decide)
   (case v_Out=>k_is)
   (case x_Poor=>k_exc)
   (case ga_Poor|gn_Poor|be_Poor|fa_Poor|mo_Poor|s_Poor_Bare=>k_is)
   (case n_Poor_Bare=>decide)
   (case s_Poor_Closed=>k_is)
   (case n_Poor_Closed=>decide)
   (case s_Poor_Gone=>k_is)
   (case n_Poor_Gone=>decide)
   (case s_Poor_NoDeal=>k_is)
   (case n_Poor_NoDeal=>decide)
   (case s_Poor_NoLayer=>k_is)
   (case n_Poor_NoLayer=>decide)
   (case s_Poor_NoMember=>k_is)
   (case n_Poor_NoMember=>decide)
   (case s_Poor_NoPart=>k_is)
   (case n_Poor_NoPart=>decide)
   (case s_Poor_NoRule=>k_is)
   (case n_Poor_NoRule=>decide)
   (case s_Poor_NoTerms=>k_is)
   (case n_Poor_NoTerms=>decide)
   (case s_Poor_Out=>k_is)
   (case n_Poor_Out=>decide)
   (case s_Poor_Poor|s_Poor_QuitsError=>k_is)
   (case n_Poor_QuitsError=>decide)
   (case s_Poor_Settled=>k_is)
   (case n_Poor_Settled=>decide)
   (case v_Poor=>k_is)
   (case x_Settled=>k_exc)
   (case ga_Settled|gn_Settled|be_Settled|fa_Settled|mo_Settled|s_Settled_Bare=>k_is)
   (case n_Settled_Bare=>decide)
   (case s_Settled_Closed=>k_is)
   (case n_Settled_Closed=>decide)
   (case s_Settled_Gone=>k_is)
   (case n_Settled_Gone=>decide)
   (case s_Settled_NoDeal=>k_is)
   (case n_Settled_NoDeal=>decide)
   (case s_Settled_NoLayer=>k_is)
   (case n_Settled_NoLayer=>decide)
   (case s_Settled_NoMember=>k_is)
   (case n_Settled_NoMember=>decide)
   (case s_Settled_NoPart=>k_is)
   (case n_Settled_NoPart=>decide)
   (case s_Settled_NoRule=>k_is)
   (case n_Settled_NoRule=>decide)
   (case s_Settled_NoTerms=>k_is)
   (case n_Settled_NoTerms=>decide)
   (case s_Settled_Out=>k_is)
   (case n_Settled_Out=>decide)
   (case s_Settled_Poor=>k_is)
   (case n_Settled_Poor=>decide)
   (case s_Settled_QuitsError=>k_is)
   (case n_Settled_QuitsError=>decide)
   (case s_Settled_Settled|v_Settled|m_Book|pg_Book|hd_Book|po_Book|sa_Book|mk_Book|kc_Book|na_Book_day|na_Book_deals|na_Book_many|na_Book_wares|m_House|pg_House|hd_House|po_House|sa_House|mk_House|kc_House|na_House_book|na_House_kept|na_House_moves|na_House_order|na_House_outs|na_House_pledges|na_House_purses|na_House_reports|na_House_rule|na_House_shares|g_MOST_AMOUNT|g_MOST_COINS|g_MOST_DAY|g_MOST_UNITS|g_PAYEE|g_PAYER|g_STATE|g_UNITS|g_WARE|g_WORDS|o_WORDS|a_Book___init__|i_Book___init__|l_Book___init__|c_Book___init__|k_Book___init__|a_Book_strike|i_Book_strike|l_Book_strike|c_Book_strike|k_Book_strike|a_Book_check_members|i_Book_check_members|l_Book_check_members|c_Book_check_members|k_Book_check_members|a_Book_check_terms|i_Book_check_terms|l_Book_check_terms|c_Book_check_terms|k_Book_check_terms|a_Book_break_off|i_Book_break_off|l_Book_break_off|c_Book_break_off|k_Book_break_off|a_Book_standing_deal|i_Book_standing_deal|l_Book_standing_deal|c_Book_standing_deal|k_Book_standing_deal|a_Book_put_state|i_Book_put_state|l_Book_put_state|c_Book_put_state|k_Book_put_state|a_Book_deal|i_Book_deal|l_Book_deal|c_Book_deal|k_Book_deal|a_Book_position|i_Book_position|l_Book_position|c_Book_position|k_Book_position|a_House___init__|i_House___init__|l_House___init__|c_House___init__|k_House___init__|a_House_put|i_House_put|l_House_put|c_House_put|k_House_put|a_House_lay|i_House_lay|l_House_lay|c_House_lay|k_House_lay|a_House_free|i_House_free|l_House_free|c_House_free|k_House_free|a_House_check_coins|i_House_check_coins|l_House_check_coins|c_House_check_coins|k_House_check_coins|a_House_strike|i_House_strike|l_House_strike|c_House_strike|k_House_strike|a_House_break_off|i_House_break_off|l_House_break_off|c_House_break_off|k_House_break_off|a_House_pledge|i_House_pledge|l_House_pledge|c_House_pledge|k_House_pledge|a_House_need|i_House_need|l_House_need|c_House_need|k_House_need|a_House_need_with|i_House_need_with|l_House_need_with|c_House_need_with|k_House_need_with|a_House_deal|i_House_deal|l_House_deal|c_House_deal|k_House_deal|a_House_position|i_House_position|l_House_position|c_House_position|k_House_position|a_check_order|l_check_order|c_check_order|k_check_order|a_divisor|l_divisor|c_divisor|k_divisor|a_part|l_part|c_part|k_part|a_under|l_under|c_under|k_under|a_losses_of|l_losses_of|c_losses_of|k_losses_of|a_worst_days|l_worst_days|c_worst_days|k_worst_days|a_need_of|l_need_of|c_need_of|k_need_of|a_check_rule|l_check_rule|c_check_rule|k_check_rule|a_check_enough|l_check_enough|c_check_enough|k_check_enough|a_check_covered|l_check_covered|c_check_covered|k_check_covered|a__law_cell|l__law_cell|c__law_cell|k__law_cell|a__law_draw|l__law_draw|c__law_draw|k__law_draw|a__law_great|l__law_great|c__law_great|k__law_great|a__law_pledge|l__law_pledge|c__law_pledge|k__law_pledge|a__law_moves|l__law_moves|c__law_moves|k__law_moves|a__law_loss|l__law_loss|c__law_loss|k__law_loss|a__law_need|l__law_need|c__law_need|k__law_need|a__law_positions|l__law_positions|c__law_positions|k__law_positions|a__law_part_is|l__law_part_is|c__law_part_is|k__law_part_is|a__law_stands|l__law_stands|c__law_stands|k__law_stands|a__law_name|l__law_name|c__law_name|k__law_name|a__law_done|l__law_done|c__law_done|k__law_done|a__law_found|l__law_found|c__law_found|k__law_found|a__law_deed|l__law_deed|c__law_deed|k__law_deed|a__law_short_of|l__law_short_of|c__law_short_of|k__law_short_of|a__law_struck|l__law_struck|c__law_struck|k__law_struck|a__law_freed|l__law_freed|c__law_freed|k__law_freed|a_law|l_law|c_law|k_law=>k_is)
   (case cq_worst_days=>exact rfl)
   (case lc_worst_days=>k_is)
   (case ve_worst_days=>exact rfl)
   (case w_ValueError|w_abs|w_bool|w_enumerate|w_int|w_isinstance|w_len|w_list|w_max|w_min|w_range|w_sorted|w_sum|w_tuple|w_zip=>k_is)
