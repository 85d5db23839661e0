import PyProof.Rows.All
import Wide.All
import OpenK.AllK
import Wide.FinOn
import Lean
import PyProof.EqAt
import PyProof.EqKinds
import PyProof.TupleCall
import PyProof.CompFree
import PyProof.Cells
import PyProof.EnumFor
import PyProof.EnumStmt
import PyProof.EnumMake
import PyProof.ZipIter
import PyProof.SumAny
import PyProof.MinMaxWalk
import PyProof.ConsumeWalk
import PyProof.Rows.EnumRows
import PyProof.Rows.FactsT2
import PyProof.Rows.SeqGen
import KE.KTryMore
import PyProof.ExcBaseAll.ValueError
import PyProof.ExcAttrAll.ValueError
import PyProof.ListRange
import PyProof.Rows.SortShell
import PyProof.Rows.SortWalk
import KE.LcSums
import KE.KMinBuiltin
import KE.RegKLenAny
import PyProof.Rows.CallKwBuiltin
import PyProof.Rows.SortRev
import PyProof.SeqI3
import PySem.Challenge.RW_quits_k43_whole_the_greatest
set_option compiler.extract_closed false
set_option bootstrap.genMatcherCode false
set_option Elab.async false
set_option linter.all false
set_option maxRecDepth 100000
noncomputable section
abbrev Fg:=PySem.W.Frag
abbrev ya:=@List.mem_of_getElem?
abbrev yb:=@List.length_append
abbrev yc:=@Nat.le_trans
abbrev ye:=@List.getD_eq_getElem?_getD
abbrev yf:=@List.getElem?_map
abbrev yg:=@Nat.le_refl
abbrev yh:=@List.length_map
abbrev yi:=@PySem.W.mg_of
abbrev yj:=@List.getElem?_eq_getElem
abbrev yk:=@List.getElem?_eq_some_iff
abbrev yl:=@List.map_append
abbrev ym:=@List.mem_append_right
abbrev yn:=@Option.some.inj
abbrev yp:=@Nat.succ_le_succ
abbrev yq:=@List.size_toArray
abbrev yr:=@List.mem_append_left
abbrev yt:=@Bool.false_ne_true
abbrev yu:=@Rat.intCast_mul
abbrev yv:=@List.length_range
abbrev yw:=@List.mem_singleton
abbrev yx:=@Int.toNat_natCast
abbrev yy:=@Nat.ne_of_lt
abbrev yz:=@Nat.lt_of_lt_of_le
abbrev yA:=@List.map_singleton
abbrev yB:=@Rat.mul_nonneg
abbrev yC:=@List.range_succ
abbrev yE:=@List.map_congr_left
abbrev yF:=@Nat.zero_le
abbrev yG:=@Rat.le_refl
abbrev yH:=@Rat.mul_le_mul_of_nonneg_right
abbrev yI:=@Nat.lt_or_eq_of_le
abbrev yJ:=@Rat.mul_le_mul_of_nonneg_left
abbrev yK:=@List.take_length
abbrev yL:=@List.getElem?_range
abbrev yM:=@List.mem_cons
abbrev yO:=@List.lookup_cons
abbrev yP:=@Rat.le_trans
abbrev yQ:=@Nat.le_of_lt_succ
abbrev yR:=@List.mem_append
abbrev yS:=@Rat.intCast_add
abbrev yT:=@PySem.F.plainAttrs_list
abbrev yU:=@List.mem_range
abbrev yV:=@PySem.W.mg_none_of
abbrev yW:=@List.getElem?_append_left
abbrev yX:=@List.mem_cons_of_mem
abbrev yY:=@PySem.F.slot_list_append
abbrev yZ:=@PySem.F.type_list_append
abbrev y8:=@List.length_singleton
abbrev y9:=@List.getElem_of_mem
abbrev yaa:=@Nat.lt_irrefl
abbrev yab:=@Nat.lt_of_le_of_lt
abbrev yac:=@Int.natAbs_natCast
abbrev yad:=@Int.mul_ediv_cancel_left
abbrev yae:=@List.getElem?_eq_none
abbrev yaf:=@List.eq_nil_of_length_eq_zero
abbrev yag:=@Classical.byContradiction
abbrev yah:=@Bool.and_eq_true
abbrev yai:=@List.map_cons
abbrev yaj:=@List.mem_cons_self
abbrev yak:=@PySem.W.kia_one
abbrev yal:=@Int.mul_nonpos_of_nonneg_of_nonpos
abbrev yam:=@Classical.em
abbrev yan:=@List.length_set
abbrev yao:=@PyProof.Rows.callWith_type1
abbrev yap:=@PySem.F.plain_min_loop
abbrev yaq:=@Int.ediv_mul_cancel
abbrev yar:=@Nat.mul_le_mul_left
abbrev yas:=@Int.ne_of_gt
abbrev yat:=@List.foldl_append
abbrev yau:=@List.append_nil
abbrev yav:=@List.replicate_succ
abbrev yaw:=@Classical.epsilon_spec
abbrev yax:=@List.getElem?_append_right
abbrev yay:=@Int.le_of_lt
abbrev yaz:=@List.mem_map
abbrev yaA:=@Rat.not_lt
abbrev yaB:=@Nat.not_lt_zero
abbrev yaC:=@List.getElem?_set
abbrev yaD:=@List.length_cons
abbrev yaE:=@List.nodup_nil
abbrev yaF:=@Int.mul_pos
abbrev yaG:=@Int.le_refl
abbrev yaH:=@Int.mul_comm
abbrev yaI:=@List.mem_filter
abbrev yaJ:=@Rat.intCast_neg
abbrev yaK:=@Int.mul_assoc
abbrev yaL:=@List.ext_getElem?
abbrev yaM:=@List.getElem?_eq_none_iff
abbrev yaN:=@List.getElem?_append
abbrev yaO:=@Nat.pow_le_pow_right
abbrev yaP:=@Nat.mul_le_mul
abbrev yaQ:=@Nat.le_of_lt
abbrev yaR:=@List.not_mem_nil
abbrev yaS:=@List.take_succ_eq_append_getElem
abbrev yaT:=@PySem.mem_of_lookup
abbrev yaU:=@List.nodup_cons
abbrev yaV:=@Int.emod_lt_of_pos
abbrev yaW:=@Int.lt_of_le_of_lt
abbrev yaX:=@Nat.eq_zero_or_pos
abbrev yaY:=@Int.mul_le_mul_of_nonneg_right
abbrev yaZ:=@List.getElem?_set_self
abbrev ya0:=@Nat.pow_add
abbrev ya1:=@List.flatten_cons
abbrev ya2:=@Int.mul_left_comm
abbrev ya3:=@List.nodup_append
abbrev ya4:=@Rat.divInt_eq_div
abbrev ya5:=@Nat.le_succ_of_le
abbrev ya6:=@Int.lt_or_le
abbrev ya7:=@List.getElem?_concat_length
abbrev ya8:=@List.getElem?_set_ne
abbrev ya9:=@List.all_eq_true
abbrev yba:=@Nat.pow_lt_pow_right
abbrev ybb:=@Int.ediv_pos_of_pos_of_dvd
abbrev ybc:=@Ne.symm
abbrev ybd:=@Nat.two_pow_pos
abbrev ybe:=@Int.emod_nonneg
abbrev ybf:=@Rat.le_of_mul_le_mul_left
abbrev ybg:=@List.mem_or_eq_of_mem_set
abbrev ybh:=@Rat.num_divInt_den
abbrev ybi:=@Int.mul_nonneg
abbrev ybj:=@List.getElem?_replicate
abbrev ybk:=@List.filter_cons_of_pos
abbrev ybl:=@List.filter_cons_of_neg
abbrev ybm:=@Rat.mul_pos
abbrev ybn:=@PySem.F.entry_min_loop
abbrev ybo:=@Nat.lt_succ_self
abbrev ybp:=@List.length_filter_le
abbrev ybq:=@Bool.eq_iff_iff
abbrev ybr:=@Nat.pow_succ
abbrev ybs:=@List.Nodup.length_le_of_subset
abbrev ybt:=@List.filterMap_cons
abbrev ybu:=@Rat.divInt_mul_left
abbrev ybv:=@Int.natAbs_mul
abbrev ybw:=@Int.gcd_eq_natAbs_gcd_natAbs
abbrev ybx:=@Rat.div_def
abbrev yby:=@Bool.false_eq_true
abbrev ybz:=@Rat.neg_divInt_neg
abbrev ybA:=@List.filter_append
abbrev ybB:=@Rat.mul_lt_mul_of_pos_right
abbrev ybC:=@Nat.lt_or_gt_of_ne
abbrev ybD:=@Rat.div_mul_cancel
abbrev ybE:=@Rat.sub_eq_add_neg
abbrev ybF:=@List.all_cons
abbrev ybG:=@List.any_cons
abbrev ybH:=@List.append_assoc
abbrev ybI:=@Nat.le_of_succ_le
abbrev ybJ:=@Nat.lt_succ_of_lt
abbrev ybK:=@Bool.not_eq_true'
abbrev ybL:=@Nat.lt_trichotomy
abbrev ybM:=@List.length_take
abbrev ybN:=@List.map_set
abbrev ybO:=@List.nodup_range
abbrev ybP:=@List.getElem_mem
abbrev ybQ:=@Rat.mul_comm
abbrev ybR:=@List.of_mem_zip
abbrev ybS:=@Bool.or_eq_true
abbrev ybT:=@Rat.intCast_sub
namespace Internal
theorem aut0(h:True:=by first | exact .inl rfl | exact .inr rfl | assumption):True:=h
theorem aut1(h:True:=by decide):True:=h
theorem aut2(h:True:=by rfl):True:=h
theorem aut3(h:True:=by intro _;rfl):True:=h
theorem aut4(h:True:=by intros;rfl):True:=h
theorem aut5(h:True:=by with_unfolding_all rfl):True:=h
open PySem PySem.Spec PyProof.Rows
abbrev Key:=Sum Int Str
def zoC:Key->Value->Bool
 | .inl k,v=>Value.isInt k v
 | .inr x,v=>Value.isStrOf x v
def zr2(w:World):Key->Int
 | .inl k=>hashInt k
 | .inr x=>hashStr w x
theorem zbi:∀{k:Key} {v:Value},zoC k v=true->(∃i t,k=Sum.inl i/\v=Value.int i t)\/(∃x t,k=Sum.inr x/\v=Value.str x t)
 | .inl i,v,h=>by
  obtain⟨t,e⟩:=Value.isInt_shape (k:=i) (v:=v) h
  exact .inl ⟨i,t,rfl,e⟩
 | .inr x,v,h=>by
  obtain⟨t,e⟩:=Value.isStrOf_shape (x:=x) (v:=v) h
  exact .inr ⟨x,t,rfl,e⟩
theorem zp5(a b:Int):decide ((Sum.inl a:Key)=Sum.inl b)=(a == b):=by
 by_cases e:a=b
 ·subst e;simp
 ·have h:¬(Sum.inl a:Key)=Sum.inl b:=fun q=>e (Sum.inl.inj q)
  rw[decide_eq_false h]
  exact(beq_eq_false_iff_ne.mpr e).symm
theorem zqz(a b:Str):decide ((Sum.inr a:Key)=Sum.inr b)=decide (a=b):=by
 by_cases e:a=b
 ·subst e;simp
 ·have h:¬(Sum.inr a:Key)=Sum.inr b:=fun q=>e (Sum.inr.inj q)
  rw[decide_eq_false h,decide_eq_false e]
theorem zqO(a:Int)(b:Str):decide ((Sum.inl a:Key)=Sum.inr b)=false:=decide_eq_false (fun q=>nomatch q)
theorem zqj(a:Str)(b:Int):decide ((Sum.inr a:Key)=Sum.inl b)=false:=decide_eq_false (fun q=>nomatch q)
def zg4(prog:Program)(w:World):PySem.KeyKind prog w Key where
 is:=zoC
 hash:=zr2 w
 inj:=fun v a b ha hb=>by
  rcases zbi ha with⟨i,t,rfl,rfl⟩ | ⟨x,t,rfl,rfl⟩
  ·rcases zbi hb with⟨j,u,rfl,e⟩ | ⟨y,u,rfl,e⟩
   ·injection e with e1 _;rw[e1]
   ·exact nomatch e
  ·rcases zbi hb with⟨j,u,rfl,e⟩ | ⟨y,u,rfl,e⟩
   ·exact nomatch e
   ·injection e with e1 _;rw[e1]
 byValue:=fun k v h=>by
  rcases zbi h with⟨i,t,rfl,rfl⟩ | ⟨x,t,rfl,rfl⟩<;>rfl
 pyHash:=fun hv h=>by
  rcases zbi hv with⟨i,t,rfl,rfl⟩ | ⟨x,t,rfl,rfl⟩
  ·exact wpAny_pyHash_int h
  ·exact wpAny_pyHash_str h
 eqBool:=fun hu hv h=>by
  rcases zbi hu with⟨i,t,rfl,rfl⟩ | ⟨x,t,rfl,rfl⟩
  ·rcases zbi hv with⟨j,u,rfl,rfl⟩ | ⟨y,u,rfl,rfl⟩
   ·rw[zp5]at h;exact wpAny_eqBool_int h
   ·rw[zqO]at h;exact SeqAt.EqAt.int_str i t y u _ _ _ _ h
  ·rcases zbi hv with⟨j,u,rfl,rfl⟩ | ⟨y,u,rfl,rfl⟩
   ·rw[zqj]at h;exact SeqAt.EqAt.str_int x t j u _ _ _ _ h
   ·rw[zqz]at h;exact wpAny_eqBool_str h
 «strs»:=fun k x t v h=>by
  rcases zbi h with⟨i,u,rfl,e⟩ | ⟨y,u,rfl,e⟩
  ·exact nomatch e
  ·injection e with e1 _
   subst e1
   cases v<;>rfl
inductive V where
 | non | bl (b:Bool) | int (i:Int) | str (x:Str) | byt (b:Array UInt8) | flt (b:UInt64) | ref (a:Addr) | ty (n:String)
 deriving DecidableEq
def RelV:V->Value->Prop
 | .non,u=>u=Value.none
 | .bl b,u=>u=Value.bool b
 | .int i,u=>∃t,u=Value.int i t
 | .str x,u=>∃t,u=Value.str x t
 | .byt b,u=>∃t,u=Value.bytes b t
 | .flt b,u=>∃t,u=Value.float b t
 | .ref a,u=>u=Value.ref a
 | .ty n,u=>u=Value.type n
abbrev Vals:List V->List Value->Prop:=Paired RelV
theorem Vals.length{xs:List V}{us:List Value}(r:Vals xs us):xs.length=us.length:=Paired.length r
theorem Vals.get:∀{xs:List V} {us:List Value} {i:Nat} {x:V},Vals xs us->xs[i]?=some x->∃u,us[i]?=some u/\RelV x u
 | _,_,_,_,.nil,e=>by simp at e
 | _,_,0,_,.cons r _,e=>by simp at e;subst e;exact⟨_,rfl,r⟩
 | _,_,i+1,x,.cons _ t,e=>by
  obtain⟨u,h1,h2⟩:=Vals.get (i:=i) (x:=x) t (by simpa using e)
  exact⟨u,by simpa using h1,h2⟩
theorem Vals.set{x:V}{u:Value}(r:RelV x u):∀{xs:List V} {us:List Value} (i:Nat),Vals xs us->Vals (xs.set i x) (us.set i u)
 | _,_,_,.nil=>.nil
 | _,_,0,.cons _ t=>.cons r t
 | _,_,i+1,.cons q t=>.cons q (Vals.set r i t)
theorem Vals.append:∀{xs ys:List V} {us ws:List Value},Vals xs us->Vals ys ws->Vals (xs++ys) (us++ws)
 | _,_,_,_,.nil,s=>s
 | _,_,_,_,.cons r t,s=>.cons r (Vals.append t s)
theorem Vals.take:∀{xs:List V} {us:List Value} (n:Nat),Vals xs us->Vals (xs.take n) (us.take n)
 | _,_,0,_=>.nil
 | _,_,_+1,.nil=>.nil
 | _,_,n+1,.cons r t=>.cons r (Vals.take n t)
theorem Vals.drop:∀{xs:List V} {us:List Value} (n:Nat),Vals xs us->Vals (xs.drop n) (us.drop n)
 | _,_,0,r=>r
 | _,_,_+1,.nil=>.nil
 | _,_,n+1,.cons _ t=>Vals.drop n t
def zop:Option V->Option Value->Prop
 | some v,some u=>RelV v u
 | none,none=>True
 | _,_=>False
def KV{κ:Type}:List (κ × V)->List (κ × Value)->Prop:=Paired fun(p:κ × V) (q:κ × Value)=>p.1=q.1/\RelV p.2 q.2
def kV:Key->V
 | .inl i=>.int i
 | .inr x=>.str x
inductive HO where
 /-- a list -/
 | lst (xs:List V)
 /-- a tuple (never changes) -/
 | tup (xs:List V)
 /-- a dict whose keys are ints and texts;one whose keys are tuples of ints and texts (the empty one is both) -/
 | dK (kvs:List (Key × V)) | dT (kvs:List (List Key × V))
 /-- a set of ints: its members,its size -/
 | set (S:Int->Bool) (n:Nat)
 /-- an instance of the class at C,its dict at dx,its attributes -/
 | ins (C dx:Addr) (fs:List (Str × V))
 /-- the dict of the instance at x -/
 | own (x:Addr)
 /-- the dict of an exception -/
 | xd (fs:List (Str × V))
 /-- a bound method,f of x -/
 | met (f x:Addr)
 /-- a range object lo,lo+1,.. below hi -/
 | rng (lo hi:Int)
 /-- a thing that is known to the object (the script;a dict while a loop walks it): read,never written while it is so -/
 | frz (o:Obj) (u:HO)
 /-- a code object's table -/
 | tbl (ps:Array Value)
 /-- any other thing,by what is true of its one object (a def of one's own: SetO a S n:=HO.ext fun h=>..) -/
 | ext (φ:Heap->Prop)
abbrev Hp:=Addr->Option HO
def upd(H:Hp)(a:Addr)(o:HO):Hp:=fun b=>if b=a then some o else H b
theorem zaL{H:Hp}{a:Addr}{o:HO}:upd H a o a=some o:=by unfold upd;rw[if_pos rfl]
theorem zaA{H:Hp}{a b:Addr}{o:HO}(h:b≠a):upd H a o b=H b:=by unfold upd;rw[if_neg h]
theorem zry{H:Hp}{a b:Addr}{o u:HO}(h:H a=some o)(h':H b=some u)(d:o≠u):a≠b:=by
 intro e;subst e;rw[h]at h';exact d (yn h')
theorem zaJ{H:Hp}{a b:Addr}{o:HO}(h:H a=some o)(h':H b=none):a≠b:=by
 intro e;subst e;rw[h]at h';cases h'
section
variable (P:Program)(w:World)
def ObjOk(H:Hp)(h:Heap)(a:Addr):HO->Prop
 | .lst xs=>xs.length<=sizeLine/\∃(its:List Value) (n:Nat),Vals xs its/\h.get? a=some { cls:=.type "list",data:=.seq its.toArray n }
 | .tup xs=>xs.length<=sizeLine/\∃its:List Value,Vals xs its/\IsTup h a its.toArray
 | .dK kvs=>kvs.length<=sizeLine/\(a == sysModules)=false/\∃vs,KV kvs vs/\h.DictOf (zg4 P w) a vs
 | .dT kvs=>kvs.length<=sizeLine/\(a == sysModules)=false/\∃xs:List (List Key × Addr × Value),
   Paired (fun(p:List Key × V) (q:List Key × Addr × Value)=>p.1=q.1/\H q.2.1=some (.tup (p.1.map kV))/\RelV p.2 q.2.2) kvs xs /\
   ∃o es ep,h.get? a=some o/\o.ExactDict/\o.data=.dict es ep/\es.toList=xs.map (entryOfKey (tupleKind (zg4 P w)))/\(xs.map (·.1)).Nodup
 | .set S n=>h.SetOf (intKind P w) a S n
 | .ins C dx fs=>H dx=some (.own a)/\fs.length<=1000/\dx≠a/\h.get? a=some (PySem.W.instObj C dx) /\
   ∃mA,h.Ns1 dx mA/\(∀f,zop (fs.lookup f) (mA f))/\PySem.Within mA (fs.map (·.1))
 | .own _=>∃o,h.get? a=some o
 | .xd fs=>∃mA,h.Ns1 a mA/\∀f,zop (fs.lookup f) (mA f)
 | .rng lo hi=>∃t u v,h.get? a=some { cls:=.type "range",data:=.fields #[.int lo t,.int hi u,.int 1 v] }
 | .frz o u=>h.get? a=some o/\ObjOk H h a u
 | .tbl ps=>h.get? a=some { cls:=.none,data:=.fields ps }
 | .met f x=>h.get? a=some (PySem.W.methodObj (.ref f) (.ref x))
 | .ext φ=>φ h/\(∃o,h.get? a=some o)/\∀h1 h2:Heap,φ h1->(∀o,h1.get? a=some o->h2.get? a=some o)->φ h2
def HOk(H:Hp)(h:Heap):Prop:=∀a o,H a=some o->ObjOk P w H h a o
end
section
variable {P:Program}{w:World}{H H':Hp}{h h':Heap}{a:Addr}{o:HO}
theorem ObjOk.lt(x:ObjOk P w H h a o):a<h.objs.size:=by
 cases o with
 | lst xs=>obtain⟨_,_,_,_,e⟩:=x;exact Heap.lt_size e
 | tup xs=>obtain⟨_,_,_,p⟩:=x;exact p.lt
 | dK kvs=>obtain⟨_,_,_,_,o,_,_,e,_⟩:=x;exact Heap.lt_size e
 | dT kvs=>obtain⟨_,_,_,_,o,_,_,e,_⟩:=x;exact Heap.lt_size e
 | set S n=>obtain⟨o,_,_,_,e,_⟩:=x;exact Heap.lt_size e
 | ins C dx fs=>obtain⟨_,_,_,e,_⟩:=x;exact Heap.lt_size e
 | own y=>obtain⟨_,e⟩:=x;exact Heap.lt_size e
 | xd fs=>obtain⟨_,⟨_,_,_,e,_⟩,_⟩:=x;exact Heap.lt_size e
 | rng lo hi=>obtain⟨_,_,_,e⟩:=x;exact Heap.lt_size e
 | frz ob u=>obtain⟨e,_⟩:=x;exact Heap.lt_size e
 | tbl ps=>exact Heap.lt_size (show h.get? a=some _ from x)
 | met f y=>exact Heap.lt_size (show h.get? a=some _ from x)
 | ext φ=>obtain⟨_,⟨_,e⟩,_⟩:=x;exact Heap.lt_size e
theorem Paired.mapP{α β:Type}{F G:α->β->Prop}:∀{l₁:List α} {l₂:List β},Paired F l₁ l₂->(∀a b,F a b->G a b)->Paired G l₁ l₂
 | _,_,.nil,_=>.nil
 | _,_,.cons r t,f=>.cons (f _ _ r) (Paired.mapP t f)
theorem ObjOk.stay(x:ObjOk P w H h a o)(k:∀b u,(b=a\/H b=some (.own a))->h.get? b=some u->h'.get? b=some u)
  (ho:∀b,H b=some (.own a)->H' b=some (.own a)) (ht:∀b xs,H b=some (.tup xs)->H' b=some (.tup xs)):ObjOk P w H' h' a o:=by
 induction o with
 | lst xs=>obtain⟨z,its,n,r,e⟩:=x;exact⟨z,its,n,r,k _ _ (.inl rfl) e⟩
 | tup xs=>obtain⟨z,its,r,ob,e,c⟩:=x;exact⟨z,its,r,ob,k _ _ (.inl rfl) e,c⟩
 | dK kvs=>obtain⟨z,y,vs,r,ob,es,ep,e,c⟩:=x;exact⟨z,y,vs,r,ob,es,ep,k _ _ (.inl rfl) e,c⟩
 | dT kvs=>
  obtain⟨z,y,xs,r,ob,es,ep,e,c⟩:=x
  exact⟨z,y,xs,Paired.mapP r fun p q z=>⟨z.1,ht _ _ z.2.1,z.2.2⟩,ob,es,ep,k _ _ (.inl rfl) e,c⟩
 | set S n=>obtain⟨ob,es,ep,t,e,c⟩:=x;exact⟨ob,es,ep,t,k _ _ (.inl rfl) e,c⟩
 | ins C dx fs=>
  obtain⟨d,z,ne,e,mA,⟨od,es,ep,e2,c⟩,r⟩:=x
  exact⟨ho _ d,z,ne,k _ _ (.inl rfl) e,mA,⟨od,es,ep,k _ _ (.inr d) e2,c⟩,r⟩
 | own y=>obtain⟨ob,e⟩:=x;exact⟨ob,k _ _ (.inl rfl) e⟩
 | xd fs=>obtain⟨mA,⟨od,es,ep,e,c⟩,r⟩:=x;exact⟨mA,⟨od,es,ep,k _ _ (.inl rfl) e,c⟩,r⟩
 | rng lo hi=>obtain⟨t,u,v,e⟩:=x;exact⟨t,u,v,k _ _ (.inl rfl) e⟩
 | frz ob u ih=>obtain⟨e,q⟩:=x;exact⟨k _ _ (.inl rfl) e,ih q⟩
 | tbl ps=>
  have e:h.get? a=some { cls:=.none,data:=.fields ps }:=x
  show h'.get? a=some { cls:=.none,data:=.fields ps }
  exact k a _ (.inl rfl) e
 | met f y=>
  have e:h.get? a=some (PySem.W.methodObj (.ref f) (.ref y)):=x
  show h'.get? a=some (PySem.W.methodObj (.ref f) (.ref y))
  exact k a _ (.inl rfl) e
 | ext φ=>obtain⟨p,⟨o,e⟩,st⟩:=x;exact⟨st _ _ p fun o q=>k _ _ (.inl rfl) q,⟨o,k _ _ (.inl rfl) e⟩,st⟩
theorem HOk.lt(x:HOk P w H h)(e:H a=some o):a<h.objs.size:=(x a o e).lt
theorem HOk.fresh(x:HOk P w H h)(e:h.objs.size<=a):H a=none:=by
 cases q:H a with
 | none=>rfl
 | some u=>exact absurd (yz (x.lt q) e) (yaa _)
theorem HOk.kept(x:HOk P w H h)(k:∀b u,h.get? b=some u->h'.get? b=some u):HOk P w H h':=fun a o e=>
 (x a o e).stay (fun b u _ q=>k b u q) (fun _ q=>q) fun _ _ q=>q
theorem HOk.laid(x:HOk P w H h)(k:∀b u,h.get? b=some u->h'.get? b=some u)(hp:h.objs.size<=a)(new:ObjOk P w (upd H a o) h' a o):HOk P w (upd H a o) h':=fun b u e=>by
 have hn:=x.fresh hp
 by_cases hb:b=a
 ·subst hb;rw[zaL]at e;cases e;exact new
 ·rw[zaA hb]at e
  exact(x b u e).stay (fun c v _ q=>k c v q) (fun c q=>by rw[zaA (zaJ q hn)];exact q) fun c xs q=>by rw[zaA (zaJ q hn)];exact q
end
def Rd(H:Hp)(a:Addr)(u:HO):Prop:=H a=some u\/∃o,H a=some (.frz o u)
theorem Rd.ok{P:Program}{w:World}{H:Hp}{h:Heap}{a:Addr}{u:HO}(r:Rd H a u)(x:HOk P w H h):ObjOk P w H h a u:=by
 rcases r with r | ⟨o,r⟩
 ·exact x a u r
 ·obtain⟨_,q⟩:=x a _ r
  exact q
def Mut:Option HO->Prop
 | some (.lst _)=>True
 | some (.dK _)=>True
 | some (.dT _)=>True
 | some (.set _ _)=>True
 | some (.ins _ _ _)=>True
 | some (.ext _)=>True
 | _=>False
section
variable {P:Program}{w:World}{H:Hp}{h h':Heap}{x e:Addr}{o':HO}
theorem HOk.write(ok:HOk P w H h)(mu:Mut (H x))(he:e=x\/H e=some (.own x))(k:∀b u,b≠e->h.get? b=some u->h'.get? b=some u)(heo:∃u,h'.get? e=some u)
  (new:ObjOk P w (upd H x o') h' x o'):HOk P w (upd H x o') h':=fun b u q=>by
 have nown:∀c y,H c=some (.own y)->c≠x:=fun c y r z=>by subst z;rw[r]at mu;exact mu
 have ntup:∀c xs,H c=some (.tup xs)->c≠x:=fun c xs r z=>by subst z;rw[r]at mu;exact mu
 by_cases hb:b=x
 ·subst hb;rw[zaL]at q;cases q;exact new
 ·rw[zaA hb]at q
  by_cases hbe:b=e
  ·have q':H b=some (.own x):=by
    rcases he with z | z
    ·exact absurd (hbe.trans z) hb
    ·rw[hbe];exact z
   rw[q]at q';cases q'
   obtain⟨v,hv⟩:=heo
   exact⟨v,by rw[hbe];exact hv⟩
  ·refine(ok b u q).stay (fun c v hc r=>k c v ?_ r) (fun c r=>by rw[zaA (nown c b r)];exact r) fun c xs r=>by rw[zaA (ntup c xs r)];exact r
   rcases hc with rfl | hc
   ·exact hbe
   ·rintro rfl
    rcases he with z | z
    ·exact nown c b hc z
    ·rw[hc]at z;cases z;exact hb rfl
end
set_option genInjectivity false in
set_option genSizeOf false in
structure Un(fs ex:List Addr)(H H':Hp)(h h':Heap):Prop where
 keep:∀b o,h.get? b=some o->H b=none->b∉fs->b∉ex->h'.get? b=some o
 slot:∀b o,h.get? b=some o->H b=none->b∈fs->b∉ex->∃sl,h'.get? b=some { o with slots:=sl }
 free:∀b o,h.get? b=some o->H b=none->b∉ex->H' b=none
 there:∀b o,h.get? b=some o->b∉ex->∃o',h'.get? b=some o'
 tups:∀b xs,H b=some (.tup xs)->H' b=some (.tup xs)
 frzs:∀b o u,H b=some (.frz o u)->H' b=some (.frz o u)
 tbls:∀b ps,H b=some (.tbl ps)->∃more,H' b=some (.tbl (ps++more))
section
variable {fs fs' ex ex':List Addr}{H H1 H2:Hp}{h h1 h2 h':Heap}{a x e:Addr}{o:HO}
theorem Un.any(u:Un fs ex H H1 h h1){b:Addr}{ob:Obj}(q:h.get? b=some ob)(n:H b=none)(hx:b∉ex):∃sl,h1.get? b=some { ob with slots:=sl }:=by
 by_cases hb:b∈fs
 ·exact u.slot b ob q n hb hx
 ·exact⟨ob.slots,u.keep b ob q n hb hx⟩
theorem Un.kept(k:∀b u,h.get? b=some u->h'.get? b=some u):Un fs ex H H h h':=
 ⟨fun b ob q _ _ _=>k b ob q,fun b ob q _ _ _=>⟨ob.slots,k b ob q⟩,fun _ _ _ n _=>n,fun b ob q _=>⟨ob,k b ob q⟩,fun _ _ q=>q,fun _ _ _ q=>q,fun _ ps q=>⟨#[],by rw[q];simp⟩⟩
theorem Un.refl:Un fs ex H H h h:=Un.kept fun _ _ q=>q
theorem Un.laid(k:∀b u,h.get? b=some u->h'.get? b=some u)(hp:h.objs.size<=a)(hn:H a=none):Un fs ex H (upd H a o) h h' where
 keep:=fun b u q _ _ _=>k b u q
 slot:=fun b u q _ _ _=>⟨u.slots,k b u q⟩
 free:=fun b u q n _=>by rw[zaA (yy (yz (Heap.lt_size q) hp))];exact n
 there:=fun b u q _=>⟨u,k b u q⟩
 tups:=fun b xs q=>by rw[zaA (zaJ q hn)];exact q
 frzs:=fun b u xs q=>by rw[zaA (zaJ q hn)];exact q
 tbls:=fun b ps q=>⟨#[],by rw[zaA (zaJ q hn),q];simp⟩
theorem Un.write(mu:Mut (H x))(he:e=x\/H e=some (.own x))(k:∀b u,b≠e->h.get? b=some u->h'.get? b=some u)(heo:∃u,h'.get? e=some u):Un fs ex H (upd H x o) h h':=by
 have hx:∀b,H b=none->b≠x:=fun b n z=>by subst z;rw[n]at mu;exact mu
 have hb:∀b,H b=none->b≠e:=fun b n z=>by
  subst z
  rcases he with r | r
  ·exact hx b n r
  ·rw[n]at r;cases r
 have hm:∀b u,H b=some u->¬Mut (some u)->b≠x:=fun b u q nm z=>by subst z;rw[q]at mu;exact nm mu
 refine⟨fun b u q n _ _=>k b u (hb b n) q,fun b u q n _ _=>⟨u.slots,k b u (hb b n) q⟩,fun b u q n _=>by rw[zaA (hx b n)];exact n,fun b u q _=>?_,
  fun b xs q=>by rw[zaA (hm b _ q fun z=>z)];exact q,fun b u xs q=>by rw[zaA (hm b _ q fun z=>z)];exact q,fun b ps q=>⟨#[],by rw[zaA (hm b _ q fun z=>z),q];simp⟩⟩
 by_cases hbe:b=e
 ·subst hbe;exact heo
 ·exact⟨u,k b u hbe q⟩
end
def trk(h:Heap)(H:Hp):List Addr:=(List.range h.objs.size).filter fun a=>(H a).isSome
def zeM(h:Heap)(H:Hp):Heap:=PySem.W.hideAll h (trk h H)
theorem zmh(h:Heap)(H:Hp):(zeM h H).objs.size=h.objs.size:=PySem.W.hideAll_size _ _
theorem zoo{h:Heap}{H:Hp}{b:Addr}{o:Obj}(e:h.get? b=some o)(n:H b=none):(zeM h H).get? b=some o:=
 PySem.W.hideAll_get _ e fun hm=>by
  have q:(H b).isSome=true:=(yaI.mp hm).2
  rw[n]at q;simp at q
theorem zpB{h:Heap}{H:Hp}{b:Addr}{o:Obj}(e:(zeM h H).get? b=some o):h.get? b=some o/\H b=none:=by
 have e':h.get? b=some o:=PySem.W.of_hideAll (trk h H) e
 refine⟨e',?_⟩
 cases q:H b with
 | none=>rfl
 | some x=>
  have hm:b∈trk h H:=yaI.mpr ⟨yU.mpr (Heap.lt_size e'),by simp[q]⟩
  have z:(zeM h H).get? b=none:=PySem.W.hideAll_none (trk h H) hm
  rw[z]at e;cases e
def zo2(g h:Heap)(L:Addr):List (Addr × Obj):=(List.range h.objs.size).filterMap fun a=>if a=L\/(g.get? a).isSome=true then none else(h.get? a).map fun o=>(a,o)
def rest(g h:Heap)(L d:Addr):List (Addr × Obj):=(zo2 g h L).filter fun p=>decide (p.1≠d)
set_option genInjectivity false in
set_option genSizeOf false in
structure Mod(K:Fg)(mg:Str->Option Value)(base:Heap):Prop where
 kin:K.In base
 glob:base.Ns mainGlobals mg
 blt:∃mb,base.Ns builtinsNs mb/\∀x:Str,x ≠ "__name__" -> mb x=bootBuiltins x
 nolimit:base.NoLimit
set_option genSizeOf false in
structure Cx where
 prog:Program
 w:World
 K:Fg
 mg:Str->Option Value
 base:Heap
 A:Around
 N:List Str
 s₀:Shared
 H₀:Hp
 env:Env
 outer:List Env
 stack:List Env
 ex:List Addr
 fn:Str->Bool
 calm:Bool
 pn:List (Addr × Obj)
 xe:Value->Shared->Prop
def frs(l:List Env):List Addr:=l.filterMap (·.frame)
abbrev Cx.fs(X:Cx):List Addr:=frs X.outer
def Vis(sc:Scope)(x:Str):Prop:=sc.names.lookup x=some .local\/sc.names.lookup x=some .cell\/sc.names.lookup x=some .free
def Loc(sc:Scope)(x:Str):Prop:=sc.names.lookup x=some .local\/sc.names.lookup x=some .cell
def zrS(env:Env)(h:Heap)(m:Str->Option Value)(x:Str)(u:Value):Prop:=
 (env.kindOf x=some .local/\m x=some u)\/((env.kindOf x=some .cell\/env.kindOf x=some .free)/\∃c,env.cells.lookup x=some c/\h.IsCell c (some u))
set_option genSizeOf false in
structure Cx.Ok(X:Cx):Prop where
 mod:Mod X.K X.mg X.base
 kind:X.env.scope.kind=.function
 glob:X.env.globals=mainGlobals
 blt:X.env.builtins=builtinsNs
 above:X.s₀.heap.objs.size<=X.env.locals
 inj:∀x y c,X.env.cells.lookup x=some c->X.env.cells.lookup y=some c->x=y
 has:∀x,(X.env.kindOf x=some .cell\/X.env.kindOf x=some .free)->∃c,X.env.cells.lookup x=some c
 cab:∀x c,X.fn x=true->X.env.cells.lookup x=some c->X.s₀.heap.objs.size<=c
 hd:X.calm=true->X.A.handled=none
 frames:X.A.frames=some X.stack
 stk:X.stack=X.outer\/(X.stack=X.env :: X.outer/\X.env.frame=some X.env.locals)
 exf:∀b∈X.ex,b≠X.env.locals/\∀x c,X.env.cells.lookup x=some c->c≠b
 bs:∀b o,X.base.get? b=some o->X.s₀.heap.get? b=some o/\X.H₀ b=none
 bsz:X.base.objs.size<=X.s₀.heap.objs.size
 noex:∀b o,X.base.get? b=some o->b∉X.ex
 exfs:∀b∈X.ex,b∉X.fs
 funs:X.s₀.heap.FunFrames X.base X.outer
 frf:∀b∈X.fs,X.H₀ b=none
set_option genInjectivity false in
set_option genSizeOf false in
structure Inv(X:Cx)(pins:List (Addr × Obj))(σ:List (Option V))(H:Hp)(s:Shared):Prop where
 ok:X.Ok
 os:s.os=X.s₀.os
 bare:AllBare s.gens
 base:Un X.fs X.ex X.H₀ H X.s₀.heap s.heap
 loc:∃m,s.heap.Ns X.env.locals m/\∀(i:Nat) (x:Str) (v:V),X.N[i]?=some x->σ[i]?=some (some v)->Vis X.env.scope x->∃u,RelV v u/\zrS X.env s.heap m x u
 cell:∀x c,X.env.cells.lookup x=some c->∃v,s.heap.IsCell c v
 free:H X.env.locals=none
 freeC:∀x c,X.env.cells.lookup x=some c->H c=none
 pin:∀p∈X.pn++pins,s.heap.get? p.1=some p.2/\H p.1=none/\p.1≠X.env.locals/\p.1∉X.fs/\∀v,p.2.data≠.cell v
 hok:HOk X.prog X.w H s.heap
 len:σ.length=X.N.length
section
variable {X:Cx}{pins:List (Addr × Obj)}{σ:List (Option V)}{H H':Hp}{s:Shared}{h':Heap}
theorem Cx.Ok.nofr(ok:X.Ok){b:Addr}{o:Obj}(e:X.base.get? b=some o):b∉X.fs:=fun hb=>by
 have:=(ok.funs.mem hb).1
 rw[e]at this;cases this
theorem Inv.bs(I:Inv X pins σ H s):∀b o,X.base.get? b=some o->s.heap.get? b=some o/\H b=none:=fun b o e=>
 ⟨I.base.keep b o (I.ok.bs b o e).1 (I.ok.bs b o e).2 (I.ok.nofr e) (I.ok.noex b o e),I.base.free b o (I.ok.bs b o e).1 (I.ok.bs b o e).2 (I.ok.noex b o e)⟩
theorem Inv.bk(I:Inv X pins σ H s):∀b o,X.base.get? b=some o->s.heap.get? b=some o:=fun b o e=>(I.bs b o e).1
theorem Inv.mod(I:Inv X pins σ H s):Mod X.K X.mg X.base:=I.ok.mod
theorem Inv.kIn(I:Inv X pins σ H s):X.K.In s.heap:=I.ok.mod.kin.keeps I.bk
theorem Inv.lt(I:Inv X pins σ H s):X.env.locals<s.heap.objs.size:=let ⟨_,hn,_⟩:=I.loc;hn.lt
theorem Inv.sz(I:Inv X pins σ H s):X.s₀.heap.objs.size<=s.heap.objs.size:=yc I.ok.above (yaQ I.lt)
theorem Inv.nofs(I:Inv X pins σ H s){a:Addr}(h:s.heap.objs.size<=a):a∉X.fs:=fun hb=>by
 obtain⟨_,o,ho,_⟩:=I.ok.funs.mem hb
 exact absurd (yz (Heap.lt_size ho) (yc I.sz h)) (yaa _)
theorem Inv.cne(I:Inv X pins σ H s):∀x c,X.env.cells.lookup x=some c->c≠X.env.locals:=fun x c e z=>by
 obtain⟨v,o,ho,hd⟩:=I.cell x c e
 obtain⟨m,⟨o',es,ep,ho',hd',_⟩,_⟩:=I.loc
 rw[z,ho']at ho;cases ho;rw[hd']at hd;cases hd
theorem Inv.funs(I:Inv X pins σ H s):s.heap.FunFrames X.base X.outer:=by
 have all:∀(l:List Env),(∀b∈frs l,b∈X.fs)->X.s₀.heap.FunFrames X.base l->s.heap.FunFrames X.base l:=by
  intro l
  induction l with
  | nil=>intro _ _;trivial
  | cons env r ih=>
   intro hs hl
   obtain⟨hk,⟨L,o,hf,hn,ho,hd⟩,hr⟩:=hl
   have hL:L∈X.fs:=hs L (by unfold frs;rw[ybt,hf];exact yaj)
   obtain⟨sl,e⟩:=I.base.slot L o ho (I.ok.frf L hL) hL fun z=>I.ok.exfs L z hL
   exact⟨hk,⟨L,_,hf,hn,e,hd⟩,ih (fun b hb=>hs b (by unfold frs;rw[ybt,hf];exact yX _ hb)) hr⟩
 exact all X.outer (fun _ hb=>hb) I.ok.funs
theorem Inv.stack(I:Inv X pins σ H s):s.heap.FunFrames X.base X.stack:=by
 rcases I.ok.stk with e | ⟨e,hf⟩
 ·rw[e];exact I.funs
 ·rw[e]
  obtain⟨m,hn,_⟩:=I.loc
  refine .cons (by rw[I.ok.kind];decide) hf hn ?_ I.funs
  exact Heap.get?_none_of_le (yc I.ok.bsz I.ok.above)
theorem Inv.stkSub(I:Inv X pins σ H s):∀b∈frs X.stack,b∈X.env.locals :: X.fs:=fun b hb=>by
 rcases I.ok.stk with e | ⟨e,hf⟩
 ·rw[e]at hb;exact yX _ hb
 ·rw[e]at hb
  unfold frs at hb
  rw[ybt,hf]at hb
  exact hb
theorem Inv.stkFree(I:Inv X pins σ H s):∀b∈frs X.stack,H b=none:=fun b hb=>by
 rcases yM.mp (I.stkSub b hb)with e | hb
 ·rw[e];exact I.free
 ·obtain⟨_,o,ho,_⟩:=I.ok.funs.mem hb
  exact I.base.free b o ho (I.ok.frf b hb) fun z=>I.ok.exfs b z hb
theorem Inv.step{g':Array GenState}{t':Nat}{d':Drawn}{ch:List Addr}(I:Inv X pins σ H s)
  (hch:∀b∈ch,(b∈X.ex\/X.s₀.heap.objs.size<=b)/\b≠X.env.locals/\(∀x c,X.env.cells.lookup x=some c->c≠b)/\∀p∈X.pn++pins,p.1≠b)
  (keep:∀b o,b≠X.env.locals->b∉X.fs->b∉ch->s.heap.get? b=some o->H b=none->h'.get? b=some o)
  (slot:∀b o,b≠X.env.locals->b∈X.fs->b∉ch->s.heap.get? b=some o->H b=none->∃sl,h'.get? b=some { o with slots:=sl }) (free:∀b o,b∉ch->s.heap.get? b=some o->H b=none->H' b=none)
  (there:∀b o,b∉ch->s.heap.get? b=some o->∃o',h'.get? b=some o')
  (tups:∀b xs,H b=some (.tup xs)->H' b=some (.tup xs)) (frzs:∀b o u,H b=some (.frz o u)->H' b=some (.frz o u)) (tbls:∀b ps,H b=some (.tbl ps)->∃more,H' b=some (.tbl (ps++more)))
  (ns:∀m,s.heap.Ns X.env.locals m->h'.Ns X.env.locals m) (hok:HOk X.prog X.w H' h') (hg:AllBare g') :
  Inv X pins σ H' { s with heap:=h',gens:=g',drawn:=d',toks:=t' }:=by
 have neL:∀b o,X.s₀.heap.get? b=some o->b≠X.env.locals:=fun b o e=>yy (yz (Heap.lt_size e) I.ok.above)
 have neC:∀b o,X.s₀.heap.get? b=some o->b∉X.ex->b∉ch:=fun b o e hx hb=>by
  rcases(hch b hb).1 with z | z
  ·exact hx z
  ·exact absurd (yz (Heap.lt_size e) z) (yaa _)
 have cellK:∀x c,X.env.cells.lookup x=some c->∀v,s.heap.IsCell c v->h'.IsCell c v:=fun x c e v ⟨o,ho,hd⟩=>by
  have nch:c∉ch:=fun z=>(hch c z).2.2.1 x c e rfl
  by_cases hc:c∈X.fs
  ·obtain⟨sl,q⟩:=slot c o (I.cne x c e) hc nch ho (I.freeC x c e)
   exact⟨_,q,hd⟩
  ·exact⟨o,keep c o (I.cne x c e) hc nch ho (I.freeC x c e),hd⟩
 refine⟨I.ok,I.os,hg,⟨fun b o e n hb hx=>?_,fun b o e n hb hx=>?_,fun b o e n hx=>?_,fun b o e hx=>?_,fun b xs e=>tups b xs (I.base.tups b xs e),fun b o xs e=>frzs b o xs (I.base.frzs b o xs e),fun b ps e=>?_⟩,?_,fun x c e=>?_,?_,fun x c e=>?_,fun p hp=>?_,hok,I.len⟩
 ·exact keep b o (neL b o e) hb (neC b o e hx) (I.base.keep b o e n hb hx) (I.base.free b o e n hx)
 ·obtain⟨sl,e1⟩:=I.base.slot b o e n hb hx
  obtain⟨sl',e2⟩:=slot b _ (neL b o e) hb (neC b o e hx) e1 (I.base.free b o e n hx)
  exact⟨sl',e2⟩
 ·obtain⟨o',e1⟩:=I.base.there b o e hx
  exact free b o' (neC b o e hx) e1 (I.base.free b o e n hx)
 ·obtain⟨o',e1⟩:=I.base.there b o e hx
  exact there b o' (neC b o e hx) e1
 ·obtain⟨m1,e1⟩:=I.base.tbls b ps e
  obtain⟨m2,e2⟩:=tbls b _ e1
  exact⟨m1++m2,by rw[e2,Array.append_assoc]⟩
 ·obtain⟨m,hn,hl⟩:=I.loc
  refine⟨m,ns m hn,fun i x v e1 e2 e3=>?_⟩
  obtain⟨u,r,l⟩:=hl i x v e1 e2 e3
  refine⟨u,r,?_⟩
  rcases l with l | ⟨k,c,e,z⟩
  ·exact .inl l
  ·exact .inr ⟨k,c,e,cellK x c e _ z⟩
 ·obtain⟨v,z⟩:=I.cell x c e
  exact⟨v,cellK x c e v z⟩
 ·obtain⟨m,⟨o,_,_,ho,_⟩,_⟩:=I.loc
  exact free _ o (fun z=>(hch _ z).2.1 rfl) ho I.free
 ·obtain⟨v,o,ho,hd⟩:=I.cell x c e
  exact free c o (fun z=>(hch c z).2.2.1 x c e rfl) ho (I.freeC x c e)
 ·obtain⟨e,n,ne,nf,d⟩:=I.pin p hp
  have nch:p.1∉ch:=fun z=>(hch p.1 z).2.2.2 p hp rfl
  exact⟨keep p.1 p.2 ne nf nch e n,free p.1 p.2 nch e n,ne,nf,d⟩
theorem Inv.un{t':Nat}(I:Inv X pins σ H s)(u:Un X.fs [] H H' s.heap h')(hok:HOk X.prog X.w H' h'):Inv X pins σ H' { s with heap:=h',toks:=t' }:=by
 obtain⟨m,⟨o,es,ep,ho,r⟩,_⟩:=id I.loc
 obtain⟨sl,hL⟩:=u.any ho I.free (by simp)
 exact I.step (g':=s.gens) (d':=s.drawn) (ch:=[]) (fun _ z=>nomatch z) (fun b o _ hb _ e n=>u.keep b o e n hb (by simp)) (fun b o _ hb _ e n=>u.slot b o e n hb (by simp)) (fun b o _ e n=>u.free b o e n (by simp)) (fun b o _ e=>u.there b o e (by simp)) u.tups u.frzs u.tbls (fun m' hm=>by
  obtain⟨o',es',ep',ho',r'⟩:=hm
  rw[ho]at ho';cases ho'
  exact⟨_,es',ep',hL,r'⟩) hok I.bare
theorem Inv.call{g':Array GenState}{t':Nat}{d':Drawn}{ch:List Addr}(I:Inv X pins σ H s)(u:Un (frs X.stack) ch H H' s.heap h')(hok:HOk X.prog X.w H' h')(hg:AllBare g')
  (hch:∀b∈ch,(b∈X.ex\/X.s₀.heap.objs.size<=b)/\b≠X.env.locals/\(∀x c,X.env.cells.lookup x=some c->c≠b)/\∀p∈X.pn++pins,p.1≠b) :
  Inv X pins σ H' { s with heap:=h',gens:=g',drawn:=d',toks:=t' }:=by
 obtain⟨m,⟨o,es,ep,ho,r⟩,_⟩:=id I.loc
 obtain⟨sl,hL⟩:=u.any ho I.free fun z=>(hch _ z).2.1 rfl
 exact I.step (ch:=ch) hch (fun b o hL hb hc e n=>u.keep b o e n (fun z=>(yM.mp (I.stkSub b z)).elim hL hb) hc) (fun b o _ _ hc e n=>u.any e n hc) (fun b o hc e n=>u.free b o e n hc) (fun b o hc e=>u.there b o e hc) u.tups u.frzs u.tbls (fun m' hm=>by
  obtain⟨o',es',ep',ho',r'⟩:=hm
  rw[ho]at ho';cases ho'
  exact⟨_,es',ep',hL,r'⟩) hok hg
theorem Inv.turned{t':Nat}{it:Addr}(I:Inv X pins σ H s)(k:∀b o,b≠it->s.heap.get? b=some o->h'.get? b=some o)(hn:H it=none)(hL:it≠X.env.locals)
  (h1:it∈X.ex\/X.s₀.heap.objs.size<=it) (h2:∀x c,X.env.cells.lookup x=some c->c≠it) (h3:∀p∈X.pn++pins,p.1≠it):Inv X pins σ H { s with heap:=h',toks:=t' }:=by
 have nit:∀b u,H b=some u->b≠it:=fun b u e z=>by rw[z,hn]at e;cases e
 refine I.step (g':=s.gens) (d':=s.drawn) (ch:=[it]) (fun b hb=>?_) (fun b o _ _ hc e _=>k b o (fun z=>hc (by simp[z])) e) (fun b o _ _ hc e _=>⟨o.slots,k b o (fun z=>hc (by simp[z])) e⟩) (fun _ _ _ _ n=>n)
  (fun b o hc e=>⟨o,k b o (fun z=>hc (by simp[z])) e⟩) (fun _ _ e=>e) (fun _ _ _ e=>e) (fun b ps e=>⟨#[],by rw[e];simp⟩) (fun m hm=>?_) (fun b u e=>?_) I.bare
 ·have e:b=it:=by simpa using hb
  subst e
  exact⟨h1,hL,h2,h3⟩
 ·obtain⟨o,es,ep,ho,r⟩:=hm
  exact⟨o,es,ep,k _ o (ybc hL) ho,r⟩
 ·refine(I.hok b u e).stay (fun c v hc q=>k c v ?_ q) (fun _ q=>q) fun _ _ q=>q
  rcases hc with z | z
  ·rw[z];exact nit b u e
  ·exact nit c _ z
theorem Inv.tok(I:Inv X pins σ H s)(t:Nat):Inv X pins σ H { s with toks:=t }:=I.un (h':=s.heap) (t':=t) Un.refl I.hok
theorem Inv.kept{t':Nat}(I:Inv X pins σ H s)(k:∀b u,s.heap.get? b=some u->h'.get? b=some u):Inv X pins σ H { s with heap:=h',toks:=t' }:=I.un (Un.kept k) (I.hok.kept k)
theorem Inv.laid{a:Addr}{o:HO}{t':Nat}(I:Inv X pins σ H s)(k:∀b u,s.heap.get? b=some u->h'.get? b=some u)(hp:s.heap.objs.size<=a)(new:ObjOk X.prog X.w (upd H a o) h' a o) :
  Inv X pins σ (upd H a o) { s with heap:=h',toks:=t' }:=I.un (Un.laid k hp (I.hok.fresh hp)) (I.hok.laid k hp new)
theorem Inv.write{x e:Addr}{o:HO}{t':Nat}(I:Inv X pins σ H s)(mu:Mut (H x))(he:e=x\/H e=some (.own x))(k:∀b u,b≠e->s.heap.get? b=some u->h'.get? b=some u)(heo:∃u,h'.get? e=some u)
  (new:ObjOk X.prog X.w (upd H x o) h' x o):Inv X pins σ (upd H x o) { s with heap:=h',toks:=t' }:=I.un (Un.write mu he k heo) (I.hok.write mu he k heo new)
theorem Inv.pins_of{pins':List (Addr × Obj)}(I:Inv X pins σ H s)(h:∀p∈pins',s.heap.get? p.1=some p.2/\H p.1=none/\p.1≠X.env.locals/\p.1∉X.fs/\∀v,p.2.data≠.cell v):Inv X pins' σ H s:=
 ⟨I.ok,I.os,I.bare,I.base,I.loc,I.cell,I.free,I.freeC,fun p hp=>(yR.mp hp).elim (fun z=>I.pin p (yr _ z)) (h p),I.hok,I.len⟩
theorem ziS{N:List Str}(hN:N.Nodup){i j:Nat}{x:Str}(a:N[i]?=some x)(b:N[j]?=some x):i=j:=by
 obtain⟨h1,e1⟩:=yk.mp a
 obtain⟨h2,e2⟩:=yk.mp b
 exact(List.getElem_inj hN).mp (e1.trans e2.symm)
theorem zhI{M:Model}{A:Around}{E:Value->Shared->Prop}{i:Nat}{x:Str}{v:V}{u:Value}{Q:Unit->Shared->Prop}(I:Inv X pins σ H s)(hN:X.N.Nodup)(hi:X.N[i]?=some x)(hx:Loc X.env.scope x)(r:RelV v u)
  (h:∀s',Inv X pins (σ.set i (some v)) H s'->(∃a,Heap.SameBut a s.heap s'.heap/\(a=X.env.locals\/X.env.cells.lookup x=some a))->Q () s') (hf:autoParam (X.fn x=true\/X.env.scope.names.lookup x=some .local) Internal.aut0._auto_1):wpAny M A (storeName X.env x u) Q E s:=by
 obtain⟨m,hn,hl⟩:=id I.loc
 have hcls:(X.env.scope.kind == .class || (X.env.scope.kind == .module&&X.env.locals != X.env.globals))=false:=by rw[I.ok.kind];rfl
 have hiσ:i < σ.length:=by rw[I.len];exact(yk.mp hi).1
 have cne:=I.cne
 have tracked:∀{a:Addr} {h':Heap},(∃o,s.heap.get? a=some o/\H a=none)->Heap.SameBut a s.heap h'->HOk X.prog X.w H h':=fun {a h'} ha hs b ob e=>by
  obtain⟨_,_,hfree⟩:=ha
  refine(I.hok b ob e).stay (fun c w' hc q=>(hs.2 c ?_).trans q) (fun _ q=>q) fun _ _ q=>q
  rintro rfl
  rcases hc with rfl | hc
  ·rw[hfree]at e;cases e
  ·rw[hfree]at hc;cases hc
 rcases hx with hk | hk
 ·refine wpAny_storeName_local hk hn (fun h' hn' hs=>?_) hcls
  obtain⟨oL,_,_,hoL,_⟩:=id hn
  refine h _ ⟨I.ok,I.os,I.bare,⟨fun b o e n hb hx=>?_,fun b o e n hb hx=>?_,I.base.free,fun b o e hx=>?_,I.base.tups,I.base.frzs,I.base.tbls⟩,⟨_,hn',fun j y v' e1 e2 e3=>?_⟩,fun y c e=>?_,I.free,I.freeC,fun p hp=>?_,tracked ⟨oL,hoL,I.free⟩ hs,by simpa using I.len⟩ ⟨_,hs,.inl rfl⟩
  ·exact(hs.2 b (yy (yz (Heap.lt_size e) I.ok.above))).trans (I.base.keep b o e n hb hx)
  ·obtain⟨sl,e1⟩:=I.base.slot b o e n hb hx
   exact⟨sl,(hs.2 b (yy (yz (Heap.lt_size e) I.ok.above))).trans e1⟩
  ·obtain⟨o',e1⟩:=I.base.there b o e hx
   exact⟨o',(hs.2 b (yy (yz (Heap.lt_size e) I.ok.above))).trans e1⟩
  ·by_cases hj:j=i
   ·subst hj
    rw[hi]at e1;cases e1
    rw[yaZ hiσ]at e2
    cases e2
    exact⟨u,r,.inl ⟨hk,by simp⟩⟩
   ·rw[ya8 (ybc hj)]at e2
    obtain⟨u',r',q⟩:=hl j y v' e1 e2 e3
    refine⟨u',r',?_⟩
    rcases q with⟨k,e⟩ | ⟨k,c,e,z⟩
    ·refine .inl ⟨k,?_⟩
     have:y≠x:=fun e=>hj (ziS hN e1 (e▸hi))
     simp[this,e]
    ·exact .inr ⟨k,c,e,z.sameBut hs (cne y c e)⟩
  ·obtain⟨w',z⟩:=I.cell y c e
   exact⟨w',z.sameBut hs (cne y c e)⟩
  ·obtain⟨e,n,ne,nf,d⟩:=I.pin p hp
   exact⟨(hs.2 p.1 ne).trans e,n,ne,nf,d⟩
 ·have hfn:X.fn x=true:=by
   rcases hf with z | z
   ·exact z
   ·rw[z]at hk;cases hk
  obtain⟨c,hc⟩:=I.ok.has x (.inl hk)
  obtain⟨w',z⟩:=I.cell x c hc
  refine wpAny_storeName_cell I.ok.kind hk hc z (fun h' hc' hs=>?_)
  obtain⟨oc,hoc,hocd⟩:=id z
  refine h { s with heap:=h' } ⟨I.ok,I.os,I.bare,⟨fun b o e n hb hx=>?_,fun b o e n hb hx=>?_,I.base.free,fun b o e hx=>?_,I.base.tups,I.base.frzs,I.base.tbls⟩,⟨m,hn.sameBut hs (ybc (cne x c hc)),fun j y v' e1 e2 e3=>?_⟩,fun y c' e=>?_,I.free,I.freeC,fun p hp=>?_,tracked ⟨oc,hoc,I.freeC x c hc⟩ hs,by simpa using I.len⟩ ⟨c,hs,.inr hc⟩
  ·exact(hs.2 b (yy (yz (Heap.lt_size e) (I.ok.cab x c hfn hc)))).trans (I.base.keep b o e n hb hx)
  ·obtain⟨sl,e1⟩:=I.base.slot b o e n hb hx
   exact⟨sl,(hs.2 b (yy (yz (Heap.lt_size e) (I.ok.cab x c hfn hc)))).trans e1⟩
  ·obtain⟨o',e1⟩:=I.base.there b o e hx
   exact⟨o',(hs.2 b (yy (yz (Heap.lt_size e) (I.ok.cab x c hfn hc)))).trans e1⟩
  ·by_cases hj:j=i
   ·subst hj
    rw[hi]at e1;cases e1
    rw[yaZ hiσ]at e2
    cases e2
    exact⟨u,r,.inr ⟨.inl hk,c,hc,hc'⟩⟩
   ·rw[ya8 (ybc hj)]at e2
    obtain⟨u',r',q⟩:=hl j y v' e1 e2 e3
    refine⟨u',r',?_⟩
    rcases q with q | ⟨k,c',e,z'⟩
    ·exact .inl q
    ·refine .inr ⟨k,c',e,z'.sameBut hs ?_⟩
     rintro rfl
     exact hj (ziS hN e1 (I.ok.inj _ _ _ e hc▸hi))
  ·by_cases hcc:c'=c
   ·subst hcc;exact⟨_,hc'⟩
   ·obtain⟨w2,z2⟩:=I.cell y c' e
    exact⟨w2,z2.sameBut hs hcc⟩
  ·obtain⟨e,n,ne,nf,d⟩:=I.pin p hp
   refine⟨(hs.2 p.1 ?_).trans e,n,ne,nf,d⟩
   intro q
   rw[q,hoc]at e
   have q':oc=p.2:=yn e
   exact d w' (by rw[<- q'];exact hocd)
theorem zgf{M:Model}{A:Around}{E:Value->Shared->Prop}{i:Nat}{x:Str}{v:V}{u:Value}{Q:Unit->Shared->Prop}(I:Inv X pins σ H s)(hN:X.N.Nodup)(hi:X.N[i]?=some x)(hx:Loc X.env.scope x)(r:RelV v u)
  (h:∀s',Inv X pins (σ.set i (some v)) H s'->Q () s') (hf:autoParam (X.fn x=true\/X.env.scope.names.lookup x=some .local) Internal.aut0._auto_1):wpAny M A (storeName X.env x u) Q E s:=
 zhI I hN hi hx r (fun s' I' _=>h s' I') hf
end
abbrev XK:=Value->Option Addr->Hp->Prop
abbrev St:=List (Option V)
abbrev VK:=V->Hp->Prop
abbrev TE:=St->Hp->VK->Prop
abbrev TT:=St->Hp->(Bool->Hp->Prop)->Prop
abbrev TA:=St->Hp->(List V->Hp->Prop)->Prop
set_option genInjectivity false in
set_option genSizeOf false in
structure Ends where
 nx:St->Hp->Prop
 rt:VK
 bk:St->Hp->Prop:=fun _ _=>False
 ct:St->Hp->Prop:=fun _ _=>False
abbrev TS:=Ends->St->Hp->Prop
def EP(X:Cx)(pins:List (Addr × Obj))(σ:St)(Q:VK)(u:Value)(s':Shared):Prop:=∃v H',Inv X pins σ H' s'/\RelV v u/\Q v H'
def TP(X:Cx)(pins:List (Addr × Obj))(σ:St)(Q:Bool->Hp->Prop)(b:Bool)(s':Shared):Prop:=∃H',Inv X pins σ H' s'/\Q b H'
def AP(X:Cx)(pins:List (Addr × Obj))(σ:St)(Q:List V->Hp->Prop)(us:List Value)(s':Shared):Prop:=∃vs H',Inv X pins σ H' s'/\Vals vs us/\Q vs H'
def SP(X:Cx)(pins:List (Addr × Obj))(D:Ends)(f:Flow)(s':Shared):Prop:=
 match f with
 | .next=>∃σ' H',Inv X pins σ' H' s'/\D.nx σ' H'
 | .brk=>∃σ' H',Inv X pins σ' H' s'/\D.bk σ' H'
 | .cont=>∃σ' H',Inv X pins σ' H' s'/\D.ct σ' H'
 | .ret u=>∃v σ' H',Inv X pins σ' H' s'/\RelV v u/\D.rt v H'
def PE(X:Cx)(e:Expr)(t:TE):Prop:=
 ∀(pins:List (Addr × Obj)) (s:Shared) (σ:St) (H:Hp) (Q:VK),Inv X pins σ H s->t σ H Q->wpAny (model X.prog X.w) X.A (eval e X.env) (EP X pins σ Q) X.xe s
def PT(X:Cx)(e:Expr)(t:TT):Prop:=
 ∀(pins:List (Addr × Obj)) (s:Shared) (σ:St) (H:Hp) (Q:Bool->Hp->Prop),Inv X pins σ H s->t σ H Q->wpAny (model X.prog X.w) X.A (isTrue e X.env (eval e X.env)) (TP X pins σ Q) X.xe s
def PW(X:Cx)(e:Expr)(t:TT):Prop:=
 ∀(whole:Sem Value) (pins:List (Addr × Obj)) (s:Shared) (σ:St) (H:Hp) (Q:Bool->Hp->Prop),Inv X pins σ H s->t σ H Q->wpAny (model X.prog X.w) X.A (isTrue e X.env whole) (TP X pins σ Q) X.xe s
theorem PW.pt{X:Cx}{e:Expr}{t:TT}(h:PW X e t):PT X e t:=h _
def PA(X:Cx)(es:List Expr)(t:TA):Prop:=
 ∀(pos:Pos) (pins:List (Addr × Obj)) (s:Shared) (σ:St) (H:Hp) (Q:List V->Hp->Prop),Inv X pins σ H s->t σ H Q->wpAny (model X.prog X.w) X.A (spliced (backTo pos (starEach es X.env))) (AP X pins σ Q) X.xe s
def PS(X:Cx)(st:Stmt)(t:TS):Prop:=
 ∀(pins:List (Addr × Obj)) (s:Shared) (σ:St) (H:Hp) (D:Ends),Inv X pins σ H s->t D σ H->wpAny (model X.prog X.w) X.A (exec st X.env) (SP X pins D) X.xe s
def PSs(X:Cx)(st:List Stmt)(t:TS):Prop:=
 ∀(pins:List (Addr × Obj)) (s:Shared) (σ:St) (H:Hp) (D:Ends),Inv X pins σ H s->t D σ H->wpAny (model X.prog X.w) X.A (execs st X.env) (SP X pins D) X.xe s
theorem thn{α:Type}{t:Sem α}{Q Q':α->Shared->Prop}{M:Model}{A:Around}{E:Value->Shared->Prop}{s:Shared}(h:wpAny M A t Q E s)(hQ:∀a s,Q a s->Q' a s):wpAny M A t Q' E s:=wpAny_mono h hQ fun _ _ x=>x
section
variable {X:Cx}
def zk6(i:Nat):TE:=fun σ H Q=>∃v,σ[i]?=some (some v)/\Q v H
abbrev tC(v:V):TE:=fun _ H Q=>Q v H
theorem zqK{i:Nat}{x:Str}{pos:Pos}(hN:X.N[i]?=some x)(hv:Vis X.env.scope x)(hd:autoParam ((x == ("__debug__" : Str))=false) Internal.aut1._auto_1)(hcd:autoParam ((x == ("__classdict__" : Str))=false) Internal.aut1._auto_1):PE X (.Name x pos) (zk6 i):=by
 intro pins s σ H Q I h
 obtain⟨v,e,h⟩:=h
 obtain⟨m,hn,hl⟩:=I.loc
 obtain⟨u,r,l⟩:=hl i x v hN e hv
 have fin:EP X pins σ Q u s:=⟨v,H,I,r,h⟩
 rcases l with⟨hk,hm⟩ | ⟨hk,c,hc,hcell⟩
 ·exact wpAny_Name (wpAny_loadName_local I.ok.kind hk hn hm fin) hd
 ·rcases hk with hk | hk
  ·exact wpAny_Name (wpAny_loadName_cell I.ok.kind hk hc hcell fin) hd
  ·exact wpAny_Name (wpAny_loadName_free I.ok.kind hk hc hcell fin hcd) hd
theorem zi{i j pos}:PE X (.Constant (.int i) j pos) (tC (.int i)):=fun _ _ _ H _ I h=>wpAny_Constant_int ⟨.int i,H,I.tok _,⟨_,rfl⟩,h⟩
theorem za2{b j pos}:PE X (.Constant (.bool b) j pos) (tC (.bl b)):=fun _ _ _ H _ I h=>Constant_bool ⟨.bl b,H,I,rfl,h⟩
theorem zcn{j pos}:PE X (.Constant .none j pos) (tC .non):=fun _ _ _ H _ I h=>Constant_none ⟨.non,H,I,rfl,h⟩
def Gl(X:Cx)(x:Str):Prop:=X.env.kindOf x=some .globalImplicit
theorem zpk{E:Value->Shared->Prop}{pins:List (Addr × Obj)}{s:Shared}{σ:St}{H:Hp}{x:Str}{u:Value}{pos:Pos}{Q:Value->Shared->Prop}(I:Inv X pins σ H s)(hg:Gl X x)(hm:X.mg x=some u)(h:Q u s)
  (hd:autoParam ((x == ("__debug__" : Str))=false) Internal.aut1._auto_1):wpAny (model X.prog X.w) X.A (eval (.Name x pos) X.env) Q E s:=
 Calls.Name_function_global I.ok.kind hg (Calls.loadGlobal_global (by rw[I.ok.glob];exact I.mod.glob.keeps I.bk) hm h) hd
theorem zcQ{E:Value->Shared->Prop}{pins:List (Addr × Obj)}{s:Shared}{σ:St}{H:Hp}{x:Str}{u:Value}{pos:Pos}{Q:Value->Shared->Prop}(I:Inv X pins σ H s)(hg:Gl X x)(hm:X.mg x=none)(hv:bootBuiltins x=some u)(h:Q u s)
  (hn:autoParam (x ≠ "__name__") Internal.aut1._auto_1) (hd:autoParam ((x == ("__debug__" : Str))=false) Internal.aut1._auto_1):wpAny (model X.prog X.w) X.A (eval (.Name x pos) X.env) Q E s:=by
 obtain⟨mb,h1,h2⟩:=I.mod.blt
 exact Calls.Name_function_global I.ok.kind hg (Calls.loadGlobal_builtin (by rw[I.ok.glob];exact I.mod.glob.keeps I.bk) hm (by rw[I.ok.blt];exact h1.keeps I.bk) ((h2 x hn).trans hv) h) hd
theorem zdR{x:Str}{v:V}{u:Value}{pos:Pos}(hg:Gl X x)(hm:X.mg x=none)(hv:bootBuiltins x=some u)(r:RelV v u)(hn:autoParam (x ≠ "__name__") Internal.aut1._auto_1)(hd:autoParam ((x == ("__debug__" : Str))=false) Internal.aut1._auto_1):PE X (.Name x pos) (tC v):=
 fun _ _ _ H _ I h=>zcQ I hg hm hv ⟨v,H,I,r,h⟩ hn hd
def t2I(ta tb:TE)(k:Int->Int->Hp->Prop):St->Hp->Prop:=fun σ H=>ta σ H fun x H1=>tb σ H1 fun y H2=>∃i j,x=.int i/\y=.int j/\k i j H2
variable {a b:Expr}{ta tb:TE}{pos:Pos}
def zhn(p:Int->Int->Bool)(ta tb:TE):TE:=fun σ H Q=>t2I ta tb (fun i j H2=>Q (.bl (p i j)) H2) σ H
abbrev tLt:TE->TE->TE:=zhn fun i j=>decide (i<j)
abbrev tLe:TE->TE->TE:=zhn fun i j=>decide (i<=j)
abbrev tGt:TE->TE->TE:=zhn fun i j=>decide (j<i)
abbrev tGe:TE->TE->TE:=zhn fun i j=>decide (j<=i)
abbrev zsk:TE->TE->TE:=zhn fun i j=>decide (i=j)
abbrev zsi:TE->TE->TE:=zhn fun i j=>!decide (i=j)
variable {tA tB':TT}{rest:List Expr}
abbrev zrY(t u:TT):TT:=fun σ H Q=>t σ H fun c H1=>if c=true then u σ H1 Q else Q false H1
abbrev tOr(t u:TT):TT:=fun σ H Q=>t σ H fun c H1=>if c=true then Q true H1 else u σ H1 Q
abbrev zrK(t:TT):TT:=fun σ H Q=>t σ H fun c H1=>Q (!c) H1
theorem zcq(ha:PT X a tA):PW X (.BoolOp .And [a] pos) tA:=by
 intro wh pins s σ H Q I h
 refine isTrue_and (thn (ha pins s σ H Q I h) fun c s1 e=>?_)
 cases c with
 | true=>exact isTrue_and_nil e
 | false=>exact e
theorem zdG(ha:PT X a tA):PW X (.BoolOp .Or [a] pos) tA:=by
 intro wh pins s σ H Q I h
 refine isTrue_or (thn (ha pins s σ H Q I h) fun c s1 e=>?_)
 cases c with
 | false=>exact isTrue_or_nil e
 | true=>exact e
theorem zb5(ha:PT X a tA)(hb:PW X (.BoolOp .And (b :: rest) pos) tB'):PW X (.BoolOp .And (a :: b :: rest) pos) (zrY tA tB'):=by
 intro wh pins s σ H Q I h
 refine isTrue_and (thn (ha pins s σ H _ I h) fun c s1 ⟨H1,I1,q1⟩=>?_)
 cases c with
 | true=>exact hb wh pins s1 σ H1 Q I1 q1
 | false=>exact⟨H1,I1,q1⟩
theorem zcT(ha:PT X a tA)(hb:PW X (.BoolOp .Or (b :: rest) pos) tB'):PW X (.BoolOp .Or (a :: b :: rest) pos) (tOr tA tB'):=by
 intro wh pins s σ H Q I h
 refine isTrue_or (thn (ha pins s σ H _ I h) fun c s1 ⟨H1,I1,q1⟩=>?_)
 cases c with
 | true=>exact⟨H1,I1,q1⟩
 | false=>exact hb wh pins s1 σ H1 Q I1 q1
theorem zbw(ha:PT X a tA):PT X (.UnaryOp .Not a pos) (zrK tA):=by
 intro pins s σ H Q I h
 exact isTrue_not (ha pins s σ H (fun c H1=>Q (!c) H1) I h)
def zoR(ta tb:TE):TE:=fun σ H Q=>ta σ H fun x H1=>∃c,x=.bl c/\if c=true then tb σ H1 Q else Q (.bl false) H1
theorem zm7{op}{t:TE}(h:PE X a t):PE X (.BoolOp op [a] pos) t:=fun pins s σ H Q I hw=>BoolOp_one (h pins s σ H Q I hw)
theorem zm8(ha:PE X a ta)(hb:PE X (.BoolOp .And (b :: rest) pos) tb):PE X (.BoolOp .And (a :: b :: rest) pos) (zoR ta tb):=by
 intro pins s σ H Q I h
 refine BoolOp_and (thn (ha pins s σ H _ I h) fun v s1 zz=>?_)
 obtain⟨x,H1,I1,r1,q1⟩:=zz
 obtain⟨c,rfl,q1⟩:=q1
 cases r1
 refine wpAny_truthy_bool ?_
 cases c with
 | true=>exact hb pins s1 σ H1 Q I1 q1
 | false=>exact⟨.bl false,H1,I1,rfl,q1⟩
abbrev tIf(t:TT)(ta tb:TE):TE:=fun σ H Q=>t σ H fun c H1=>if c=true then ta σ H1 Q else tb σ H1 Q
theorem zeN{c:Expr}(hc:PT X c tA)(ha:PE X a ta)(hb:PE X b tb):PE X (.IfExp c a b pos) (tIf tA ta tb):=by
 intro pins s σ H Q I h
 refine wpAny_IfExp (thn (hc pins s σ H _ I h) fun d s1 ⟨H1,I1,q1⟩=>?_)
 cases d with
 | true=>exact ha pins s1 σ H1 Q I1 q1
 | false=>exact hb pins s1 σ H1 Q I1 q1
end
def SqL(K:Fg)(H:Hp)(a:Addr)(xs:List V):Prop:=
 Rd H a (.lst xs) \/
  ∃(o:Obj) (its:Array Value) (n:Nat),K.lookup a=some o/\o.cls=.type "list" /\ o.dict=none/\o.data=.seq its n/\its.size<=sizeLine/\Vals xs its.toList
def SqT(K:Fg)(H:Hp)(a:Addr)(xs:List V):Prop:=
 Rd H a (.tup xs) \/
  ∃(o:Obj) (its:Array Value) (n:Nat),K.lookup a=some o/\o.cls=.type "tuple" /\ o.data=.seq its n/\its.size<=sizeLine/\Vals xs its.toList
def zrM:Value->Option V
 | .none=>some .non
 | .bool b=>some (.bl b)
 | .int i _=>some (.int i)
 | .str x _=>some (.str x)
 | .bytes b _=>some (.byt b)
 | .float b _=>some (.flt b)
 | .ref a=>some (.ref a)
 | .type n=>some (.ty n)
 | _=>none
theorem RelV.abs{x:V}{u:Value}(r:RelV x u):zrM u=some x:=by
 cases x with
 | non=>cases r;rfl
 | bl _=>cases r;rfl
 | int _=>obtain⟨t,rfl⟩:=r;rfl
 | str _=>obtain⟨t,rfl⟩:=r;rfl
 | byt _=>obtain⟨t,rfl⟩:=r;rfl
 | flt _=>obtain⟨t,rfl⟩:=r;rfl
 | ref _=>cases r;rfl
 | ty _=>cases r;rfl
theorem RelV.inj{x y:V}{u:Value}(r:RelV x u)(q:RelV y u):x=y:=yn (r.abs.symm.trans q.abs)
theorem Vals.inj:∀{xs ys:List V} {us:List Value},Vals xs us->Vals ys us->xs=ys
 | _,_,_,.nil,.nil=>rfl
 | _,_,_,.cons r t,.cons r' t'=>by rw[r.inj r',Vals.inj t t']
section
variable {X:Cx}{pins:List (Addr × Obj)}{σ:St}{H:Hp}{s:Shared}{a:Addr}{xs ys:List V}
theorem SqL.of{K:Fg}(h:H a=some (.lst xs)):SqL K H a xs:=.inl (.inl h)
theorem SqT.of{K:Fg}(h:H a=some (.tup xs)):SqT K H a xs:=.inl (.inl h)
theorem Inv.list(I:Inv X pins σ H s)(h:SqL X.K H a xs):∃its:List Value,Vals xs its/\PlainL s.heap a its.toArray/\xs.length<=sizeLine:=by
 rcases h with h | ⟨o,its,n,hk,hc,hd,hs,hz,r⟩
 ·obtain⟨z,its,n,r,e⟩:=h.ok I.hok
  exact⟨its,r,⟨_,n,e,rfl,rfl,rfl⟩,z⟩
 ·refine⟨its.toList,r,⟨o,n,I.kIn a o hk,hc,hd,by simpa using hs⟩,?_⟩
  have e:=r.length
  simp only[Array.length_toList]at e
  omega
theorem Inv.tuple(I:Inv X pins σ H s)(h:SqT X.K H a xs):∃its:List Value,Vals xs its/\IsTup s.heap a its.toArray/\xs.length<=sizeLine:=by
 rcases h with h | ⟨o,its,n,hk,hc,hs,hz,r⟩
 ·obtain⟨z,its,r,p⟩:=h.ok I.hok
  exact⟨its,r,p,z⟩
 ·refine⟨its.toList,r,⟨o,I.kIn a o hk,hc,n,by simpa using hs⟩,?_⟩
  have e:=r.length
  simp only[Array.length_toList]at e
  omega
theorem Inv.list_inj(I:Inv X pins σ H s)(h:SqL X.K H a xs)(h':SqL X.K H a ys):xs=ys:=by
 obtain⟨its,r,⟨o,n,e,_,_,d⟩,_⟩:=I.list h
 obtain⟨its',r',⟨o',n',e',_,_,d'⟩,_⟩:=I.list h'
 rw[e]at e';cases e'
 rw[d]at d'
 injection d' with d1 _
 have:its=its':=by simpa using congrArg Array.toList d1
 subst this
 exact r.inj r'
end
abbrev Cx.wish(X:Cx)(E:Value->Shared->Prop):Cx:={ X with xe:=E }
abbrev Cx.nox(X:Cx):Cx:=X.wish fun _ _=>False
theorem Cx.Ok.wish{X:Cx}(ok:X.Ok)(E:Value->Shared->Prop):(X.wish E).Ok:=
 ⟨ok.mod,ok.kind,ok.glob,ok.blt,ok.above,ok.inj,ok.has,ok.cab,ok.hd,ok.frames,ok.stk,ok.exf,ok.bs,ok.bsz,ok.noex,ok.exfs,ok.funs,ok.frf⟩
theorem Cx.Ok.unwish{X:Cx}{E:Value->Shared->Prop}(ok:(X.wish E).Ok):X.Ok:=
 ⟨ok.mod,ok.kind,ok.glob,ok.blt,ok.above,ok.inj,ok.has,ok.cab,ok.hd,ok.frames,ok.stk,ok.exf,ok.bs,ok.bsz,ok.noex,ok.exfs,ok.funs,ok.frf⟩
section
variable {X:Cx}{pins:List (Addr × Obj)}{σ:St}{H:Hp}{s:Shared}{E:Value->Shared->Prop}
theorem Inv.wish(I:Inv X pins σ H s)(E:Value->Shared->Prop):Inv (X.wish E) pins σ H s:=⟨I.ok.wish E,I.os,I.bare,I.base,I.loc,I.cell,I.free,I.freeC,I.pin,I.hok,I.len⟩
theorem Inv.unwish(I:Inv (X.wish E) pins σ H s):Inv X pins σ H s:=⟨I.ok.unwish,I.os,I.bare,I.base,I.loc,I.cell,I.free,I.freeC,I.pin,I.hok,I.len⟩
theorem SP.unwish{D:Ends}{f:Flow}{s':Shared}(h:SP (X.wish E) pins D f s'):SP X pins D f s':=by
 cases f with
 | next=>obtain⟨σ',H',I,q⟩:=h;exact⟨σ',H',I.unwish,q⟩
 | brk=>obtain⟨σ',H',I,q⟩:=h;exact⟨σ',H',I.unwish,q⟩
 | cont=>obtain⟨σ',H',I,q⟩:=h;exact⟨σ',H',I.unwish,q⟩
 | ret u=>obtain⟨v,σ',H',I,r,q⟩:=h;exact⟨v,σ',H',I.unwish,r,q⟩
theorem PSs.nox{st:List Stmt}{t:TS}(h:PSs X.nox st t):PSs X st t:=fun pins s σ H D I hw=>
 wpAny_mono (h pins s σ H D (I.wish _) hw) (fun _ _ q=>q.unwish) fun _ _ z=>False.elim z
end
section
variable {X:Cx}{st:Stmt}{rest:List Stmt}{t u:TS}{e:Expr}{te:TE}{pos:Pos}
abbrev zrd:TS:=fun D σ H=>D.nx σ H
abbrev zrN(t u:TS):TS:=fun D σ H=>t { D with nx:=u D } σ H
theorem zT:PSs X [] zrd:=fun _ _ σ H _ I h=>wpAny_execs_nil ⟨σ,H,I,h⟩
theorem zj(h1:PS X st t)(h2:PSs X rest u):PSs X (st :: rest) (zrN t u):=by
 intro pins s σ H D I h
 refine wpAny_execs_cons (thn (h1 pins s σ H { D with nx:=u D } I h) fun f s1 q=>?_)
 cases f with
 | next=>
  obtain⟨σ',H',I',q⟩:=q
  exact h2 pins s1 σ' H' D I' q
 | ret v=>exact q
 | brk=>exact q
 | cont=>exact q
theorem zm(h1:PS X st t):PSs X [st] t:=by
 intro pins s σ H D I h
 refine wpAny_execs_cons (thn (h1 pins s σ H D I h) fun f s1 q=>?_)
 cases f with
 | next=>exact wpAny_execs_nil q
 | ret v=>exact q
 | brk=>exact q
 | cont=>exact q
abbrev zr8:TS:=fun D σ H=>D.bk σ H
abbrev zsc:TS:=fun D σ H=>D.ct σ H
theorem Inv.quiet{pins:List (Addr × Obj)}{σ:St}{H:Hp}{s:Shared}(I:Inv X pins σ H s):interactive X.env=false:=by simp[interactive,I.ok.kind]
abbrev zrE(te:TE):TS:=fun D σ H=>te σ H fun _ H1=>D.nx σ H1
theorem zb3(he:PE X e te)(hs:autoParam (swapsWith e none pos.line X.env=pure false) Internal.aut2._auto_1):PS X (.Expr e pos) (zrE te):=by
 intro pins s σ H D I h
 exact wpAny_Expr_any (thn (he pins s σ H _ I h) fun v s1 ⟨x,H1,I1,r1,q1⟩=>⟨σ,H1,I1,q1⟩) I.quiet hs
abbrev zrL(te:TE):TS:=fun D σ H=>te σ H D.rt
theorem zH(he:PE X e te):PS X (.Return (some e) pos) (zrL te):=by
 intro pins s σ H D I h
 exact wpAny_Return_some (thn (he pins s σ H _ I h) fun v s1 ⟨x,H1,I1,r1,q1⟩=>⟨x,σ,H1,I1,r1,q1⟩)
abbrev zsd:TS:=fun D _ H=>D.rt .non H
abbrev zrR(c:TT)(t u:TS):TS:=fun D σ H=>c σ H fun b H1=>if b=true then t D σ H1 else u D σ H1
theorem zX{c:Expr}{a b:List Stmt}{tc:TT}(hc:PT X c tc)(ha:PSs X a t)(hb:PSs X b u):PS X (.If c a b pos) (zrR tc t u):=by
 intro pins s σ H D I h
 refine wpAny_If (thn (hc pins s σ H _ I h) fun d s1 ⟨H1,I1,q1⟩=>?_)
 cases d with
 | true=>exact ha pins s1 σ H1 D I1 q1
 | false=>exact hb pins s1 σ H1 D I1 q1
def zqV:TS:=fun _ _ _=>False
theorem zfZ:PS X st zqV:=fun _ _ _ _ _ _ h=>h.elim
end
abbrev TG:=V->St->Hp->(St->Hp->Prop)->Prop
abbrev TGs:=List V->St->Hp->(St->Hp->Prop)->Prop
def PG(X:Cx)(target:Expr)(t:TG):Prop:=
 ∀(pins:List (Addr × Obj)) (s:Shared) (σ:St) (H:Hp) (v:V) (u:Value) (Q:St->Hp->Prop),Inv X pins σ H s->RelV v u->t v σ H Q ->
  wpAny (model X.prog X.w) X.A (assign target X.env u) (fun _ s'=>∃σ' H',Inv X pins σ' H' s'/\Q σ' H') X.xe s
def PGs(X:Cx)(ts:List Expr)(t:TGs):Prop:=
 ∀(pins:List (Addr × Obj)) (s:Shared) (σ:St) (H:Hp) (vs:List V) (us:List Value) (Q:St->Hp->Prop),Inv X pins σ H s->Vals vs us->t vs σ H Q ->
  wpAny (model X.prog X.w) X.A (assignInOrder ((assignEach ts X.env).map (·.2)) us) (fun _ s'=>∃σ' H',Inv X pins σ' H' s'/\Q σ' H') X.xe s
abbrev zhv:=V->V->V->Hp->(Hp->Prop)->Prop
def zno(X:Cx)(t:zhv):Prop:=
 ∀(pins:List (Addr × Obj)) (s:Shared) (σ:St) (H:Hp) (o i v:V) (ov iv u:Value) (Q:Hp->Prop),Inv X pins σ H s->RelV o ov->RelV i iv->RelV v u->t o i v H Q ->
  wpAny (model X.prog X.w) X.A (setItem ov iv u) (fun _ s'=>∃H',Inv X pins σ H' s'/\Q H') X.xe s
abbrev TIp:=V->V->Hp->VK->Prop
def PIp(X:Cx)(op:Operator)(t:TIp):Prop:=
 ∀(pins:List (Addr × Obj)) (s:Shared) (σ:St) (H:Hp) (x y:V) (v u:Value) (Q:VK),Inv X pins σ H s->RelV x v->RelV y u->t x y H Q ->
  wpAny (model X.prog X.w) X.A (inplaceOp op v u) (EP X pins σ Q) X.xe s
section
variable {X:Cx}{pos:Pos}
abbrev ziv(i:Nat):TG:=fun v σ H Q=>Q (σ.set i (some v)) H
theorem zU{i:Nat}{x:Str}(hN:X.N.Nodup)(hi:X.N[i]?=some x)(hx:Loc X.env.scope x)(hf:autoParam (X.fn x=true\/X.env.scope.names.lookup x=some .local) Internal.aut0._auto_1):PG X (.Name x pos) (ziv i):=by
 intro pins s σ H v u Q I r h
 exact wpAny_assign_Name (zgf I hN hi hx r (fun s' I'=>⟨_,H,I',h⟩) hf)
def zqs:TGs:=fun vs σ H Q=>vs=[]/\Q σ H
def zoM(t:TG)(u:TGs):TGs:=fun vs σ H Q=>∃v r,vs=v :: r/\t v σ H fun σ' H'=>u r σ' H' Q
theorem zaH:PGs X [] zqs:=by
 intro pins s σ H vs us Q I r h
 obtain⟨e,h⟩:=h
 subst e
 cases r
 exact assignInOrder_nil ⟨σ,H,I,h⟩
theorem zQ{e:Expr}{es:List Expr}{t:TG}{u:TGs}(h1:PG X e t)(h2:PGs X es u)
  (hs:autoParam ((assignEach (e :: es) X.env).map (·.2)=assign e X.env :: (assignEach es X.env).map (·.2)) Internal.aut2._auto_1):PGs X (e :: es) (zoM t u):=by
 intro pins s σ H vs us Q I r h
 obtain⟨v,vr,e1,h⟩:=h
 subst e1
 cases r with
 | cons r rr=>
  rw[hs]
  refine assignInOrder_cons (thn (h1 pins s σ H _ _ _ I r h) fun _ s1 zz=>?_)
  obtain⟨σ1,H1,I1,q1⟩:=zz
  exact h2 pins s1 σ1 H1 _ _ Q I1 rr q1
def zbx(K:Fg)(n:Nat)(t:TGs):TG:=fun v σ H Q=>∃a xs,v=.ref a/\SqT K H a xs/\xs.length=n/\t xs σ H Q
theorem zaU{es:List Expr}{k:Nat}{t:TGs}{n:Nat}(hc:X.calm=true)(h:PGs X es t)
  (hn:autoParam ((assignEach es X.env).length=n) Internal.aut2._auto_1) (hst:autoParam ((assignEach es X.env).findIdx? (·.1)=none) Internal.aut2._auto_1):PG X (.Tuple es k pos) (zbx X.K n t):=by
 intro pins s σ H v u Q I r hw
 obtain⟨a,xs,e1,hq,hl,hw⟩:=hw
 subst e1
 cases r
 obtain⟨its,rv,ht,hz⟩:=I.tuple hq
 refine assign_Tuple_tuple (I.ok.hd hc) ht (by simp[hn,<- hl,rv.length]) hst fun h' hx=>?_
 have I1:Inv X pins σ H { s with heap:=h' }:=I.kept (t':=s.toks) fun b o e=>hx b o (yy (Heap.lt_size e)) e
 exact h pins _ σ H xs _ Q I1 (by simpa using rv) hw
abbrev zrJ(to ti:TE)(t:zhv):TG:=fun v σ H Q=>to σ H fun o H1=>ti σ H1 fun i H2=>t o i v H2 fun H3=>Q σ H3
theorem zcE{o i:Expr}{to ti:TE}{t:zhv}(ho:PE X o to)(hi:PE X i ti)(hs:zno X t)
  (ha:autoParam (∀v,assign (.Subscript o i pos) X.env v=(do
   let ov <- holding [v] (eval o X.env)
   let iv <- holding [v,ov] (eval i X.env)
   standAt pos
   holding [v,ov,iv] (setItem ov iv v)
   release [v,ov,iv] [])) Internal.aut3._auto_1):PG X (.Subscript o i pos) (zrJ to ti t):=by
 intro pins s σ H v u Q I r h
 rw[ha]
 refine wpAny_bind (wpAny_holding (thn (ho pins s σ H _ I h) fun ov s1 zz=>?_))
 obtain⟨x,H1,I1,r1,q1⟩:=zz
 refine wpAny_bind (wpAny_holding (thn (hi pins s1 σ H1 _ I1 q1) fun iv s2 zz=>?_))
 obtain⟨y,H2,I2,r2,q2⟩:=zz
 refine wpAny_bind (wpAny_standAt (wpAny_bind (wpAny_holding (thn (hs pins s2 σ H2 x y v ov iv u _ I2 r1 r2 r q2) fun _ s3 ⟨H3,I3,q3⟩=>?_))))
 exact wpAny_release ⟨σ,H3,I3,q3⟩
abbrev znd(te:TE)(g:TG):TS:=fun D σ H=>te σ H fun x H1=>g x σ H1 D.nx
theorem zcH{tg e:Expr}{te:TE}{g:TG}(he:PE X e te)(hg:PG X tg g)(hs:autoParam (swapsWithSole [tg] e pos.line X.env=pure false) Internal.aut2._auto_1)(hw:autoParam (swappedStores [tg] e X.env=pure none) Internal.aut2._auto_1)
  (h1:autoParam ((assignEach [tg] X.env).map (·.2)=[assign tg X.env]) Internal.aut2._auto_1):PS X (.Assign [tg] e pos) (znd te g):=by
 intro pins s σ H D I h
 refine wpAny_Assign_stores (thn (he pins s σ H _ I h) fun v s1 zz=>?_) hs hw
 obtain⟨x,H1,I1,r1,q1⟩:=zz
 rw[h1]
 exact thn (hg pins s1 σ H1 x v _ I1 r1 q1) fun _ s2 q=>q
theorem zE{i:Nat}{x:Str}{e:Expr}{te:TE}{pos':Pos}(hN:X.N.Nodup)(hi:X.N[i]?=some x)(hx:Loc X.env.scope x)(he:PE X e te)(hs:autoParam (swapsWith e (some (.Name x pos')) pos.line X.env=pure false) Internal.aut2._auto_1)(hf:autoParam (X.fn x=true\/X.env.scope.names.lookup x=some .local) Internal.aut0._auto_1) :
  PS X (.Assign [.Name x pos'] e pos) (znd te (ziv i)):=by
 intro pins s σ H D I h
 refine wpAny_Assign_Name (thn (he pins s σ H _ I h) fun v s1 zz=>?_) hs
 obtain⟨y,H1,I1,r1,q1⟩:=zz
 exact zgf I1 hN hi hx r1 (fun s2 I2=>⟨_,H1,I2,q1⟩) hf
def zou(i:Nat)(te:TE)(ti:TIp):TS:=fun D σ H=>∃x,σ[i]?=some (some x)/\te σ H fun y H1=>ti x y H1 fun z H2=>D.nx (σ.set i (some z)) H2
theorem zlY{i:Nat}{x:Str}{e:Expr}{te:TE}{op:Operator}{ti:TIp}{pos':Pos}(hN:X.N.Nodup)(hi:X.N[i]?=some x)(hx:Loc X.env.scope x)(he:PE X e te)(ho:PIp X op ti)(hf:autoParam (X.fn x=true\/X.env.scope.names.lookup x=some .local) Internal.aut0._auto_1) :
  PS X (.AugAssign (.Name x pos') op e pos) (zou i te ti):=by
 intro pins s σ H D I h
 obtain⟨v,e1,h⟩:=h
 obtain⟨m,hn,hl⟩:=I.loc
 have vis:Vis X.env.scope x:=by rcases hx with k | k;exact .inl k;exact .inr (.inl k)
 obtain⟨u,r,l⟩:=hl i x v hi e1 vis
 refine wpAny_AugAssign_Name ?_
 have go:wpAny (model X.prog X.w) X.A (eval e X.env) (fun w s₂=>wpAny (model X.prog X.w) X.A (inplaceOp op u w) (fun r s₃=>wpAny (model X.prog X.w) X.A (storeName X.env x r) (fun _=>SP X pins D .next) X.xe s₃) X.xe s₂) X.xe s:=by
  refine thn (he pins s σ H _ I h) fun w s1 zz=>?_
  obtain⟨y,H1,I1,r1,q1⟩:=zz
  refine thn (ho pins s1 σ H1 v y u w _ I1 r r1 q1) fun z s2 zz=>?_
  obtain⟨zv,H2,I2,r2,q2⟩:=zz
  exact zgf I2 hN hi hx r2 (fun s3 I3=>⟨_,H2,I3,q2⟩) hf
 rcases l with⟨hk,hm⟩ | ⟨hk,c,hc,hcell⟩
 ·exact wpAny_loadName_local I.ok.kind hk hn hm go
 ·rcases hk with hk | hk
  ·exact wpAny_loadName_cell I.ok.kind hk hc hcell go
  ·rcases hx with k | k
   ·have:X.env.scope.names.lookup x=some .free:=hk
    rw[k]at this;cases this
   ·have:X.env.scope.names.lookup x=some .free:=hk
    rw[k]at this;cases this
def zox(to ti te:TE)(tget:V->V->Hp->VK->Prop)(tip:TIp)(tset:zhv):TS:=fun D σ H=>to σ H fun o H1=>ti σ H1 fun i H2=>tget o i H2 fun x H3=>te σ H3 fun y H4=>tip x y H4 fun z H5=>tset o i z H5 fun H6=>D.nx σ H6
def zjI(X:Cx)(t:V->V->Hp->VK->Prop):Prop:=
 ∀(pins:List (Addr × Obj)) (s:Shared) (σ:St) (H:Hp) (o i:V) (ov iv:Value) (Q:VK),Inv X pins σ H s->RelV o ov->RelV i iv->t o i H Q ->
  wpAny (model X.prog X.w) X.A (getItem ov iv) (EP X pins σ Q) X.xe s
theorem zhB{o i e:Expr}{to ti te:TE}{tget:V->V->Hp->VK->Prop}{tip:TIp}{tset:zhv}{op:Operator}{tpos:Pos}(ho:PE X o to)(hi:PE X i ti)(hg:zjI X tget)(he:PE X e te)(hp:PIp X op tip)(hs:zno X tset)
  (ha:autoParam (∀ov iv new,augStore i ov iv new=(do holding [new,ov,iv] (setItem ov iv new);release [new,ov,iv] [];pure .next)) Internal.aut4._auto_1):PS X (.AugAssign (.Subscript o i tpos) op e pos) (zox to ti te tget tip tset):=by
 intro pins s σ H D I h
 refine wpAny_AugAssign_SubscriptAny (thn (ho pins s σ H _ I h) fun ov s1 zz=>?_) ha
 obtain⟨x1,H1,I1,r1,q1⟩:=zz
 refine thn (hi pins s1 σ H1 _ I1 q1) fun iv s2 zz=>?_
 obtain⟨x2,H2,I2,r2,q2⟩:=zz
 refine thn (hg pins s2 σ H2 x1 x2 ov iv _ I2 r1 r2 q2) fun old s3 zz=>?_
 obtain⟨x3,H3,I3,r3,q3⟩:=zz
 refine thn (he pins s3 σ H3 _ I3 q3) fun v s4 zz=>?_
 obtain⟨x4,H4,I4,r4,q4⟩:=zz
 refine thn (hp pins s4 σ H4 x3 x4 old v _ I4 r3 r4 q4) fun new s5 zz=>?_
 obtain⟨x5,H5,I5,r5,q5⟩:=zz
 exact thn (hs pins s5 σ H5 x1 x2 x5 ov iv new _ I5 r1 r2 r5 q5) fun _ s6 ⟨H6,I6,q6⟩=>⟨σ,H6,I6,q6⟩
def ipI(f:Int->Int->Int):TIp:=fun x y H Q=>∃i j,x=.int i/\y=.int j/\Q (.int (f i j)) H
theorem zfp:PIp X .Add (ipI fun i j=>i+j):=by
 intro pins s σ H x y v u Q I r1 r2 h
 obtain⟨i,j,e1,e2,q⟩:=h
 subst e1;subst e2
 obtain⟨t,rfl⟩:=r1
 obtain⟨t',rfl⟩:=r2
 exact iadd_int ⟨.int _,H,I.tok _,⟨_,rfl⟩,q⟩
end
section
variable {X:Cx}{pos:Pos}
def zqv(c:TT)(tb:TS):TS:=fun D σ H=>∃W:Nat->St->Hp->Prop,(∃m,W m σ H)/\∀m σ H,W m σ H ->
 c σ H fun b H1=>if b=true then ∃N:St->Hp->Prop,(∀σ' H',N σ' H'->∃m',m'<m/\W m' σ' H')/\tb { D with nx:=N,ct:=N,bk:=D.nx } σ H1 else D.nx σ H1
theorem zdX{c:Expr}{body:List Stmt}{tc:TT}{tb:TS}(hp:PassesOwn (model X.prog X.w) X.A X.env X.xe)(hc:PT X c tc)(hb:PSs X body tb):PS X (.While c body [] pos) (zqv tc tb):=by
 intro pins s σ H D I h
 obtain⟨W,⟨m0,w0⟩,turn⟩:=h
 refine wpAny_While (codeAny_whileLoop (fun n s'=>∃σ' H',Inv X pins σ' H' s'/\W n σ' H') ?_ m0 ⟨σ,H,I,w0⟩)
 rintro n s1 ⟨σ1,H1,I1,w1⟩
 refine wpAny_passesOwn hp (thn (hc pins s1 σ1 H1 _ I1 (turn n σ1 H1 w1)) fun b s2 ⟨H2,I2,q2⟩=>?_)
 cases b with
 | true=>
  obtain⟨N,hN,q2⟩:=q2
  rw[if_pos rfl]
  refine wpAny_passesOwn hp (thn (hb pins s2 σ1 H2 _ I2 q2) fun f s3 q3=>?_)
  cases f with
  | next=>
   obtain⟨σ3,H3,I3,n3⟩:=q3
   obtain⟨m',hm,w3⟩:=hN σ3 H3 n3
   exact⟨m',hm,σ3,H3,I3,w3⟩
  | cont=>
   obtain⟨σ3,H3,I3,n3⟩:=q3
   obtain⟨m',hm,w3⟩:=hN σ3 H3 n3
   exact⟨m',hm,σ3,H3,I3,w3⟩
  | brk=>exact q3
  | ret v=>exact q3
 | false=>
  rw[if_neg yt]
  exact wpAny_execs_nil ⟨σ1,H2,I2,q2⟩
end
set_option genInjectivity false in
set_option genSizeOf false in
structure It where
 go:Nat->Hp->Prop
 yld:Nat->Hp->V->Hp->Prop
 stop:Nat->Hp->Prop
def zde(X:Cx)(pins:List (Addr × Obj))(H:Hp)(b:Addr):Prop:=
 H b=none/\b≠X.env.locals/\b∉X.fs/\(b∈X.ex\/X.s₀.heap.objs.size<=b)/\(∀x c,X.env.cells.lookup x=some c->c≠b)/\∀p∈X.pn++pins,p.1≠b
theorem Inv.fpOk{X:Cx}{pins:List (Addr × Obj)}{σ:St}{H H':Hp}{s:Shared}{b:Addr}(I:Inv X pins σ H s)(hb:s.heap.objs.size<=b)(hn:H' b=none):zde X pins H' b:=by
 refine⟨hn,Nat.ne_of_gt (yz I.lt hb),I.nofs hb,.inr (yc I.sz hb),fun x c e z=>?_,fun p hp z=>?_⟩
 ·obtain⟨v,q⟩:=I.cell x c e
  exact absurd (yz q.lt (by rw[z];exact hb)) (yaa _)
 ·exact absurd (yz (Heap.lt_size (I.pin p hp).1) (by rw[z];exact hb)) (yaa _)
set_option genInjectivity false in
set_option genSizeOf false in
structure Turn(P:Program)(w:World)(K:Fg)(tg:Expr)(J:It)(fp:List Addr)(it:Addr)(tn:Nat->Heap->Prop):Prop where
 mem:it∈fp
 obj:∀i h,tn i h->∀b∈fp,∃o,h.get? b=some o/\∀v,o.data≠.cell v
 keep:∀i h h',tn i h->(∀b∈fp,∀o,h.get? b=some o->h'.get? b=some o)->tn i h'
 item:∀(X:Cx),X.prog=P->X.w=w->X.K=K->X.calm=true->∀(i:Nat) (pins:List (Addr × Obj)) (s:Shared) (σ:St) (H:Hp) (E:Value->Shared->Prop),Inv X pins σ H s->(∀b∈fp,zde X pins H b)->tn i s.heap->J.go i H ->
  wpAny (model P w) X.A (pyNext (.ref it)) (fun r s1=>∃u,r=some u /\
   wpAny (model P w) X.A (letOwnedTupleGo tg (.ref it) u) (fun _ s2=>∃x H',Inv X pins σ H' s2/\RelV x u/\J.yld i H x H'/\tn (i+1) s2.heap/\∀b∈fp,H' b=none) E s1) E s
 done:∀(X:Cx),X.prog=P->X.w=w->X.K=K->X.calm=true->∀(i:Nat) (pins:List (Addr × Obj)) (s:Shared) (σ:St) (H:Hp) (E:Value->Shared->Prop),Inv X pins σ H s->(∀b∈fp,zde X pins H b)->tn i s.heap->J.stop i H ->
  wpAny (model P w) X.A (pyNext (.ref it)) (fun r s1=>r=none/\Inv X pins σ H s1) E s
 self:∀(A:Around) (i:Nat) (s:Shared) (Q:Value->Shared->Prop) (E:Value->Shared->Prop),tn i s.heap->Q (.ref it) s->wpAny (model P w) A (pyIter (.ref it)) Q E s
abbrev TI:=St->Hp->(It->Hp->Prop)->Prop
def PIE(X:Cx)(pins:List (Addr × Obj))(σ:St)(tg:Expr)(R:It->Hp->Prop)(itv:Value)(s2:Shared):Prop:=
 ∃(it:Addr) (fp:List Addr) (tn:Nat->Heap->Prop) (J:It) (H':Hp),itv=.ref it/\Inv X pins σ H' s2/\Turn X.prog X.w X.K tg J fp it tn/\tn 0 s2.heap/\(∀b∈fp,zde X pins H' b)/\R J H'
def PI(X:Cx)(tg iter:Expr)(wi:TI):Prop:=
 ∀(pins:List (Addr × Obj)) (s:Shared) (σ:St) (H:Hp) (R:It->Hp->Prop),Inv X pins σ H s->wi σ H R ->
  wpAny (model X.prog X.w) X.A (eval iter X.env) (fun v s1=>wpAny (model X.prog X.w) X.A (pyIter v) (PIE X pins σ tg R) X.xe s1) X.xe s
theorem zkV{M:Model}{A:Around}{E:Value->Shared->Prop}{s:Shared}{tg:Expr}{it:Addr}{u:Value}{o:Obj}{n:String}{vs:Array Value}{Q:Unit->Shared->Prop}(ho:s.heap.get? it=some o)(hc:o.cls=.type n)(hd:o.data=.fields vs)
  (hn:["enumerate", "zip", "dict_itemiterator", "dict_reverseitemiterator", "odict_iterator", "itertools.zip_longest", "itertools.pairwise"].contains n=false) (hQ:Q () s):wpAny M A (letOwnedTupleGo tg (.ref it) u) Q E s:=by
 unfold letOwnedTupleGo
 cases tg<;>first
  | exact wpAny_pure hQ
  | (cases u<;>first
    | exact wpAny_pure hQ
    | (refine wpAny_bind (wpAny_load ho ?_)
       rw[hc,hd]
       show wpAny M A (if(["enumerate", "zip", "dict_itemiterator", "dict_reverseitemiterator", "odict_iterator", "itertools.zip_longest", "itertools.pairwise"].contains n&&vs[0]? == some (rawInt _))=true then _ else _) Q E s
       rw[if_neg (by intro h;rw[hn,Bool.false_and]at h;cases h)]
       exact wpAny_pure hQ))
def Itl(K:Fg)(a:Addr):It:=
 ⟨fun i H=>∃xs x,SqL K H a xs/\xs[i]?=some x,fun i H x H'=>H'=H/\∀xs,SqL K H a xs->xs[i]?=some x,fun i H=>∃xs,SqL K H a xs/\xs.length<=i⟩
def Itr(lo:Int)(n:Nat):It:=⟨fun i _=>i<n,fun i H x H'=>H'=H/\x=.int (lo+i),fun i _=>n<=i⟩
theorem zms{P:Program}{w:World}{K:Fg}{tg:Expr}(a it:Addr):Turn P w K tg (Itl K a) [it] it (fun i h=>h.IsListIter it a i) where
 mem:=by simp
 obj:=fun i h st b hb=>by
  have e:b=it:=by simpa using hb
  subst e
  obtain⟨o,e,c,d⟩:=st
  exact⟨o,e,fun v z=>by rw[d]at z;cases z⟩
 keep:=fun i h h' st k=>st.at fun o e=>k it (by simp) o e
 item:=by
  intro X hP hw hK hc i pins s σ H E I hf st hg
  subst hP hw hK
  obtain⟨xs,x,hq,hx⟩:=hg
  obtain⟨its,rv,p,hz⟩:=I.list hq
  obtain⟨u,hu,ru⟩:=rv.get hx
  obtain⟨f0,f1,f2,f3,f4,f5⟩:=hf it (by simp)
  refine wpAny_pyNext_list_item st p.isList (x:=u) (by simpa using hu) fun h' st' sb=>?_
  have I1:Inv X pins σ H { s with heap:=h' }:=I.turned (t':=s.toks) (fun b o hb e=>(sb.2 b hb).trans e) f0 f1 f3 f4 f5
  obtain⟨o,e,c,d⟩:=id st'
  exact⟨u,rfl,zkV (s:={ s with heap:=h' }) e c d (by decide) ⟨x,H,I1,ru,⟨rfl,fun ys hy=>by rw[I.list_inj hy hq];exact hx⟩,st',fun b hb=>(hf b hb).1⟩⟩
 done:=by
  intro X hP hw hK hc i pins s σ H E I hf st hg
  subst hP hw hK
  obtain⟨xs,hq,hx⟩:=hg
  obtain⟨its,rv,p,hz⟩:=I.list hq
  obtain⟨f0,f1,f2,f3,f4,f5⟩:=hf it (by simp)
  have hl:=rv.length
  exact wpAny_pyNext_list_end (I.ok.hd hc) st p.isList (by simp;omega) fun h' eb=>⟨rfl,I.turned (t':=s.toks) (fun b o hb e=>eb b o hb e) f0 f1 f3 f4 f5⟩
 self:=fun _ _ _ _ _ st h=>wpAny_pyIter_listiter st h
theorem zlj{P:Program}{w:World}{K:Fg}{tg:Expr}(it:Addr)(lo:Int)(n:Nat):Turn P w K tg (Itr lo n) [it] it (fun i h=>IsRangeIter h it (lo+(i:Nat)*1) ((n:Int)-(i:Nat)) 1) where
 mem:=by simp
 obj:=fun i h st b hb=>by
  have e:b=it:=by simpa using hb
  subst e
  exact⟨_,st,fun v z=>by
   have z':Data.fields _=Data.cell v:=z
   cases z'⟩
 keep:=fun i h h' st k=>k it (by simp) _ st
 item:=by
  intro X hP hw hK hc i pins s σ H E I hf st hg
  subst hP hw hK
  obtain⟨f0,f1,f2,f3,f4,f5⟩:=hf it (by simp)
  have W:=Walks.range (prog:=X.prog) (w:=X.w) (I.ok.hd hc) it lo 1 n
  refine W.item i s _ _ hg st fun v h' tk hv st' kk=>?_
  obtain⟨t,rfl⟩:=hv
  have I1:Inv X pins σ H { s with heap:=h',toks:=tk }:=I.turned (fun b o hb e=>kk b o (by simpa using hb) e) f0 f1 f3 f4 f5
  refine⟨_,rfl,zkV (s:={ s with heap:=h',toks:=tk }) (n := "range_iterator") st' rfl rfl (by decide) ⟨.int (lo+i),H,I1,⟨t,?_⟩,⟨rfl,rfl⟩,st',fun b hb=>(hf b hb).1⟩⟩
  rw[Int.mul_one]
 done:=by
  intro X hP hw hK hc i pins s σ H E I hf st hg
  subst hP hw hK
  obtain⟨f0,f1,f2,f3,f4,f5⟩:=hf it (by simp)
  exact wpAny_pyNext_range_end (I.ok.hd hc) st (by have:n<=i:=hg;omega) fun h' eb=>⟨rfl,I.turned (t':=s.toks) (fun b o hb e=>eb b o hb e) f0 f1 f3 f4 f5⟩
 self:=fun _ _ _ _ _ st h=>wpAny_pyIter_rangeiter st h
section
variable {X:Cx}{tg:Expr}
def zaG(K:Fg)(tl:TE):TI:=fun σ H R=>tl σ H fun x H1=>∃a,x=.ref a/\(∃xs,SqL K H1 a xs)/\R (Itl K a) H1
theorem zai{l:Expr}{tl:TE}(hl:PE X l tl):PI X tg l (zaG X.K tl):=by
 intro pins s σ H R I h
 refine thn (hl pins s σ H _ I h) fun v s1 zz=>?_
 obtain⟨x,H1,I1,r1,q1⟩:=zz
 obtain⟨a,e,⟨xs,hq⟩,q⟩:=q1
 subst e
 cases r1
 obtain⟨its,rv,p,hz⟩:=I1.list hq
 refine wpAny_pyIter_list p.isList ?_
 refine⟨s1.heap.objs.size,[s1.heap.objs.size],_,_,H1,rfl,I1.kept (t':=s1.toks) fun b o e=>Heap.get?_push_of_some _ e,zms a _,⟨_,Heap.get?_push_size _ rfl,rfl,rfl⟩,fun b hb=>?_,q⟩
 have e:b=s1.heap.objs.size:=by simpa using hb
 subst e
 exact I1.fpOk (yg _) (I1.hok.fresh (yg _))
theorem zjd{pins:List (Addr × Obj)}{σ:St}{H:Hp}{s:Shared}{R:It->Hp->Prop}{E:Value->Shared->Prop}{lo hi:Int}{t u v:Tok}{tk:Nat}(I:Inv X pins σ H s)(h1:-(2 ^ 62)<=lo)(h2:lo<2 ^ 62)(h3:-(2 ^ 62)<=hi)(h4:hi<2 ^ 62)
  (q:R (Itr lo (hi-lo).toNat) H):wpAny (model X.prog X.w) X.A (pyIter (.ref s.heap.objs.size)) (PIE X pins σ tg R) E { s with heap:=s.heap.push { cls:=.type "range",data:=.fields #[.int lo t,.int hi u,.int 1 v] },toks:=tk }:=by
 refine wpAny_pyIter_range (IsRange.new ..) (small_one h1 h2 h3 h4) ?_
 have I1:Inv X pins σ H { s with heap:=s.heap.push { cls:=.type "range",data:=.fields #[.int lo t,.int hi u,.int 1 v] },toks:=tk }:=I.kept fun b o e=>Heap.get?_push_of_some _ e
 refine⟨(s.heap.push { cls:=.type "range",data:=.fields #[.int lo t,.int hi u,.int 1 v] }).objs.size,[(s.heap.push { cls:=.type "range",data:=.fields #[.int lo t,.int hi u,.int 1 v] }).objs.size],_,_,H,rfl,
  I1.kept (t':=tk) fun b o e=>Heap.get?_push_of_some _ e,zlj _ lo (hi-lo).toNat,?_,fun b hb=>?_,q⟩
 ·have e1:lo+((0:Nat):Int)*1=lo:=by simp
  have e2:(((hi-lo).toNat:Nat):Int)-((0:Nat):Int)=Builtin.Range.rangeSize lo hi 1:=by rw[rangeSize_one];split<;>omega
  show IsRangeIter _ _ (lo+((0:Nat):Int)*1) ((((hi-lo).toNat:Nat):Int)-((0:Nat):Int)) 1
  rw[e1,e2]
  exact Heap.get?_push_size _ rfl
 ·have e:b=(s.heap.push { cls:=.type "range",data:=.fields #[.int lo t,.int hi u,.int 1 v] }).objs.size:=by simpa using hb
  subst e
  exact I1.fpOk (yg _) (I1.hok.fresh (yg _))
def zoF(ta:TA):TI:=fun σ H R=>ta σ H fun vs H1=>∃j:Int,vs=[.int j]/\-(2 ^ 62)<=j/\j<2 ^ 62/\R (Itr 0 j.toNat) H1
def zoD(ta:TA):TI:=fun σ H R=>ta σ H fun vs H1=>∃i j:Int,vs=[.int i,.int j]/\(-(2 ^ 62)<=i/\i<2 ^ 62/\-(2 ^ 62)<=j/\j<2 ^ 62)/\R (Itr i (j-i).toNat) H1
theorem zaS{a:Expr}{ta:TA}{p pos:Pos}(hg:Gl X "range")(hm:X.mg "range" = none)(ha:PA X [a] ta)(hs:autoParam (starEach [a] X.env=[(false,eval a X.env)]) Internal.aut2._auto_1):PI X tg (.Call (.Name "range" p) [a] [] pos) (zoF ta):=by
 intro pins s σ H R I h
 refine Call_ (zcQ I hg hm boot_range (yao (thn (ha pos pins s σ H _ I h) fun us s1 ⟨vs,H1,I1,r1,q1⟩=>?_) hs rfl))
 obtain⟨j,e,q1,q2,q⟩:=q1
 subst e
 cases r1 with
 | cons r rr=>
  cases rr
  obtain⟨t,rfl⟩:=r
  exact call_range_1 (zjd I1 (by omega) (by omega) q1 q2 (by simpa using q))
theorem zl0{a b:Expr}{ta:TA}{p pos:Pos}(hg:Gl X "range")(hm:X.mg "range" = none)(ha:PA X [a,b] ta)(hs:autoParam (starEach [a,b] X.env=[(false,eval a X.env),(false,eval b X.env)]) Internal.aut2._auto_1)(hs2:autoParam (starEach [b] X.env=[(false,eval b X.env)]) Internal.aut2._auto_1) :
  PI X tg (.Call (.Name "range" p) [a,b] [] pos) (zoD ta):=by
 intro pins s σ H R I h
 refine Call_ (zcQ I hg hm boot_range (yao (thn (ha pos pins s σ H _ I h) fun us s1 ⟨vs,H1,I1,r1,q1⟩=>?_) (by rw[hs,hs2]) (by rw[hs2];rfl)))
 obtain⟨i,j,e,⟨q1,q2,q3,q4⟩,q⟩:=q1
 subst e
 cases r1 with
 | cons r rr=>
  cases rr with
  | cons r' rr=>
   cases rr
   obtain⟨t,rfl⟩:=r
   obtain⟨t',rfl⟩:=r'
   exact call_range_2 (zjd I1 q1 q2 q3 q4 q)
def zqL(wi:TI)(g:TG)(tb:TS):TS:=fun D σ H=>wi σ H fun J H1=>∃W:Nat->Nat->St->Hp->Prop,(∃m,W 0 m σ H1)/\∀i m σ H,W i m σ H ->
 (J.stop i H/\D.nx σ H)\/(J.go i H/\∃N:St->Hp->Prop,(∀σ' H',N σ' H'->∃m',m'<m/\W (i+1) m' σ' H')/\∀x H',J.yld i H x H'->g x σ H' fun σ2 H2=>tb { D with nx:=N,ct:=N,bk:=D.nx } σ2 H2)
def zfj(fp:List Addr)(h:Heap):List (Addr × Obj):=fp.filterMap fun b=>(h.get? b).map fun o=>(b,o)
theorem zdN{fp:List Addr}{h:Heap}{b:Addr}{o:Obj}(hb:b∈fp)(e:h.get? b=some o):(b,o)∈zfj fp h:=List.mem_filterMap.mpr ⟨b,hb,by rw[e];rfl⟩
theorem zlW{fp:List Addr}{h:Heap}{p:Addr × Obj}(hp:p∈zfj fp h):p.1∈fp/\h.get? p.1=some p.2:=by
 obtain⟨b,hb,e⟩:=List.mem_filterMap.mp hp
 cases q:h.get? b with
 | none=>rw[q]at e;cases e
 | some o=>
  rw[q]at e
  have e':(b,o)=p:=yn e
  subst e'
  exact⟨hb,q⟩
theorem Inv.pinned{pins:List (Addr × Obj)}{σ:St}{H:Hp}{s:Shared}{fp:List Addr}(I:Inv X pins σ H s)(hf:∀b∈fp,zde X pins H b)(ho:∀b∈fp,∃o,s.heap.get? b=some o/\∀v,o.data≠.cell v):Inv X (pins++zfj fp s.heap) σ H s:=
 I.pins_of fun p hp=>(yR.mp hp).elim (fun z=>I.pin p (ym _ z)) fun z=>by
  obtain⟨hb,e⟩:=zlW z
  obtain⟨f0,f1,f2,_⟩:=hf p.1 hb
  obtain⟨o,e',d⟩:=ho p.1 hb
  rw[e]at e';cases e'
  exact⟨e,f0,f1,f2,d⟩
theorem Inv.unpinned{pins pl:List (Addr × Obj)}{σ:St}{H:Hp}{s:Shared}(I:Inv X (pins++pl) σ H s):Inv X pins σ H s:=I.pins_of fun p hp=>I.pin p (ym _ (yr _ hp))
theorem zau{iter:Expr}{body:List Stmt}{wi:TI}{g:TG}{tb:TS}{pos:Pos}(hp:PassesOwn (model X.prog X.w) X.A X.env X.xe)(hc:X.calm=true)(hi:PI X tg iter wi)(hg:PG X tg g)(hb:PSs X body tb)
  (hs:autoParam (∀x,foldedSetIterable iter X.env x=pure x) Internal.aut3._auto_1):PS X (.For tg iter body [] pos) (zqL wi g tb):=by
 intro pins s σ H D I h
 refine wpAny_For (thn (hi pins s σ H _ I h) fun v s1 h1=>thn h1 fun itv s2 h2=>?_) hs
 obtain⟨it,fp,tn,J,H2,e,I2,T,st2,f2,W,⟨m0,w0⟩,turn⟩:=h2
 subst e
 -- what stays true of the iterator's objects through the loop
 have stat:∀{H':Hp},(∀b∈fp,H' b=none)->∀b∈fp,zde X pins H' b:=fun hn b hb=>⟨hn b hb,(f2 b hb).2⟩
 refine codeAny_forLoop_any (fun n s'=>∃i σ' H',Inv X pins σ' H' s'/\tn i s'.heap/\(∀b∈fp,H' b=none)/\W i n σ' H') ?_ m0 ⟨0,σ,H2,I2,st2,fun b hb=>(f2 b hb).1,w0⟩
 rintro n s3 ⟨i,σ3,H3,I3,st3,fr3,w3⟩
 rcases turn i n σ3 H3 w3 with⟨stop,qn⟩ | ⟨go,N,hN,step⟩
 ·refine wpAny_passesOwn hp (thn (T.done X rfl rfl rfl hc i pins s3 σ3 H3 X.xe I3 (stat fr3) st3 stop) fun r s4 ⟨hr,I4⟩=>?_)
  subst hr
  exact wpAny_execs_nil ⟨σ3,H3,I4,qn⟩
 ·refine wpAny_passesOwn hp (thn (T.item X rfl rfl rfl hc i pins s3 σ3 H3 X.xe I3 (stat fr3) st3 go) fun r s4 ⟨u,hr,h4⟩=>?_)
  subst hr
  refine wpAny_passesOwn hp (thn h4 fun _ s5 zz=>?_)
  obtain⟨x,H5,I5,r5,y5,st5,fr5⟩:=zz
  have I5':=I5.pinned (stat fr5) (T.obj _ _ st5)
  refine wpAny_passesOwn hp (thn (hg _ s5 σ3 H5 x u _ I5' r5 (step x H5 y5)) fun _ s6 zz=>?_)
  obtain⟨σ6,H6,I6,q6⟩:=zz
  refine wpAny_passesOwn hp (thn (hb _ s6 σ6 H6 _ I6 q6) fun f s7 q7=>?_)
  have again:∀{σ7:St} {H7:Hp},Inv X (pins++zfj fp s5.heap) σ7 H7 s7->N σ7 H7->∃m,m<n/\∃i σ' H',Inv X pins σ' H' s7/\tn i s7.heap/\(∀b∈fp,H' b=none)/\W i m σ' H':=fun {σ7 H7} I7 n7=>by
   obtain⟨m',hm,w7⟩:=hN σ7 H7 n7
   refine⟨m',hm,i+1,σ7,H7,I7.unpinned,T.keep _ _ _ st5 fun b hb o e=>(I7.pin (b,o) (ym _ (ym _ (zdN hb e)))).1,fun b hb=>?_,w7⟩
   obtain⟨o,e,d⟩:=T.obj _ _ st5 b hb
   exact(I7.pin (b,o) (ym _ (ym _ (zdN hb e)))).2.1
  cases f with
  | next=>obtain⟨σ7,H7,I7,n7⟩:=q7;exact again I7 n7
  | cont=>obtain⟨σ7,H7,I7,n7⟩:=q7;exact again I7 n7
  | brk=>obtain⟨σ7,H7,I7,q7⟩:=q7;exact⟨σ7,H7,I7.unpinned,q7⟩
  | ret v=>obtain⟨x7,σ7,H7,I7,r7,q7⟩:=q7;exact⟨x7,σ7,H7,I7.unpinned,r7,q7⟩
end
theorem znO{K:Fg}{a:Addr}{xs:List V}{g:TG}{tb:TS}{D:Ends}{σ:St}{H:Hp}(Pv:Nat->St->Hp->Prop)(h0:Pv 0 σ H)(hl:∀i σ H,i<=xs.length->Pv i σ H->SqL K H a xs)
  (hs:∀i x σ H,xs[i]?=some x->Pv i σ H->g x σ H fun σ2 H2=>tb { D with nx:=Pv (i+1),ct:=Pv (i+1),bk:=D.nx } σ2 H2) (hd:∀σ H,Pv xs.length σ H->D.nx σ H) :
  ∃W:Nat->Nat->St->Hp->Prop,(∃m,W 0 m σ H)/\∀i m σ H,W i m σ H ->
   ((Itl K a).stop i H/\D.nx σ H)\/((Itl K a).go i H/\∃N:St->Hp->Prop,(∀σ' H',N σ' H'->∃m',m'<m/\W (i+1) m' σ' H')/\∀x H',(Itl K a).yld i H x H'->g x σ H' fun σ2 H2=>tb { D with nx:=N,ct:=N,bk:=D.nx } σ2 H2):=by
 refine⟨fun i m σ H=>m=xs.length-i/\i<=xs.length/\Pv i σ H,⟨xs.length,by simp,yF _,h0⟩,?_⟩
 rintro i m σ H ⟨rfl,hi,p⟩
 have q:=hl i σ H hi p
 by_cases hlt:i<xs.length
 ·refine .inr ⟨⟨xs,xs[i],q,by simp[hlt]⟩,Pv (i+1),fun σ' H' p'=>⟨xs.length-(i+1),by omega,rfl,hlt,p'⟩,fun x H' y=>?_⟩
  obtain⟨e,y⟩:=y
  subst e
  exact hs i x σ _ (y xs q) p
 ·have e:i=xs.length:=by omega
  subst e
  exact .inl ⟨⟨xs,q,yg _⟩,hd σ H p⟩
theorem zlX{lo:Int}{n:Nat}{g:TG}{tb:TS}{D:Ends}{σ:St}{H:Hp}(Pv:Nat->St->Hp->Prop)(h0:Pv 0 σ H)
  (hs:∀i σ H,i<n->Pv i σ H->g (.int (lo+i)) σ H fun σ2 H2=>tb { D with nx:=Pv (i+1),ct:=Pv (i+1),bk:=D.nx } σ2 H2) (hd:∀σ H,Pv n σ H->D.nx σ H) :
  ∃W:Nat->Nat->St->Hp->Prop,(∃m,W 0 m σ H)/\∀i m σ H,W i m σ H ->
   ((Itr lo n).stop i H/\D.nx σ H)\/((Itr lo n).go i H/\∃N:St->Hp->Prop,(∀σ' H',N σ' H'->∃m',m'<m/\W (i+1) m' σ' H')/\∀x H',(Itr lo n).yld i H x H'->g x σ H' fun σ2 H2=>tb { D with nx:=N,ct:=N,bk:=D.nx } σ2 H2):=by
 refine⟨fun i m σ H=>m=n-i/\i<=n/\Pv i σ H,⟨n,by simp,yF _,h0⟩,?_⟩
 rintro i m σ H ⟨rfl,hi,p⟩
 by_cases hlt:i<n
 ·refine .inr ⟨hlt,Pv (i+1),fun σ' H' p'=>⟨n-(i+1),by omega,rfl,hlt,p'⟩,fun x H' y=>?_⟩
  obtain⟨e,y⟩:=y
  subst e y
  exact hs i σ _ hlt p
 ·have e:i=n:=by omega
  subst e
  exact .inl ⟨yg _,hd σ H p⟩
abbrev R2:=V->V->Hp->VK->Prop
def OpR(X:Cx)(f:Value->Value->Sem Value)(r:R2):Prop:=
 ∀(pins:List (Addr × Obj)) (s:Shared) (σ:St) (H:Hp) (x y:V) (v u:Value) (Q:VK),Inv X pins σ H s->RelV x v->RelV y u->r x y H Q ->
  wpAny (model X.prog X.w) X.A (f v u) (EP X pins σ Q) X.xe s
def UnR(X:Cx)(f:Value->Sem Value)(r:V->Hp->VK->Prop):Prop:=
 ∀(pins:List (Addr × Obj)) (s:Shared) (σ:St) (H:Hp) (x:V) (v:Value) (Q:VK),Inv X pins σ H s->RelV x v->r x H Q ->
  wpAny (model X.prog X.w) X.A (f v) (EP X pins σ Q) X.xe s
def CallR(X:Cx)(f:Value)(r:List V->Hp->VK->Prop):Prop:=
 ∀(pins:List (Addr × Obj)) (s:Shared) (σ:St) (H:Hp) (xs:List V) (us:List Value) (Q:VK),Inv X pins σ H s->Vals xs us->r xs H Q ->
  wpAny (model X.prog X.w) X.A (call f us) (EP X pins σ Q) X.xe s
def zrP(X:Cx)(r:V->Hp->(Bool->Hp->Prop)->Prop):Prop:=
 ∀(pins:List (Addr × Obj)) (s:Shared) (σ:St) (H:Hp) (x:V) (v:Value) (Q:Bool->Hp->Prop),Inv X pins σ H s->RelV x v->r x H Q ->
  wpAny (model X.prog X.w) X.A (truthy v) (TP X pins σ Q) X.xe s
abbrev tOp(r:R2)(ta tb:TE):TE:=fun σ H Q=>ta σ H fun x H1=>tb σ H1 fun y H2=>r x y H2 Q
abbrev tUn(r:V->Hp->VK->Prop)(ta:TE):TE:=fun σ H Q=>ta σ H fun x H1=>r x H1 Q
def rI(C:Int->Int->Prop)(g:Int->Int->V):R2:=fun x y H Q=>∃i j,x=.int i/\y=.int j/\C i j/\Q (g i j) H
def rI0(g:Int->Int->V):R2:=fun x y H Q=>∃i j,x=.int i/\y=.int j/\Q (g i j) H
def rU(g:Int->V):V->Hp->VK->Prop:=fun x H Q=>∃i,x=.int i/\Q (g i) H
section
variable {X:Cx}{a b c:Expr}{ta tb tc:TE}{pos:Pos}
theorem znE(ha:PE X a ta)(hb:PE X b tb){pins:List (Addr × Obj)}{s:Shared}{σ:St}{H:Hp}{R:V->V->Hp->Prop}(I:Inv X pins σ H s)
  (h:ta σ H fun x H1=>tb σ H1 fun y H2=>R x y H2) {Q:Value->Shared->Prop} {f:Value->Value->Sem Value}
  (hf:∀v u s2 x y H2,Inv X pins σ H2 s2->RelV x v->RelV y u->R x y H2->wpAny (model X.prog X.w) X.A (f v u) Q X.xe s2) :
  wpAny (model X.prog X.w) X.A (eval a X.env) (fun v s₁=>wpAny (model X.prog X.w) X.A (eval b X.env) (fun u s₂=>wpAny (model X.prog X.w) X.A (f v u) Q X.xe s₂) X.xe s₁) X.xe s:=by
 refine thn (ha pins s σ H _ I h) fun v s1 zz=>?_
 obtain⟨x,H1,I1,r1,q1⟩:=zz
 refine thn (hb pins s1 σ H1 _ I1 q1) fun u s2 zz=>?_
 obtain⟨y,H2,I2,r2,q2⟩:=zz
 exact hf v u s2 x y H2 I2 r1 r2 q2
theorem zJ{op:Operator}{r:R2}(ho:OpR X (binaryOp op) r)(ha:PE X a ta)(hb:PE X b tb):PE X (.BinOp a op b pos) (tOp r ta tb):=by
 intro pins s σ H Q I h
 exact wpAny_BinOp (znE ha hb I h fun v u s2 x y H2 I2 rx ry q=>ho pins s2 σ H2 x y v u Q I2 rx ry q)
theorem zew{op:UnaryOp}{r:V->Hp->VK->Prop}(ho:UnR X (unaryOp op) r)(ha:PE X a ta):PE X (.UnaryOp op a pos) (tUn r ta):=by
 intro pins s σ H Q I h
 exact UnaryOp_ (thn (ha pins s σ H _ I h) fun v s1 ⟨x,H1,I1,r1,q1⟩=>ho pins s1 σ H1 x v Q I1 r1 q1)
theorem opI{f:Value->Value->Sem Value}{C:Int->Int->Prop}{g:Int->Int->Int}
  (rule:∀(i j:Int) (t u:Tok) (s:Shared) (Q:Value->Shared->Prop) (E:Value->Shared->Prop),C i j->Q (.int (g i j) s.toks) { s with toks:=s.toks+1 }->wpAny (model X.prog X.w) X.A (f (.int i t) (.int j u)) Q E s) :
  OpR X f (rI C fun i j=>.int (g i j)):=by
 intro pins s σ H x y v u Q I rx ry h
 obtain⟨i,j,rfl,rfl,hc,q⟩:=h
 obtain⟨t,rfl⟩:=rx
 obtain⟨t',rfl⟩:=ry
 exact rule i j t t' s _ _ hc ⟨.int (g i j),H,I.tok _,⟨_,rfl⟩,q⟩
theorem zqX{f:Value->Value->Sem Value}{g:Int->Int->Int}
  (rule:∀(i j:Int) (t u:Tok) (s:Shared) (Q:Value->Shared->Prop) (E:Value->Shared->Prop),Q (.int (g i j) s.toks) { s with toks:=s.toks+1 }->wpAny (model X.prog X.w) X.A (f (.int i t) (.int j u)) Q E s) :
  OpR X f (rI0 fun i j=>.int (g i j)):=by
 intro pins s σ H x y v u Q I rx ry h
 obtain⟨i,j,rfl,rfl,q⟩:=h
 obtain⟨t,rfl⟩:=rx
 obtain⟨t',rfl⟩:=ry
 exact rule i j t t' s _ _ ⟨.int (g i j),H,I.tok _,⟨_,rfl⟩,q⟩
theorem znM{f:Value->Value->Sem Value}{g:Int->Int->Bool}
  (rule:∀(i j:Int) (t u:Tok) (s:Shared) (Q:Value->Shared->Prop) (E:Value->Shared->Prop),Q (.bool (g i j)) s->wpAny (model X.prog X.w) X.A (f (.int i t) (.int j u)) Q E s) :
  OpR X f (rI0 fun i j=>.bl (g i j)):=by
 intro pins s σ H x y v u Q I rx ry h
 obtain⟨i,j,rfl,rfl,q⟩:=h
 obtain⟨t,rfl⟩:=rx
 obtain⟨t',rfl⟩:=ry
 exact rule i j t t' s _ _ ⟨.bl (g i j),H,I,rfl,q⟩
def zlt(i j:Int):Prop:=0<=j/\j<=1000000/\i.natAbs<2 ^ 64
theorem op_add:OpR X (binaryOp .Add) (rI0 fun i j=>.int (i+j)):=zqX fun _ _ _ _ _ _ _ q=>add_int q
theorem zjx:OpR X (binaryOp .Sub) (rI0 fun i j=>.int (i-j)):=zqX fun _ _ _ _ _ _ _ q=>sub_int q
theorem zo4:OpR X (binaryOp .Mod) (rI (fun _ j=>j≠0) fun i j=>.int (i.fmod j)):=opI fun _ _ _ _ _ _ _ hc q=>mod_int' hc q
theorem zlM:OpR X (binaryOp .Pow) (rI zlt fun i j=>.int (i ^ j.toNat)):=opI fun _ _ _ _ _ _ _ hc q=>pow_int_small hc.1 hc.2.1 hc.2.2 q
theorem unI{f:Value->Sem Value}{g:Int->Int}
  (rule:∀(i:Int) (t:Tok) (s:Shared) (Q:Value->Shared->Prop) (E:Value->Shared->Prop),Q (.int (g i) s.toks) { s with toks:=s.toks+1 }->wpAny (model X.prog X.w) X.A (f (.int i t)) Q E s) :
  UnR X f (rU fun i=>.int (g i)):=by
 intro pins s σ H x v Q I rx h
 obtain⟨i,rfl,q⟩:=h
 obtain⟨t,rfl⟩:=rx
 exact rule i t s _ _ ⟨.int (g i),H,I.tok _,⟨_,rfl⟩,q⟩
theorem zd7:UnR X (unaryOp .USub) (rU fun i=>.int (-i)):=unI fun _ _ _ _ _ q=>neg_int q
end
def scal:V->V->Bool
 | .non,.non=>true | .non,.int _=>true | .int _,.non=>true | .non,.bl _=>true | .bl _,.non=>true | .non,.str _=>true | .str _,.non=>true
 | .int _,.int _=>true | .bl _,.bl _=>true | .str _,.str _=>true | .byt _,.byt _=>true
 | .int _,.str _=>true | .str _,.int _=>true | .bl _,.str _=>true | .str _,.bl _=>true
 | _,_=>false
def rEq:R2:=fun x y H Q=>scal x y=true/\Q (.bl (decide (x=y))) H
def rNe:R2:=fun x y H Q=>scal x y=true/\Q (.bl (!decide (x=y))) H
theorem zkl{i j:Int}:decide (V.int i=V.int j)=(i == j):=by
 rw[ybq]
 simp
theorem zm1{i j:Bool}:decide (V.bl i=V.bl j)=(i == j):=by
 rw[ybq]
 simp
theorem zkz{i j:Str}:decide (V.str i=V.str j)=(i == j):=by
 rw[ybq]
 simp
theorem zkD{i j:Array UInt8}:decide (V.byt i=V.byt j)=(i.toList == j.toList):=by
 rw[ybq]
 cases i
 cases j
 simp
section
variable {X:Cx}{a b c:Expr}{ta tb tc:TE}{pos:Pos}
theorem zag{pins:List (Addr × Obj)}{σ:St}{H:Hp}{s:Shared}{Q:VK}{k k':Bool}(I:Inv X pins σ H s)(q:Q (.bl k) H)(e:k=k'):EP X pins σ Q (.bool k') s:=by
 subst e
 exact⟨.bl k,H,I,rfl,q⟩
theorem zri:OpR X (compareOp .Eq) rEq:=by
 intro pins s σ H x y v u Q I rx ry h
 obtain⟨hs,q⟩:=h
 cases x with
 | non=>
  cases rx
  cases y with
  | non=>cases ry;exact PySem.EqNone.eq_none_none (zag I q (by simp))
  | bl j=>cases ry;exact PySem.EqNone.eq_none_bool (zag I q (by simp))
  | int j=>obtain⟨t',rfl⟩:=ry;exact PySem.EqNone.eq_none_int (zag I q (by simp))
  | str j=>obtain⟨t',rfl⟩:=ry;exact PySem.EqNone.eq_none_str (zag I q (by simp))
  | _=>exact absurd (show false=true from hs) yt
 | bl i=>
  cases rx
  cases y with
  | non=>cases ry;exact PySem.EqNone.eq_bool_none (zag I q (by simp))
  | bl j=>cases ry;exact eq_bool (zag I q zm1)
  | str j=>obtain⟨t',rfl⟩:=ry;exact PySem.EqMixed.eq_bool_str (zag I q (by simp))
  | _=>exact absurd (show false=true from hs) yt
 | int i=>
  obtain⟨t,rfl⟩:=rx
  cases y with
  | non=>cases ry;exact PySem.EqNone.eq_int_none (zag I q (by simp))
  | int j=>obtain⟨t',rfl⟩:=ry;exact eq_int (zag I q zkl)
  | str j=>obtain⟨t',rfl⟩:=ry;exact PySem.EqMixed.eq_int_str (zag I q (by simp))
  | _=>exact absurd (show false=true from hs) yt
 | str i=>
  obtain⟨t,rfl⟩:=rx
  cases y with
  | non=>cases ry;exact PySem.EqNone.eq_str_none (zag I q (by simp))
  | bl j=>cases ry;exact PySem.EqMixed.eq_str_bool (zag I q (by simp))
  | int j=>obtain⟨t',rfl⟩:=ry;exact PySem.EqMixed.eq_str_int (zag I q (by simp))
  | str j=>obtain⟨t',rfl⟩:=ry;exact eq_str (zag I q zkz)
  | _=>exact absurd (show false=true from hs) yt
 | byt i=>
  obtain⟨t,rfl⟩:=rx
  cases y with
  | byt j=>obtain⟨t',rfl⟩:=ry;exact PySem.W.eq_bytes (zag I q zkD)
  | _=>exact absurd (show false=true from hs) yt
 | _=>cases y<;>exact absurd (show false=true from hs) yt
theorem zru:OpR X (compareOp .NotEq) rNe:=by
 intro pins s σ H x y v u Q I rx ry h
 obtain⟨hs,q⟩:=h
 cases x with
 | non=>
  cases rx
  cases y with
  | non=>cases ry;exact PySem.EqNone.ne_none_none (zag I q (by simp))
  | bl j=>cases ry;exact PySem.EqNone.ne_none_bool (zag I q (by simp))
  | int j=>obtain⟨t',rfl⟩:=ry;exact PySem.EqNone.ne_none_int (zag I q (by simp))
  | str j=>obtain⟨t',rfl⟩:=ry;exact PySem.EqNone.ne_none_str (zag I q (by simp))
  | _=>exact absurd (show false=true from hs) yt
 | bl i=>
  cases rx
  cases y with
  | non=>cases ry;exact PySem.EqNone.ne_bool_none (zag I q (by simp))
  | bl j=>cases ry;exact ne_bool (zag I q (congrArg not zm1))
  | str j=>obtain⟨t',rfl⟩:=ry;exact PySem.EqMixed.ne_bool_str (zag I q (by simp))
  | _=>exact absurd (show false=true from hs) yt
 | int i=>
  obtain⟨t,rfl⟩:=rx
  cases y with
  | non=>cases ry;exact PySem.EqNone.ne_int_none (zag I q (by simp))
  | int j=>obtain⟨t',rfl⟩:=ry;exact ne_int (zag I q (congrArg not zkl))
  | str j=>obtain⟨t',rfl⟩:=ry;exact PySem.EqMixed.ne_int_str (zag I q (by simp))
  | _=>exact absurd (show false=true from hs) yt
 | str i=>
  obtain⟨t,rfl⟩:=rx
  cases y with
  | non=>cases ry;exact PySem.EqNone.ne_str_none (zag I q (by simp))
  | bl j=>cases ry;exact PySem.EqMixed.ne_str_bool (zag I q (by simp))
  | int j=>obtain⟨t',rfl⟩:=ry;exact PySem.EqMixed.ne_str_int (zag I q (by simp))
  | str j=>obtain⟨t',rfl⟩:=ry;exact ne_str (zag I q (congrArg not zkz))
  | _=>exact absurd (show false=true from hs) yt
 | byt i=>
  obtain⟨t,rfl⟩:=rx
  cases y with
  | byt j=>obtain⟨t',rfl⟩:=ry;exact PySem.W.ne_bytes (zag I q (congrArg not zkD))
  | _=>exact absurd (show false=true from hs) yt
 | _=>cases y<;>exact absurd (show false=true from hs) yt
theorem zcy:OpR X (compareOp .Lt) (rI0 fun i j=>.bl (decide (i<j))):=znM fun _ _ _ _ _ _ _ q=>lt_int q
theorem zrq:OpR X (compareOp .LtE) (rI0 fun i j=>.bl (decide (i<=j))):=znM fun _ _ _ _ _ _ _ q=>le_int q
theorem zcR:OpR X (compareOp .Gt) (rI0 fun i j=>.bl (decide (j<i))):=znM fun _ _ _ _ _ _ _ q=>gt_int q
theorem zff:OpR X (compareOp .Is) (fun x y H Q=>y=.non/\Q (.bl (decide (x=.non))) H):=by
 intro pins s σ H x y v u Q I rx ry h
 obtain⟨rfl,q⟩:=h
 cases ry
 refine is_none_gen (zag I q ?_)
 cases x<;>first
  | (cases rx;rfl)
  | (obtain⟨t,rfl⟩:=rx;rfl)
theorem zhy:OpR X (compareOp .IsNot) (fun x y H Q=>y=.non/\Q (.bl (!decide (x=.non))) H):=by
 intro pins s σ H x y v u Q I rx ry h
 obtain⟨rfl,q⟩:=h
 cases ry
 refine isnot_none_gen (zag I q ?_)
 cases x<;>first
  | (cases rx;rfl)
  | (obtain⟨t,rfl⟩:=rx;rfl)
theorem OpR.or{f:Value->Value->Sem Value}{r r':R2}(h:OpR X f r)(h':OpR X f r'):OpR X f (fun x y H Q=>r x y H Q\/r' x y H Q):=by
 intro pins s σ H x y v u Q I rx ry q
 rcases q with q | q
 ·exact h pins s σ H x y v u Q I rx ry q
 ·exact h' pins s σ H x y v u Q I rx ry q
theorem nomark(b:Expr){op:CmpOp}(h:autoParam (op≠.In) Internal.aut1._auto_1)(h2:autoParam (op≠.NotIn) Internal.aut1._auto_1):behindInMarks op b=false:=by
 have e1:(op == CmpOp.In)=false:=by cases op<;>first | rfl | exact absurd rfl h
 have e2:(op == CmpOp.NotIn)=false:=by cases op<;>first | rfl | exact absurd rfl h2
 cases b<;>simp[behindInMarks,e1,e2]
theorem zcO{op:CmpOp}{r:R2}(ho:OpR X (compareOp op) r)(ha:PE X a ta)(hb:PE X b tb)(hm:behindInMarks op b=false):PE X (.Compare a [op] [b] pos) (tOp r ta tb):=by
 intro pins s σ H Q I h
 exact wpAny_Compare1 (znE ha hb I h fun v u s2 x y H2 I2 rx ry q=>ho pins s2 σ H2 x y v u Q I2 rx ry q) hm
abbrev zoI(t:TE):TT:=fun σ H Q=>t σ H fun x H'=>∃k,x=.bl k/\Q k H'
theorem zK{op:CmpOp}{r:R2}(ho:OpR X (compareOp op) r)(ha:PE X a ta)(hb:PE X b tb)(hm:behindInMarks op b=false):PT X (.Compare a [op] [b] pos) (zoI (tOp r ta tb)):=by
 intro pins s σ H Q I h
 refine wpAny_isTrue_Compare1 (thn (ha pins s σ H _ I h) fun v s1 ⟨x,H1,I1,r1,q1⟩=>thn (hb pins s1 σ H1 _ I1 q1) fun u s2 ⟨y,H2,I2,r2,q2⟩=>
  thn (ho pins s2 σ H2 x y v u _ I2 r1 r2 q2) fun c s3 ⟨z,H3,I3,r3,k,e,q3⟩=>?_) hm
 subst e
 cases r3
 exact wpAny_truthy_bool ⟨H3,I3,q3⟩
def zmW(r r':R2)(ta tb tc:TE):TE:=fun σ H Q=>ta σ H fun x H1=>tb σ H1 fun y H2=>r x y H2 fun z H3=>∃k,z=.bl k /\
 (if k=true then tc σ H3 fun w' H4=>r' y w' H4 Q else Q (.bl false) H3)
theorem znL{op op':CmpOp}{r r':R2}(ho:OpR X (compareOp op) r)(ho':OpR X (compareOp op') r')(ha:PE X a ta)(hb:PE X b tb)(hc:PE X c tc)
  (hm:autoParam (lastMarks [op,op'] [b,c]=false) Internal.aut5._auto_1):PT X (.Compare a [op,op'] [b,c] pos) (zoI (zmW r r' ta tb tc)):=by
 intro pins s σ H Q I h
 refine isTrue_chain (thn (ha pins s σ H _ I h) fun v s1 ⟨x,H1,I1,r1,q1⟩=>test_link (thn (hb pins s1 σ H1 _ I1 q1) fun u s2 ⟨y,H2,I2,r2,q2⟩=>
  thn (ho pins s2 σ H2 x y v u _ I2 r1 r2 q2) fun d s3 ⟨z,H3,I3,r3,k,e,q3⟩=>?_)) hm
 subst e
 cases r3
 refine wpAny_truthy_bool ?_
 cases k with
 | false=>
  obtain⟨k',e',q'⟩:=q3
  cases e'
  exact ite_ff ⟨H3,I3,q'⟩
 | true=>
  refine ite_tt (test_last (thn (hc pins s3 σ H3 _ I3 q3) fun w' s4 ⟨z',H4,I4,r4,q4⟩=>thn (ho' pins s4 σ H4 y z' u w' _ I4 r2 r4 q4) fun d' s5 zz=>?_))
  obtain⟨z2,H5,I5,r5,k2,e2,q5⟩:=zz
  subst e2
  cases r5
  exact wpAny_truthy_bool ⟨H5,I5,q5⟩
def zhg(K:Fg)(x:V)(H:Hp)(k:Bool):Prop:=
 match x with
 | .non=>k=false
 | .bl b=>k=b
 | .int i=>k=(i != 0)
 | .str y=>y.length<=sizeLine/\k=((y.length:Int) != 0)
 | .byt y=>y.size<=sizeLine/\k=((y.size:Int) != 0)
 | .ref p=>(∃xs,SqL K H p xs/\k=!xs.isEmpty)\/(∃xs,SqT K H p xs/\k=!xs.isEmpty)\/∃kvs,H p=some (.dK kvs)/\k=!kvs.isEmpty
 | _=>False
theorem zld{κ:Type}{kvs:List (κ × V)}{vs:List (κ × Value)}(r:KV kvs vs):(!vs.isEmpty)=!kvs.isEmpty:=by
 cases r<;>rfl
theorem zgN{xs:List V}{its:List Value}(r:Vals xs its):(!its.toArray.isEmpty)=!xs.isEmpty:=by
 cases r<;>simp
theorem line63:(sizeLine:Nat)<2 ^ 63:=by rw[sizeLine_eq];decide
theorem zl3:zrP X (fun x H Q=>∃k,zhg X.K x H k/\Q k H):=by
 intro pins s σ H x v Q I rx h
 obtain⟨k,e,q⟩:=h
 have hl:=line63
 have hs:sizeLine=16777216:=sizeLine_eq
 cases x with
 | non=>
  cases rx
  have e':k=false:=e
  subst e'
  exact truthy_none ⟨H,I,q⟩
 | bl b=>
  cases rx
  have e':k=b:=e
  subst e'
  exact wpAny_truthy_bool ⟨H,I,q⟩
 | int i=>
  obtain⟨t,rfl⟩:=rx
  have e':k=(i != 0):=e
  subst e'
  exact PySem.P.truthy_int ⟨H,I,q⟩
 | str y=>
  obtain⟨t,rfl⟩:=rx
  obtain⟨hy,e'⟩:y.length<=sizeLine/\k=((y.length:Int) != 0):=e
  subst e'
  exact PySem.P.truthy_str (by omega) ⟨H,I.tok _,q⟩
 | byt y=>
  obtain⟨t,rfl⟩:=rx
  obtain⟨hy,e'⟩:y.size<=sizeLine/\k=((y.size:Int) != 0):=e
  subst e'
  exact PySem.W.truthy_bytes (by omega) ⟨H,I.tok _,q⟩
 | ref p=>
  cases rx
  have e':(∃xs,SqL X.K H p xs/\k=!xs.isEmpty)\/(∃xs,SqT X.K H p xs/\k=!xs.isEmpty)\/∃kvs,H p=some (.dK kvs)/\k=!kvs.isEmpty:=e
  rcases e' with⟨xs,hx,e'⟩ | ⟨xs,hx,e'⟩ | ⟨kvs,hx,e'⟩
  ·subst e'
   obtain⟨its,r,pl,hz⟩:=I.list hx
   have hlen:=r.length
   exact wpAny_truthy_list pl.isList (by simp only[yq];omega) ⟨H,I.tok _,by rw[zgN r];exact q⟩
  ·subst e'
   obtain⟨its,r,pl,hz⟩:=I.tuple hx
   have hlen:=r.length
   exact truthy_tuple pl (by simp only[yq];omega) ⟨H,I.tok _,by rw[zgN r];exact q⟩
  ·subst e'
   obtain⟨hz,hS,vs,r,m⟩:kvs.length<=sizeLine/\(p == sysModules)=false/\∃vs,KV kvs vs/\s.heap.DictOf (zg4 X.prog X.w) p vs:=I.hok p _ hx
   have hlen:kvs.length=vs.length:=Paired.length r
   exact wpAny_truthy_dict hS m (by omega) ⟨H,I.tok _,by rw[zld r];exact q⟩
 | _=>exact(show False from e).elim
theorem zne(ha:PE X a ta)(he:∀whole,isTrue a X.env whole=(do let v <- whole;standAt a.pos;holding [v] (truthy v))) :
  PT X a (fun σ H Q=>ta σ H fun x H'=>∃k,zhg X.K x H' k/\Q k H'):=by
 intro pins s σ H Q I h
 exact isTrue_plain (thn (ha pins s σ H _ I h) fun v s1 ⟨x,H1,I1,r1,q1⟩=>zl3 pins s1 σ H1 x v Q I1 r1 q1) (he _)
theorem vals1{x:V}{us:List Value}(r:Vals [x] us):∃u,us=[u]/\RelV x u:=by
 cases r with
 | cons r1 r2=>cases r2;exact⟨_,rfl,r1⟩
theorem vals2{x y:V}{us:List Value}(r:Vals [x,y] us):∃u w',us=[u,w']/\RelV x u/\RelV y w':=by
 cases r with
 | cons r1 r2=>
  cases r2 with
  | cons r3 r4=>cases r4;exact⟨_,_,rfl,r1,r3⟩
theorem zod:CallR X (.builtin "abs") (fun xs H Q=>∃i,xs=[.int i]/\Q (.int (if i<0 then -i else i)) H):=by
 intro pins s σ H xs us Q I r h
 obtain⟨i,rfl,q⟩:=h
 obtain⟨u,rfl,t,rfl⟩:=vals1 r
 exact call_abs_int fun u tk=>⟨.int (if i<0 then -i else i),H,I.tok _,⟨_,rfl⟩,q⟩
theorem zlJ(hc:X.calm=true):CallR X (.builtin "max") (fun xs H Q=>∃i j,xs=[.int i,.int j]/\Q (.int (if j>i then j else i)) H):=by
 intro pins s σ H xs us Q I r h
 obtain⟨i,j,rfl,q⟩:=h
 obtain⟨u,w',rfl,⟨t,rfl⟩,⟨t',rfl⟩⟩:=vals2 r
 refine max_two_ints (I.ok.hd hc) fun h' tk k=>⟨_,H,I.kept k,?_,q⟩
 by_cases hj:j>i
 ·rw[if_pos hj,if_pos hj];exact⟨_,rfl⟩
 ·rw[if_neg hj,if_neg hj];exact⟨_,rfl⟩
theorem zl6(hc:X.calm=true):CallR X (.builtin "min") (fun xs H Q=>∃i j,xs=[.int i,.int j]/\Q (.int (if j<i then j else i)) H):=by
 intro pins s σ H xs us Q I r h
 obtain⟨i,j,rfl,q⟩:=h
 obtain⟨u,w',rfl,⟨t,rfl⟩,⟨t',rfl⟩⟩:=vals2 r
 refine min_two_ints (I.ok.hd hc) fun h' tk k=>⟨_,H,I.kept k,?_,q⟩
 by_cases hj:j<i
 ·rw[if_pos hj,if_pos hj];exact⟨_,rfl⟩
 ·rw[if_neg hj,if_neg hj];exact⟨_,rfl⟩
end
set_option genInjectivity false in
set_option genSizeOf false in
structure ObjM(h:Heap)(x dx C:Addr)(mA:Str->Option Value):Prop where
 obj:h.get? x=some (PySem.W.instObj C dx)
 ns:h.Ns1 dx mA
 ne:dx≠x
theorem zmP{h:Heap}{dx:Addr}{mA:Str->Option Value}(n:h.Ns1 dx mA):∃od,h.get? dx=some od/\∀name,PySem.W.lookIn name od=some (mA name):=by
 obtain⟨o,es,ep,ho,hd,hk,_,hm⟩:=n
 refine⟨o,ho,fun name=>?_⟩
 have e:=hm name
 unfold nsFind findBy at e
 rw[<- Array.find?_toList]at e
 unfold PySem.W.lookIn
 rw[hd]
 dsimp only
 split
 ·rename_i y q
  rw[q]at e
  exact congrArg some e
 ·rename_i q
  rw[q]at e
  have a:es.toList.any (·.refKey)=false:=by
   rw[List.any_eq_false]
   intro y hy
   obtain⟨z,t,hkey⟩:=hk y (Array.mem_toList_iff.mp hy)
   simp[DictEntry.refKey,hkey]
  have a':¬es.toList.any (·.refKey)=true:=by rw[a];exact yt
  rw[if_neg a']
  exact congrArg some e
theorem ObjM.look{h:Heap}{x dx C:Addr}{mA:Str->Option Value}(I:ObjM h x dx C mA):∃od,PySem.W.InstAt h x (PySem.W.instObj C dx) C (some od)/\∀name,PySem.W.lookIn name od=some (mA name):=
 let ⟨od,ho,hl⟩:=zmP I.ns
 ⟨od,⟨I.obj,rfl,rfl,ho⟩,hl⟩
section
variable {prog:Program}{w:World}{A:Around}{E:Value->Shared->Prop}{s:Shared}{K:Fg}{x dx C f:Addr}{mA:Str->Option Value}{name:Str}{v:Value}
end
def zjG(f:Str)(v:V):List (Str × V)->List (Str × V)
 | []=>[(f,v)]
 | (g,x) :: r=>if g=f then(g,v) :: r else(g,x) :: zjG f v r
section
variable {P:Program}{w:World}{H H':Hp}{h h':Heap}{a C dx:Addr}{fs fs':List (Str × V)}
theorem zpl(hok:HOk P w H h)(e:H a=some (.ins C dx fs)):∃mA,ObjM h a dx C mA/\(∀f,zop (fs.lookup f) (mA f))/\PySem.Within mA (fs.map (·.1))/\fs.length<=1000/\H dx=some (.own a):=by
 obtain⟨d,z,ne,ob,mA,n,r,q⟩:=(show ObjOk P w H h a (.ins C dx fs)from hok a _ e)
 exact⟨mA,⟨ob,n,ne⟩,r,q,z,d⟩
end
set_option genInjectivity false in
set_option genSizeOf false in
structure Cls(K:Fg)(C:Addr):Prop where
 pg:PySem.W.plainGet K C Str.empty=true
 hd:PySem.W.hasDictIn K C=true
 po:PySem.W.plainOver K C=true
 sa:PySem.W.findIn K (.ref C) "__setattr__" = some (some (.builtin "object.__setattr__"))
theorem Cls.get{K:Fg}{C:Addr}(c:Cls K C)(f:Str):PySem.W.plainGet K C f=true:=c.pg
set_option genInjectivity false in
set_option genSizeOf false in
structure Con(K:Fg)(C:Addr)(f:Str)(v:V)(u:Value):Prop where
 at_:PySem.W.findIn K (.ref C) f=some (some u)
 rel:RelV v u
 get:PySem.W.specialIn K u "__get__" = some none
 cp:PySem.W.copiedNames.contains f=false
set_option genInjectivity false in
set_option genSizeOf false in
structure Meth(K:Fg)(C:Addr)(m:Str)(f:Addr):Prop where
 at_:PySem.W.findIn K (.ref C) m=some (some (.ref f))
 fn:PySem.W.isFn K (.ref f)=true
 kp:PySem.W.keepIn K (.ref f)=true
section
variable {X:Cx}{pins:List (Addr × Obj)}{σ:St}{H:Hp}{s:Shared}{a C dx:Addr}{fs:List (Str × V)}{f:Str}{v:V}{A:Around}{E:Value->Shared->Prop}
end
section
variable {X:Cx}{o e value:Expr}{f:Str}{pos pos' tpos:Pos}{ta tv:TE}
end
section
variable {X:Cx}{pins:List (Addr × Obj)}{σ:St}{H:Hp}{s:Shared}{A:Around}{E:Value->Shared->Prop}{Q:Value->Shared->Prop}{c:Value}{b:Bool}
inductive TyOf(K:Fg)(H:Hp):V->Value->Prop where
 | non:TyOf K H .non (.type "NoneType")
 | bl (x:Bool):TyOf K H (.bl x) (.type "bool")
 | int (i:Int):TyOf K H (.int i) (.type "int")
 | str (x:Str):TyOf K H (.str x) (.type "str")
 | flt (x:UInt64):TyOf K H (.flt x) (.type "float")
 | lst {a:Addr} {xs:List V} (e:H a=some (.lst xs)):TyOf K H (.ref a) (.type "list")
 | frz {a:Addr} {o:Obj} {xs:List V} (e:H a=some (.frz o (.lst xs))):TyOf K H (.ref a) (.type "list")
 | tup {a:Addr} {xs:List V} (e:H a=some (.tup xs)):TyOf K H (.ref a) (.type "tuple")
 | dK {a:Addr} {kvs:List (Key × V)} (e:H a=some (.dK kvs)):TyOf K H (.ref a) (.type "dict")
 | dT {a:Addr} {kvs:List (List Key × V)} (e:H a=some (.dT kvs)):TyOf K H (.ref a) (.type "dict")
 | ins {a C dx:Addr} {fs:List (Str × V)} (e:H a=some (.ins C dx fs)) (cl:Cls K C) (ha:PySem.W.findIn K (.ref C) "__class__" = some (some (.builtin "object.__class__")))
   (hn:PySem.W.specialIn K (.builtin "object.__class__") "__get__" = some (some (.builtin "getset_descriptor.__get__"))) (htk:PySem.W.takesIn K (.builtin "object.__class__")=some true)
   (hm:PySem.W.mroIn K C (.type "object")=some true):TyOf K H (.ref a) (.ref C)
theorem zlU{x:V}{u t:Value}(I:Inv X pins σ H s)(rx:RelV x u)(ty:TyOf X.K H x t)(e:PySem.W.kitOne X.K t c=some b)(h:∀tk,Q (.bool b) { s with toks:=tk }) :
  wpAny (model X.prog X.w) A (call (.builtin "isinstance") [u,c]) Q E s:=by
 cases ty with
 | non=>cases(show u=Value.none from rx);exact yak PySem.W.kitx_none I.kIn True.intro e (fun z=>nomatch z) h
 | bl y=>cases(show u=Value.bool y from rx);exact yak PySem.W.kitx_bool I.kIn True.intro e (fun z=>nomatch z) h
 | int i=>obtain⟨t,q⟩:=(show ∃t,u=Value.int i t from rx);cases q;exact yak PySem.W.kitx_int I.kIn True.intro e (fun z=>nomatch z) h
 | str y=>obtain⟨t,q⟩:=(show ∃t,u=Value.str y t from rx);cases q;exact yak PySem.W.kitx_str I.kIn True.intro e (fun z=>nomatch z) h
 | flt y=>obtain⟨t,q⟩:=(show ∃t,u=Value.float y t from rx);cases q;exact yak PySem.W.kitx_float I.kIn True.intro e (fun z=>nomatch z) h
 | @lst a xs ea=>
  cases(show u=Value.ref a from rx)
  obtain⟨_,_,n,_,h1⟩:=(show ObjOk X.prog X.w H s.heap a (.lst xs)from I.hok a _ ea)
  exact yak PySem.W.kitx_list I.kIn ⟨_,h1,rfl⟩ e (fun z=>nomatch z) h
 | @frz a ob xs ea=>
  cases(show u=Value.ref a from rx)
  obtain⟨_,_,_,n,_,h1⟩:=(show ObjOk X.prog X.w H s.heap a (.frz ob (.lst xs))from I.hok a _ ea)
  exact yak PySem.W.kitx_list I.kIn ⟨_,h1,rfl⟩ e (fun z=>nomatch z) h
 | @tup a xs ea=>
  cases(show u=Value.ref a from rx)
  obtain⟨_,_,_,p⟩:=(show ObjOk X.prog X.w H s.heap a (.tup xs)from I.hok a _ ea)
  obtain⟨o,h1,h2,_⟩:=p
  exact yak PySem.W.kitx_tuple I.kIn ⟨o,h1,h2⟩ e (fun z=>nomatch z) h
 | @dK a kvs ea=>
  cases(show u=Value.ref a from rx)
  obtain⟨_,_,vs,_,p⟩:=(show ObjOk X.prog X.w H s.heap a (.dK kvs)from I.hok a _ ea)
  obtain⟨o,es,ep,h1,h2,_⟩:=p
  exact yak PySem.W.kitx_dict I.kIn ⟨o,h1,h2.1⟩ e (fun z=>nomatch z) h
 | @dT a kvs ea=>
  cases(show u=Value.ref a from rx)
  obtain⟨_,_,xs,_,o,es,ep,h1,h2,_⟩:=(show ObjOk X.prog X.w H s.heap a (.dT kvs)from I.hok a _ ea)
  exact yak PySem.W.kitx_dict I.kIn ⟨o,h1,h2.1⟩ e (fun z=>nomatch z) h
 | @ins a C dx fs ea cl ha hn htk hm=>
  cases(show u=Value.ref a from rx)
  obtain⟨mA,O,_⟩:=zpl I.hok ea
  obtain⟨od,J,_⟩:=O.look
  exact yak (PySem.W.kitx_own (cl.get _) cl.hd ha hn htk hm) I.kIn J e (fun z=>nomatch z) h
end
set_option genInjectivity false in
set_option genSizeOf false in
structure Room(k:Nat)(A:Around):Prop where
 hd:A.handled=none
 dp:A.depth+3*k+5<recursionLimit
 un:A.units+16*k+200<cLine
theorem Room.mono{j k:Nat}{A:Around}(r:Room k A)(h:j<=k):Room j A:=⟨r.hd,by have:=r.dp;omega,by have:=r.un;omega⟩
theorem Room.deeper{k:Nat}{A:Around}(r:Room (k+1) A)(env:Env):Room k (A.deeper env):=
 ⟨r.hd,by have:=r.dp;show A.depth+1+3*k+5<_;omega,by have:=r.un;show A.units+3+16*k+200<_;omega⟩
theorem Room.depth{k:Nat}{A:Around}(r:Room k A):A.depth<recursionLimit:=by have:=r.dp;omega
theorem Room.units{k:Nat}{A:Around}(r:Room k A):A.units+64<cLine:=by have:=r.un;omega
abbrev zjO:TA:=fun _ H Q=>Q [] H
abbrev zlp(ta:TE)(tr:TA):TA:=fun σ H Q=>ta σ H fun x H1=>tr σ H1 fun xs H2=>Q (x :: xs) H2
section
variable {X:Cx}{e:Expr}{es:List Expr}{te:TE}{t:TA}{pos:Pos}
theorem zh:PA X [] zjO:=fun _ _ _ _ H Q I h=>Calls.spliced_nil ⟨[],H,I,.nil,h⟩
theorem ze(ha:PE X e te)(hr:PA X es t)(hs:autoParam (starEach (e :: es) X.env=(false,eval e X.env) :: starEach es X.env) Internal.aut2._auto_1):PA X (e :: es) (zlp te t):=by
 intro pos pins s σ H Q I h
 rw[hs]
 show wpAny _ _ (spliced ((false,eval e X.env) :: backTo pos (starEach es X.env))) _ _ s
 refine Calls.spliced_cons (thn (ha pins s σ H _ I h) fun u s1 zz=>?_)
 obtain⟨x,H1,I1,r1,q1⟩:=zz
 exact thn (hr pos pins s1 σ H1 _ I1 q1) fun us s2 ⟨xs,H2,I2,r2,q2⟩=>⟨x :: xs,H2,I2,.cons r1 r2,q2⟩
def zqm(t:TA):TE:=fun σ H Q=>t σ H fun xs H1=>xs.length<=sizeLine/\∀p,H1 p=none->Q (.ref p) (upd H1 p (.tup xs))
def zqi(t:TA):TE:=fun σ H Q=>t σ H fun xs H1=>xs.length<=sizeLine/\∀p,H1 p=none->Q (.ref p) (upd H1 p (.lst xs))
theorem zad{x1}(h:PA X es t):PE X (.Tuple es x1 pos) (zqm t):=by
 intro pins s σ H Q I hq
 refine wpAny_Tuple_spliced (thn (h pos pins s σ H _ I hq) fun us s1 ⟨xs,H1,I1,r,z,q⟩=>⟨by rw[<- r.length];exact z,?_⟩)
 have hf:H1 s1.heap.objs.size=none:=I1.hok.fresh (yg _)
 refine⟨.ref s1.heap.objs.size,upd H1 s1.heap.objs.size (.tup xs),I1.laid (t':=s1.toks) (fun b u e=>Heap.get?_push_of_some _ e) (yg _) ?_,rfl,q _ hf⟩
 exact⟨z,us,r,⟨_,Heap.get?_push_size _ rfl,rfl,_,rfl⟩⟩
theorem zbk(h:PA X es t):PE X (.List es pos) (zqi t):=by
 intro pins s σ H Q I hq
 refine wpAny_List_spliced (thn (h pos pins s σ H _ I hq) fun us s1 ⟨xs,H1,I1,r,z,q⟩=>⟨by rw[<- r.length];exact z,?_⟩)
 have hf:H1 s1.heap.objs.size=none:=I1.hok.fresh (yg _)
 refine⟨.ref s1.heap.objs.size,upd H1 s1.heap.objs.size (.lst xs),I1.laid (t':=s1.toks) (fun b u e=>Heap.get?_push_of_some _ e) (yg _) ?_,rfl,q _ hf⟩
 exact⟨z,us,0,r,Heap.get?_push_size _ rfl⟩
end
abbrev Sp:=List V->Hp->VK->XK->Prop
abbrev CXT:=List Env->Hp->Shared->XK->Value->Shared->Prop
set_option genInjectivity false in
set_option genSizeOf false in
structure Env0(P:Program)(w:World)(K:Fg)(mg:Str->Option Value)(base:Heap)(A:Around)(outer:List Env)(s:Shared)(H:Hp):Prop where
 frames:A.frames=some outer
 mod:Mod K mg base
 bs:∀b o,base.get? b=some o->s.heap.get? b=some o/\H b=none
 bsz:base.objs.size<=s.heap.objs.size
 funs:s.heap.FunFrames base outer
 frf:∀b∈frs outer,H b=none
 hok:HOk P w H s.heap
 bare:AllBare s.gens
def CE(outer:List Env)(P:Program)(w:World)(H:Hp)(s:Shared)(Q:VK)(u:Value)(s':Shared):Prop:=
 ∃v H',s'.os=s.os/\AllBare s'.gens/\Un (frs outer) [] H H' s.heap s'.heap/\HOk P w H' s'.heap/\RelV v u/\Q v H'
def CR(CX:CXT)(outer:List Env)(P:Program)(w:World)(H:Hp)(s:Shared)(Q:VK)(E:XK)(r:Result)(s':Shared):Prop:=
 match r with
 | .ok (.ret u)=>CE outer P w H s Q u s'
 | .ok _=>False
 | .error e=>CX outer H s E e s'
set_option genInjectivity false in
set_option genSizeOf false in
structure FnOk(P:Program)(w:World)(K:Fg)(mg:Str->Option Value)(base:Heap)(CX:CXT)(k:Nat)(f:Addr)(fd:FuncData)(ps:List Str)(sp:Sp):Prop where
 len:∀vs H Q E,sp vs H Q E->vs.length=ps.length
 run:∀(A:Around) (outer:List Env) (s:Shared) (H:Hp) (args:Args) (us:List Value) (vs:List V) (Q:VK) (E:XK),Room k A->Env0 P w K mg base A outer s H->BindsTo s fd args (ps.zip us)->Vals vs us->sp vs H Q E ->
  codeAny (model P w) A (.call (.ref f) args) (CR CX outer P w H s Q E) s
section
variable {X:Cx}{pins:List (Addr × Obj)}{σ:St}{H:Hp}{s s':Shared}
theorem Inv.env0(I:Inv X pins σ H s):Env0 X.prog X.w X.K X.mg X.base X.A X.stack s H:=
 ⟨I.ok.frames,I.ok.mod,I.bs,yc I.ok.bsz I.sz,I.stack,I.stkFree,I.hok,I.bare⟩
theorem Inv.after{Q:VK}{u:Value}(I:Inv X pins σ H s)(h:CE X.stack X.prog X.w H s Q u s'):EP X pins σ Q u s':=by
 obtain⟨v,H',os,bare,un,hok,r,q⟩:=h
 obtain⟨hh,g,d,t,os'⟩:=s'
 obtain rfl:os'=s.os:=os
 exact⟨v,H',I.call (h':=hh) (g':=g) (d':=d) (t':=t) (ch:=[]) un hok bare (fun b z=>absurd z (by simp)),r,q⟩
end
def zlf(sp:Sp)(dvs:List V)(E:XK)(t:TA):TE:=fun σ H Q=>t σ H fun vs H1=>sp (vs++dvs) H1 Q E
def Binds(K:Fg)(fd:FuncData)(ps:List Str)(ds:List Value):Prop:=
 ∀(s:Shared) (us:List Value),K.In s.heap->(us++ds).length=ps.length->BindsTo s fd ⟨us,[]⟩ (ps.zip (us++ds))
theorem Binds.all{K:Fg}{fd:FuncData}{ps:List Str}(h:∀us:List Value,us.length=ps.length->bindArgs fd ⟨us,[]⟩=pure (ps.zip us)):Binds K fd ps []:=fun s us _ hl=>by
 rw[yau]at hl ⊢
 exact .of_eq (h us hl)
def zjz(CX:CXT)(X:Cx)(E:XK):Prop:=∀(pins:List (Addr × Obj)) (σ:St) (H:Hp) (s:Shared) (e:Value) (s':Shared),Inv X pins σ H s->CX X.stack H s E e s'->X.xe e s'
section
variable {X:Cx}{CX:CXT}{k:Nat}{f C:Addr}{fd:FuncData}{ps:List Str}{sp:Sp}{dvs:List V}{ds:List Value}{E:XK}{x m:Str}{p pos apos:Pos}{e o:Expr}{es:List Expr}{ta:TE}{t:TA}
theorem zqb{pins:List (Addr × Obj)}{σ:St}{H:Hp}{s:Shared}{Q:VK}{us:List Value}{vs:List V}(F:FnOk X.prog X.w X.K X.mg X.base CX k f fd ps sp)(hr:Room k X.A)(hb:Binds X.K fd ps ds)(hd:Vals dvs ds)(hx:zjz CX X E)
  (I:Inv X pins σ H s) (r:Vals vs us) (h:sp (vs++dvs) H Q E):wpAny (model X.prog X.w) X.A (call (.ref f) us) (EP X pins σ Q) X.xe s:=by
 have r2:Vals (vs++dvs) (us++ds):=r.append hd
 have hl:(us++ds).length=ps.length:=by rw[<- r2.length];exact F.len _ _ _ _ h
 refine wpAny_call (codeAny_mono (F.run X.A X.stack s H ⟨us,[]⟩ (us++ds) (vs++dvs) Q E hr I.env0 (hb s us I.kIn hl) r2 h) fun r s' hq=>?_)
 cases r with
 | error e=>exact hx pins σ H s e s' I hq
 | ok fl=>
  cases fl with
  | ret u=>exact I.after hq
  | next=>exact False.elim hq
  | brk=>exact False.elim hq
  | cont=>exact False.elim hq
theorem zA(F:FnOk X.prog X.w X.K X.mg X.base CX k f fd ps sp)(hr:Room k X.A)(hg:Gl X x)(hm:X.mg x=some (.ref f))(hk:PySem.W.keepIn X.K (.ref f)=true)(hb:Binds X.K fd ps ds)(hd:Vals dvs ds)(hx:zjz CX X E)
  (ha:PA X (e :: es) t) (hdb:autoParam ((x == ("__debug__" : Str))=false) Internal.aut1._auto_1) (he:autoParam (starEach (e :: es) X.env=(false,eval e X.env) :: starEach es X.env) Internal.aut2._auto_1) (hpl:autoParam ((backTo pos (starEach es X.env)).any (·.1)=false) Internal.aut2._auto_1) :
  PE X (.Call (.Name x p) (e :: es) [] pos) (zlf sp dvs E t):=by
 intro pins s σ H Q I h
 refine wpAny_Call_Name_kw (zpk I hg hm ?_ hdb)
 refine PySem.W.callWith_K (h₀:=X.base) I.ok.mod.kin hk (thn (ha pos pins s σ H _ I h) fun us s1 ⟨vs,H1,I1,r,q⟩=>⟨I1.kIn,?_⟩) he hpl
 exact zqb F hr hb hd hx I1 r q
set_option genInjectivity false in
set_option genSizeOf false in
structure Mk(K:Fg)(C f:Addr):Prop where
 makes:PySem.W.makesIn K C=true
 init:PySem.W.findIn K (.ref C) "__init__" = some (some (.ref f))
 fn:PySem.W.isFn K (.ref f)=true
 kp:PySem.W.keepIn K (.ref C)=true
end
def PK(X:Cx)(kws:List Keyword)(t:TA):Prop:=
 ∀(pos:Pos) (pins:List (Addr × Obj)) (s:Shared) (σ:St) (H:Hp) (Q:List V->Hp->Prop),Inv X pins σ H s->t σ H Q->wpAny (model X.prog X.w) X.A (evalAll ((backToKw pos (keywordEach kws X.env)).map (·.2))) (AP X pins σ Q) X.xe s
section
variable {X:Cx}{CX:CXT}{k:Nat}{f C:Addr}{fd:FuncData}{ps ks:List Str}{sp:Sp}{E:XK}{x m:Str}{p pos apos kpos:Pos}{e o:Expr}{es:List Expr}{kws:List Keyword}{te ta:TE}{t tk:TA}{nm:Option Str}
theorem zqA:PK X [] zjO:=fun _ _ _ _ H Q I h=>wpAny_evalAll_nil ⟨[],H,I,.nil,h⟩
theorem zpN(ha:PE X e te)(hr:PK X kws t):PK X (⟨nm,e,kpos⟩ :: kws) (zlp te t):=by
 intro pos pins s σ H Q I h
 show wpAny _ _ (evalAll ((do let v <- eval e X.env;standAt pos;pure v) :: (backToKw pos (keywordEach kws X.env)).map (·.2))) _ _ s
 refine wpAny_evalAll_cons (wpAny_bind (thn (ha pins s σ H _ I h) fun u s1 ⟨x,H1,I1,r1,q1⟩=>wpAny_bind (wpAny_standAt (wpAny_pure ?_))))
 exact thn (hr pos pins s1 σ H1 _ I1 q1) fun us s2 ⟨xs,H2,I2,r2,q2⟩=>⟨x :: xs,H2,I2,.cons r1 r2,q2⟩
set_option genInjectivity false in
set_option genSizeOf false in
structure KBinds(K:Fg)(fd:FuncData)(ps ks:List Str)(g:List Value->List Value->List Value)(gV:List V->List V->List V):Prop where
 to:∀(s:Shared) (us ws:List Value),K.In s.heap->(g us ws).length=ps.length->BindsTo s fd ⟨us,ks.zip ws⟩ (ps.zip (g us ws))
 rel:∀{vs:List V} {us:List Value} {zs:List V} {ws:List Value},Vals vs us->Vals zs ws->Vals (gV vs zs) (g us ws)
variable {g:List Value->List Value->List Value}{gV:List V->List V->List V}
end
set_option genInjectivity false in
set_option genSizeOf false in
structure FnScope(N P:List Str)(sc:Scope):Prop where
 kind:sc.kind=.function
 co:sc.isCoroutine=false
 gen:sc.isGenerator=false
 nd:N.Nodup
 pre:N.take P.length=P
 par:∀x∈P,sc.names.lookup x=some .local\/sc.names.lookup x=some .cell
 nofree:∀y∈sc.names,y.2≠.free
theorem zhM{kindOf:Str->Option NameKind}{x:Str}:∀{binds:List (Str × Value)} {m:Str->Option Value},(∀v,(x,v)∉binds)->bindL kindOf binds m x=m x
 | [],_,_=>rfl
 | (n,v) :: r,m,h=>by
  unfold bindL
  rw[zhM fun w hw=>h w (yX _ hw)]
  split
  ·have:x≠n:=by rintro rfl;exact h v yaj
   simp[this]
  ·rfl
theorem zh2{kindOf:Str->Option NameKind}{x:Str}:∀{binds:List (Str × Value)} {m:Str->Option Value},(∀v,(x,v)∉binds)->bindC kindOf binds m x=m x
 | [],_,_=>rfl
 | (n,v) :: r,m,h=>by
  unfold bindC
  rw[zh2 fun w hw=>h w (yX _ hw)]
  split
  ·rfl
  ·have:x≠n:=by rintro rfl;exact h v yaj
   simp[this]
theorem zh6{kindOf:Str->Option NameKind}{x:Str}{v:Value}:∀{P:List Str} {vs:List Value} {i:Nat} {m:Str->Option Value},P.Nodup->P[i]?=some x->vs[i]?=some v->kindOf x=some .local ->
  bindL kindOf (P.zip vs) m x=some v
 | [],_,_,_,_,h,_,_=>by simp at h
 | _ :: _,[],_,_,_,_,h,_=>by simp at h
 | p :: P,w :: vs,0,m,nd,h1,h2,hk=>by
  simp at h1 h2;subst h1;subst h2
  show bindL kindOf ((p,w) :: P.zip vs) m p=_
  unfold bindL
  rw[zhM fun v hv=>(yaU.mp nd).1 (ybR hv).1,if_pos hk]
  simp
 | p :: P,w :: vs,i+1,m,nd,h1,h2,hk=>by
  show bindL kindOf ((p,w) :: P.zip vs) m x=_
  unfold bindL
  exact zh6 (i:=i) (yaU.mp nd).2 (by simpa using h1) (by simpa using h2) hk
theorem zhU{kindOf:Str->Option NameKind}{x:Str}{v:Value}:∀{P:List Str} {vs:List Value} {i:Nat} {m:Str->Option Value},P.Nodup->P[i]?=some x->vs[i]?=some v->kindOf x≠some .local ->
  bindC kindOf (P.zip vs) m x=some v
 | [],_,_,_,_,h,_,_=>by simp at h
 | _ :: _,[],_,_,_,_,h,_=>by simp at h
 | p :: P,w :: vs,0,m,nd,h1,h2,hk=>by
  simp at h1 h2;subst h1;subst h2
  show bindC kindOf ((p,w) :: P.zip vs) m p=_
  unfold bindC
  rw[zh2 fun v hv=>(yaU.mp nd).1 (ybR hv).1,if_neg hk]
  simp
 | p :: P,w :: vs,i+1,m,nd,h1,h2,hk=>by
  show bindC kindOf ((p,w) :: P.zip vs) m x=_
  unfold bindC
  exact zhU (i:=i) (yaU.mp nd).2 (by simpa using h1) (by simpa using h2) hk
def start(N:List Str)(vs:List V):St:=vs.map some++List.replicate (N.length-vs.length) none
def zhu(CX:CXT)(P:Program)(w:World)(K:Fg)(mg:Str->Option Value)(base:Heap)(N:List Str)(qual:Str)(scope:Scope)(f:Addr)(cd:Value)(A:Around)(outer:List Env)(s:Shared)(H:Hp)(E:XK):Cx where
 prog:=P
 w:=w
 K:=K
 mg:=mg
 base:=base
 A:=A.deeper (envOfC qual scope s.heap.objs.size f cd)
 N:=N
 s₀:=s
 H₀:=H
 env:=envOfC qual scope s.heap.objs.size f cd
 outer:=outer
 stack:=envOfC qual scope s.heap.objs.size f cd :: outer
 ex:=[]
 calm:=true
 fn:=fun _=>true
 pn:=[]
 xe:=fun e s'=>wpAny (model P w) (A.deeper (envOfC qual scope s.heap.objs.size f cd)) (leaving (envOfC qual scope s.heap.objs.size f cd) e) (fun _ s''=>CX outer H s E e s'') (fun e' s''=>CX outer H s E e' s'') s'
theorem zeD{sc:Scope}{n:Nat}{x:Str}(h:sc.names.lookup x=some .cell):∃c,(cellsFrom n sc.names []).lookup x=some c:=by
 have q:=PySem.W.cellsFrom_some sc.names n [] (.inl h)
 exact Option.isSome_iff_exists.mp q
theorem zmZ{CX:CXT}{P:Program}{w:World}{K:Fg}{mg:Str->Option Value}{base:Heap}{N ps:List Str}{qual:Str}{scope:Scope}{f:Addr}{cd:Value}{A:Around}{outer:List Env}{s s1:Shared}{H:Hp}{E:XK}{us:List Value}{vs:List V}
  (S:FnScope N ps scope) (hd:A.handled=none) (e0:Env0 P w K mg base A outer s H) (hl:vs.length=ps.length) (r:Vals vs us)
  (x:InCallC s s.heap.objs.size (bindL (envOfC qual scope s.heap.objs.size f cd).kindOf (ps.zip us) fun _=>none) (cellsFrom (s.heap.objs.size+1) scope.names []) (bindC (envOfC qual scope s.heap.objs.size f cd).kindOf (ps.zip us) fun _=>none) s1) :
  Inv (zhu CX P w K mg base N qual scope f cd A outer s H E) [] (start N vs) H s1:=by
 have hpl:ps.length<=N.length:=by have:=congrArg List.length S.pre;rw[ybM]at this;omega
 obtain⟨h1,tk,rfl,hk⟩:=x.done
 have noA:∀b:Addr,b∉(zhu CX P w K mg base N qual scope f cd A outer s H E).ex:=fun b z=>absurd (show b∈([]:List Addr)from z) (by simp)
 refine⟨⟨e0.mod,S.kind,rfl,rfl,yg _,fun y z c h1 h2=>?_,fun y hy=>?_,fun y c _ h=>?_,fun _=>hd,Around.frames_deeper e0.frames,.inr ⟨rfl,rfl⟩,fun b z=>absurd z (noA b),e0.bs,e0.bsz,fun b _ _=>noA b,fun b z=>absurd z (noA b),e0.funs,e0.frf⟩,
  rfl,e0.bare,Un.kept hk,⟨_,x.toInCall.ns,fun i y v h1 h2 h3=>?_⟩,fun y c h=>⟨_,x.cell y c h⟩,e0.hok.fresh (yg _),fun y c h=>?_,fun p hp=>absurd (show p∈([]:List (Addr × Obj))from hp) (by simp),e0.hok.kept hk,?_⟩
 ·exact name_of_addr x.apart (yaT h1) (yaT h2)
 ·have hy:scope.names.lookup y=some .cell\/scope.names.lookup y=some .free:=hy
  rcases hy with hy | hy
  ·exact zeD hy
  ·exact absurd rfl (S.nofree _ (yaT hy))
 ·exact yaQ (x.above y c (yaT h))
 ·have hi:i<vs.length:=by
   unfold start at h2
   by_cases hi:i<vs.length
   ·exact hi
   ·rw[yax (by simpa using hi)]at h2
    rw[ybj]at h2
    split at h2<;>cases h2
  have ha:vs[i]?=some v:=by
   unfold start at h2
   rw[yW (by simpa using hi),yf]at h2
   cases e:vs[i]? with
   | none=>rw[e]at h2;cases h2
   | some a=>rw[e]at h2;cases h2;rfl
  obtain⟨u,hu,rv⟩:=r.get ha
  have hp:ps[i]?=some y:=by
   rw[<- S.pre,List.getElem?_take_of_lt (by omega)];exact h1
  have ndP:ps.Nodup:=by rw[<- S.pre];exact S.nd.sublist (List.take_sublist _ _)
  refine⟨u,rv,?_⟩
  rcases S.par y (ya hp)with k | k
  ·exact .inl ⟨k,zh6 ndP hp hu k⟩
  ·obtain⟨c,e⟩:=zeD (n:=s.heap.objs.size+1) k
   refine .inr ⟨.inl k,c,e,?_⟩
   have q:=x.cell y c e
   rw[zhU ndP hp hu (by show scope.names.lookup y≠_;rw[k];decide)]at q
   exact q
 ·exact e0.hok.fresh (yaQ (x.above y c (yaT h)))
 ·unfold start
  show _=N.length
  rw[yb,yh,List.length_replicate]
  omega
theorem zre{CX:CXT}{P:Program}{w:World}{K:Fg}{mg:Str->Option Value}{base:Heap}{k:Nat}{f:Addr}{name qual:Str}{params:Arguments}{body:List Stmt}{scope:Scope}{dV kV doc pm cdv ct oc:Value}{an od:Option Addr}
  {osl:Array (Option Value)} {N ps:List Str} {sp:Sp} (lk:K.lookup f=some ⟨oc,od,.func (PySem.W.fnOf name qual params body scope dV kV doc pm an cdv ct),osl⟩) (hcd:PySem.W.codeIn K cdv qual=true) (S:FnScope N ps scope)
  (len:∀vs H Q E,sp vs H Q E->vs.length=ps.length)
  (hbody:∀(A:Around) (outer:List Env) (s:Shared) (H:Hp) (vs:List V) (Q:VK) (E:XK),Room k (A.deeper (envOfC qual scope s.heap.objs.size f cdv))->sp vs H Q E ->
   ∃t,PSs (zhu CX P w K mg base N qual scope f cdv A outer s H E) body t/\t { nx:=fun _ H'=>Q .non H',rt:=Q } (start N vs) H) :
  FnOk P w K mg base CX (k+1) f (PySem.W.fnOf name qual params body scope dV kV doc pm an cdv ct) ps sp:=by
 refine⟨len,fun A outer s H args us vs Q E hr e0 hb r hsp=>?_⟩
 have hl:=len _ _ _ _ hsp
 have KX:K.In s.heap:=e0.mod.kin.keeps fun b o e=>(e0.bs b o e).1
 have lim:s.heap.NoLimit:=e0.mod.nolimit.keeps fun b o e=>(e0.bs b o e).1
 have hkind:∀y∈ps.zip us,scope.names.lookup y.1=some .local\/(scope.names.lookup y.1=some .cell/\((cellsFrom (s.heap.objs.size+1) scope.names []).lookup y.1).isSome=true):=fun⟨n,v⟩ hy=>by
  rcases S.par n (ybR hy).1 with q | q
  ·exact .inl q
  ·exact .inr ⟨q,PySem.W.cellsFrom_some _ _ _ (.inl q)⟩
 refine codeAny_call_function hr.depth (KX _ _ lk) rfl S.co S.gen rfl (PySem.W.codeRec_of KX hcd) (hb _ _ _ _ ?_)
 refine wpAny_newFunctionEnv_cells S.kind hkind fun env he s1 x=>?_
 subst he
 refine⟨lim.keeps x.toInCall.keep,codeAny_func ?_⟩
 obtain⟨t,ht,hq⟩:=hbody A outer s H vs Q E (hr.deeper _) hsp
 have I:Inv (zhu CX P w K mg base N qual scope f cdv A outer s H E) [] (start N vs) H s1:=zmZ S hr.hd e0 hl r x
 refine wpAny_mono (ht [] s1 (start N vs) H _ I hq) (fun fl s' hs=>?_) fun e s' hs=>hs
 have fin:∀{σ':St} {H':Hp} {v:V} {u:Value},Inv (zhu CX P w K mg base N qual scope f cdv A outer s H E) [] σ' H' s'->RelV v u->Q v H'->CE outer P w H s Q u s':=
  fun {σ' H' v u} J rv q=>⟨v,H',J.os,J.bare,J.base,J.hok,rv,q⟩
 cases fl with
 | ret u=>
  obtain⟨v,σ',H',J,rv,q⟩:=hs
  exact fin J rv q
 | next=>
  obtain⟨σ',H',J,q⟩:=hs
  exact fin (v:=V.non) (u:=Value.none) J rfl q
 | brk=>
  obtain⟨_,_,_,q⟩:=hs
  exact False.elim q
 | cont=>
  obtain⟨_,_,_,q⟩:=hs
  exact False.elim q
section
variable {X:Cx}{x:Str}{p pos:Pos}{e:Expr}{es:List Expr}{t:TA}{id T:String}{r:List V->Hp->VK->Prop}
abbrev tCB(r:List V->Hp->VK->Prop)(t:TA):TE:=fun σ H Q=>t σ H fun vs H1=>r vs H1 Q
theorem zR(hc:CallR X (.builtin id) r)(hg:Gl X x)(hm:X.mg x=none)(hv:bootBuiltins x=some (.builtin id))(ha:PA X (e :: es) t)(hn:autoParam (x ≠ "__name__") Internal.aut1._auto_1)(hdb:autoParam ((x == ("__debug__" : Str))=false) Internal.aut1._auto_1)
  (he:autoParam (starEach (e :: es) X.env=(false,eval e X.env) :: starEach es X.env) Internal.aut2._auto_1) (hpl:autoParam ((backTo pos (starEach es X.env)).any (·.1)=false) Internal.aut2._auto_1):PE X (.Call (.Name x p) (e :: es) [] pos) (tCB r t):=by
 intro pins s σ H Q I h
 refine wpAny_Call_Name_kw (zcQ I hg hm hv ?_ hn hdb)
 exact PyProof.Rows.callWith_builtin1 (thn (ha pos pins s σ H _ I h) fun us s1 ⟨vs,H1,I1,r1,q1⟩=>hc pins s1 σ H1 vs us Q I1 r1 q1) he hpl
theorem zaR(hc:CallR X (.type T) r)(hg:Gl X x)(hm:X.mg x=none)(hv:bootBuiltins x=some (.type T))(ha:PA X (e :: es) t)(hn:autoParam (x ≠ "__name__") Internal.aut1._auto_1)(hdb:autoParam ((x == ("__debug__" : Str))=false) Internal.aut1._auto_1)
  (he:autoParam (starEach (e :: es) X.env=(false,eval e X.env) :: starEach es X.env) Internal.aut2._auto_1) (hpl:autoParam ((backTo pos (starEach es X.env)).any (·.1)=false) Internal.aut2._auto_1):PE X (.Call (.Name x p) (e :: es) [] pos) (tCB r t):=by
 intro pins s σ H Q I h
 refine wpAny_Call_Name_kw (zcQ I hg hm hv ?_ hn hdb)
 exact yao (thn (ha pos pins s σ H _ I h) fun us s1 ⟨vs,H1,I1,r1,q1⟩=>hc pins s1 σ H1 vs us Q I1 r1 q1) he hpl
end
end Internal
namespace HT
open PySem PyProof.Rows
section
open PySem.SeqAt
open PySem.AutoSeq1 (wpAny_loadPart')
open PySem.MeetsSeq PySem.MeetsSeq2 PySem.MeetsSeq3
end
section
variable {prog:Program}{w:World}{A:Around}{E:Value->Shared->Prop}{s:Shared}
theorem cat_tup{t b:Addr}{vs ws:List Value}{Q:Value->Shared->Prop}(ht:IsTup s.heap t vs.toArray)(hb:IsTup s.heap b ws.toArray)(hv:vs≠[])
  (h1:ws=[]->Q (.ref t) s) (h2:ws≠[]->Q (.ref s.heap.objs.size) { s with heap:=s.heap.push { cls:=.type "tuple",data:=.seq (vs++ws).toArray } })
  (hsz:vs.length+ws.length<=sizeLine):wpAny (model prog w) A (binaryOp .Add (.ref t) (.ref b)) Q E s:=by
 obtain⟨⟨cls,dd,data,sl⟩,ho,hc,n,hd⟩:=id ht
 obtain⟨⟨cls2,dd2,data2,sl2⟩,ho2,hc2,n2,hd2⟩:=id hb
 simp only at hc hd hc2 hd2
 subst hc hd hc2 hd2
 have e:vs.toArray++ws.toArray=(vs++ws).toArray:=by simp
 by_cases hw:ws=[]
 ·exact concat_meets ⟨_,ho,rfl⟩ ⟨_,ho2,rfl⟩ noFill_tuple_add seq_tuple_add PySem.F.slot_tuple_add PySem.F.entry_tuple_add (PySem.F.args_tuple_add_2 _ _)
   (tuple_addW1 t b vs.toArray ws.toArray n n2 dd dd2 sl sl2 (by simpa using hv) (by simp[hw])) ⟨ho,ho2,h1 hw⟩
 ·refine concat_meets ⟨_,ho,rfl⟩ ⟨_,ho2,rfl⟩ noFill_tuple_add seq_tuple_add PySem.F.slot_tuple_add PySem.F.entry_tuple_add (PySem.F.args_tuple_add_2 _ _)
   (tuple_addW2 t b vs.toArray ws.toArray n n2 dd dd2 sl sl2 (by simpa using hv) (by simpa using hw) (by rw[yq,yq];exact hsz)) ⟨ho,ho2,?_⟩
  rw[e]
  exact h2 hw
def sIx(n d:Nat):Option Int->Nat
 | none=>d
 | some v=>if v<0 then(v+(n:Int)).toNat else min v.toNat n
theorem sIx_none(n d:Nat):sIx n d none=d:=rfl
theorem sIx_nat(n d k:Nat):sIx n d (some (k:Int))=min k n:=by
 show(if(k:Int)<0 then((k:Int)+(n:Int)).toNat else min (k:Int).toNat n)=min k n
 rw[if_neg (by omega),yx]
end
end HT
namespace Internal
open PySem PySem.Spec PyProof.Rows
abbrev TO:=St->Hp->(Option Int->Hp->Prop)->Prop
def PO(X:Cx)(e:Option Expr)(t:TO):Prop:=
 ∀(pins:List (Addr × Obj)) (s:Shared) (σ:St) (H:Hp) (Q:Option Int->Hp->Prop),Inv X pins σ H s->t σ H Q ->
  wpAny (model X.prog X.w) X.A (evalPart e X.env) (fun u s'=>∃o H',Inv X pins σ H' s'/\IsPart u o/\Q o H') X.xe s
abbrev zph:TO:=fun _ H Q=>Q none H
def zoz(t:TE):TO:=fun σ H Q=>t σ H fun x H1=>∃i,x=.int i/\Q (some i) H1
section
variable {X:Cx}{e:Expr}{te:TE}{lo hi:Option Expr}{tl th:TO}{pos p2:Pos}
theorem zfO:PO X none zph:=by
 intro pins s σ H Q I h
 rw[evalPart_none]
 exact wpAny_pure ⟨none,H,I,.none,h⟩
theorem zfE(h:PE X e te):PO X (some e) (zoz te):=by
 intro pins s σ H Q I hw
 rw[evalPart_some]
 refine thn (h pins s σ H _ I hw) fun u s1 zz=>?_
 obtain⟨x,H1,I1,r1,q1⟩:=zz
 obtain⟨i,rfl,q⟩:=q1
 obtain⟨t,rfl⟩:=r1
 exact⟨some i,H1,I1,.int i t,q⟩
def SlR(X:Cx)(r:V->Option Int->Option Int->Hp->VK->Prop):Prop:=
 ∀(pins:List (Addr × Obj)) (s:Shared) (σ:St) (H:Hp) (x:V) (v vl vu:Value) (lo hi:Option Int) (sl:Addr) (Q:VK),Inv X pins σ H s->RelV x v->s.heap.IsSliceOf sl vl vu .none->IsPart vl lo->IsPart vu hi->r x lo hi H Q ->
  ∃T id,typeLookup (.type T) "__getitem__" = pure (some (.builtin id))/\s.TypeIs v T/\wpAny (model X.prog X.w) X.A (getItem v (.ref sl)) (EP X pins σ Q) X.xe s
abbrev tSl(r:V->Option Int->Option Int->Hp->VK->Prop)(te:TE)(tl th:TO):TE:=fun σ H Q=>te σ H fun x H1=>tl σ H1 fun l H2=>th σ H2 fun u H3=>r x l u H3 Q
theorem zeG{r:V->Option Int->Option Int->Hp->VK->Prop}(hr:SlR X r)(he:PE X e te)(hl:PO X lo tl)(hu:PO X hi th):PE X (.Subscript e (.Slice lo hi none p2) pos) (tSl r te tl th):=by
 intro pins s σ H Q I h
 refine Subscript_ (thn (he pins s σ H _ I h) fun v s1 zz=>?_)
 obtain⟨x,H1,I1,r1,q1⟩:=zz
 refine wpAny_Slice (thn (hl pins s1 σ H1 _ I1 q1) fun vl s2 ⟨l,H2,I2,pl,q2⟩=>thn (hu pins s2 σ H2 _ I2 q2) fun vu s3 zz=>?_)
 obtain⟨u,H3,I3,pu,q3⟩:=zz
 rw[evalPart_none]
 refine wpAny_pure ?_
 have I4:Inv X pins σ H3 { s3 with heap:=s3.heap.push { cls:=.type "slice",data:=.fields #[vl,vu,.none] } }:=I3.kept (t':=s3.toks) fun b ob q=>Heap.get?_push_of_some _ q
 obtain⟨T,id,hT,ht,hg⟩:=hr pins { s3 with heap:=s3.heap.push { cls:=.type "slice",data:=.fields #[vl,vu,.none] } } σ H3 x v vl vu l u s3.heap.objs.size Q I4 r1 (Heap.IsSliceOf.new ..) pl pu q3
 show wpAny (model X.prog X.w) X.A (subscriptTail e (.Slice lo hi none p2) v (.ref s3.heap.objs.size)) (EP X pins σ Q) X.xe { s3 with heap:=s3.heap.push { cls:=.type "slice",data:=.fields #[vl,vu,.none] } }
 exact tail_any (ops:=[.ref s3.heap.objs.size,v]) ht hT hg (by with_unfolding_all rfl)
def zd3(xs:List V)(lo hi:Option Int):List V:=(xs.drop (HT.sIx xs.length 0 lo)).take (HT.sIx xs.length xs.length hi-HT.sIx xs.length 0 lo)
theorem zj7(xs:List V)(lo hi:Option Int):(zd3 xs lo hi).length<=xs.length:=by
 unfold zd3
 rw[ybM,List.length_drop]
 omega
def zoA(K:Fg):R2:=fun x y H Q=>∃a b xs ys,x=.ref a/\y=.ref b/\SqT K H a xs/\SqT K H b ys/\xs≠[]/\xs.length+ys.length<=sizeLine /\
 (ys=[]->Q (.ref a) H)/\(ys≠[]->∀p,H p=none->Q (.ref p) (upd H p (.tup (xs++ys))))
theorem Vals.nil_iff{xs:List V}{us:List Value}(r:Vals xs us):us=[]↔xs=[]:=by
 cases r with
 | nil=>simp
 | cons _ _=>simp
theorem zpE:OpR X (binaryOp .Add) (zoA X.K):=by
 intro pins s σ H x y v u Q I rx ry h
 obtain⟨a,b,xs,ys,rfl,rfl,ha,hb,hx,hz,q1,q2⟩:=h
 cases rx
 cases ry
 obtain⟨its,r1,p1,_⟩:=I.tuple ha
 obtain⟨its2,r2,p2,_⟩:=I.tuple hb
 refine HT.cat_tup p1 p2 (fun z=>hx (r1.nil_iff.mp z)) (fun z=>⟨.ref a,H,I,rfl,q1 (r2.nil_iff.mp z)⟩) (fun z=>?_) (by rw[<- r1.length,<- r2.length];exact hz)
 refine⟨.ref s.heap.objs.size,_,I.laid (t':=s.toks) (o:=.tup (xs++ys)) (fun b ob q=>Heap.get?_push_of_some _ q) (yg _) ?_,rfl,q2 (fun w=>z (r2.nil_iff.mpr w)) _ (I.hok.fresh (yg _))⟩
 exact⟨by rw[yb];exact hz,_,r1.append r2,IsTup.new _ _⟩
end
def ixN(n:Nat)(i:Int):Option Nat:=if 0<=i then(if i<n then some i.toNat else none)else if -(n:Int)<=i then some (i+n).toNat else none
def atI{α:Type}(xs:List α)(i:Int):Option α:=(ixN xs.length i).bind fun j=>xs[j]?
theorem zkI{n:Nat}{i:Int}{j:Nat}(h:ixN n i=some j):seqIndex? i n=some j/\j<n/\-(n:Int)<=i/\i<n:=by
 unfold ixN at h
 by_cases h0:0<=i
 ·rw[if_pos h0]at h
  by_cases h1:i<n
  ·rw[if_pos h1]at h
   have e:i.toNat=j:=yn h
   exact⟨by rw[seqIndex_of h0 h1,e],by omega,by omega,h1⟩
  ·rw[if_neg h1]at h;cases h
 ·rw[if_neg h0]at h
  by_cases h1:-(n:Int)<=i
  ·rw[if_pos h1]at h
   have e:(i+n).toNat=j:=yn h
   exact⟨by rw[seqIndex_neg (by omega) h1,e],by omega,h1,by omega⟩
  ·rw[if_neg h1]at h;cases h
theorem zfB{α:Type}{xs:List α}{i:Int}{v:α}(h:atI xs i=some v):∃j,seqIndex? i xs.length=some j/\xs[j]?=some v/\j<xs.length/\-(xs.length:Int)<=i/\i<xs.length:=by
 unfold atI at h
 cases e:ixN xs.length i with
 | none=>rw[e]at h;cases h
 | some j=>
  rw[e]at h
  obtain⟨h1,h2,h3,h4⟩:=zkI e
  exact⟨j,h1,h,h2,h3,h4⟩
theorem zak{α:Type}{xs:List α}{j:Nat}{v:α}(h:xs[j]?=some v):atI xs (j:Int)=some v:=by
 have hj:j<xs.length:=(yk.mp h).1
 have e:ixN xs.length (j:Int)=some j:=by
  unfold ixN
  rw[if_pos (by omega),if_pos (by omega)];simp
 unfold atI;rw[e];exact h
def zpQ(b:Expr):Prop:=∀o i,subscripted b false o i=operate [o,i] (getItem o i)
def IxR(X:Cx)(r:R2):Prop:=
 ∀(value slice:Expr) (pins:List (Addr × Obj)) (s:Shared) (σ:St) (H:Hp) (x y:V) (v u:Value) (Q:VK),Inv X pins σ H s->RelV x v->RelV y u->r x y H Q ->
  subscripted slice false v u=operate [v,u] (getItem v u)->wpAny (model X.prog X.w) X.A (subscriptTail value slice v u) (EP X pins σ Q) X.xe s
def MtR(X:Cx)(id:String)(r:V->List V->Hp->VK->Prop):Prop:=
 ∀(pins:List (Addr × Obj)) (s:Shared) (σ:St) (H:Hp) (x:V) (xs:List V) (v:Value) (us:List Value) (Q:VK),Inv X pins σ H s->RelV x v->Vals xs us->r x xs H Q ->
  wpAny (model X.prog X.w) X.A (call (.builtin id) (v :: us)) (EP X pins σ Q) X.xe s
section
variable {X:Cx}{a b:Expr}{ta tb:TE}{pos:Pos}
theorem IxR.or{r r':R2}(h:IxR X r)(h':IxR X r'):IxR X (fun x y H Q=>r x y H Q\/r' x y H Q):=by
 intro value slice pins s σ H x y v u Q I rx ry q hs
 rcases q with q | q
 ·exact h value slice pins s σ H x y v u Q I rx ry q hs
 ·exact h' value slice pins s σ H x y v u Q I rx ry q hs
theorem zB{r:R2}(hr:IxR X r)(ha:PE X a ta)(hb:PE X b tb)(hs:zpQ b):PE X (.Subscript a b pos) (tOp r ta tb):=by
 intro pins s σ H Q I h
 exact Subscript_ (znE ha hb I h fun v u s2 x y H2 I2 rx ry q=>hr a b pins s2 σ H2 x y v u Q I2 rx ry q (hs _ _))
def zeQ(K:Fg):R2:=fun x y H Q=>∃p xs i v,x=.ref p/\y=.int i/\SqL K H p xs/\atI xs i=some v/\Q v H
def zql(K:Fg):R2:=fun x y H Q=>∃p xs i v,x=.ref p/\y=.int i/\SqT K H p xs/\atI xs i=some v/\Q v H
def zqq:R2:=fun x y H Q=>∃z i c,x=.str z/\y=.int i/\z.length<=sizeLine/\atI z.cps.toList i=some c/\Q (.str ⟨#[c]⟩) H
theorem ix_list:IxR X (zeQ X.K):=by
 intro value slice pins s σ H x y v u Q I rx ry h hs
 obtain⟨p,xs,i,z,rfl,rfl,hq,he,q⟩:=h
 cases rx
 obtain⟨t,rfl⟩:=ry
 obtain⟨its,r,pl,hz⟩:=I.list hq
 obtain⟨j,h1,h2,h3,h4,h5⟩:=zfB he
 obtain⟨w,ew,rw'⟩:=r.get h2
 have hl:=r.length
 have hn:=line63
 have fin:EP X pins σ Q w s:=⟨z,H,I,rw',q⟩
 by_cases h0:0<=i
 ·have hj:i.toNat=j:=by
   rw[seqIndex_of h0 h5]at h1
   exact yn h1
  exact item_listR pl.isList h0 (by omega) (by rw[hj];simpa using ew) fin hs
 ·have hj:(i+(its.toArray.size:Int)).toNat=j:=by
   rw[seqIndex_neg (by omega) h4]at h1
   rw[yq,<- hl]
   exact yn h1
  exact subscriptTail_builtinR (x:=w) pl.isList.typeIs slot_list_getitem.lookup
   (wpAny_getItem_list_neg (Q:=fun r s'=>r=w/\EP X pins σ Q r s') pl.isList (by omega) (by rw[yq]<;>omega) (by omega) (by rw[hj];simpa using ew) ⟨rfl,fin⟩) hs
theorem ix_tup:IxR X (zql X.K):=by
 intro value slice pins s σ H x y v u Q I rx ry h hs
 obtain⟨p,xs,i,z,rfl,rfl,hq,he,q⟩:=h
 cases rx
 obtain⟨t,rfl⟩:=ry
 obtain⟨its,r,pl,hz⟩:=I.tuple hq
 obtain⟨j,h1,h2,h3,h4,h5⟩:=zfB he
 obtain⟨w,ew,rw'⟩:=r.get h2
 have hl:=r.length
 have hn:=line63
 have fin:EP X pins σ Q w s:=⟨z,H,I,rw',q⟩
 exact subscriptTail_builtinR (x:=w) pl.typeIs slot_tuple_getitem.lookup
  (getItem_tuple (j:=j) (Q:=fun r s'=>r=w/\EP X pins σ Q r s') pl (by omega) (by omega) (by rw[yq,<- hl];exact h1) (by simpa using ew) ⟨rfl,fin⟩) hs
theorem zqh:IxR X zqq:=by
 intro value slice pins s σ H x y v u Q I rx ry h hs
 obtain⟨z,i,c,rfl,rfl,hz,he,q⟩:=h
 obtain⟨t,rfl⟩:=rx
 obtain⟨t',rfl⟩:=ry
 obtain⟨j,h1,h2,h3,h4,h5⟩:=zfB he
 have hl:z.cps.toList.length=z.length:=by simp[Str.length]
 rw[hl]at h1 h4 h5
 have hn:=line63
 exact tail_any (typeIs_str s z t) slot_str_getitem.lookup (getItem_str (c:=c) (by
  have e1:decide (i < -(2 ^ 63:Int))=false:=decide_eq_false (by omega)
  have e2:decide (i≥2 ^ 63)=false:=decide_eq_false (by omega)
  rw[e1,e2,Bool.or_false]) (by rw[h1];simpa using h2) ⟨.str ⟨#[c]⟩,H,I.tok _,⟨_,rfl⟩,q⟩) hs
def rIx(K:Fg):R2:=fun x y H Q=>zeQ K x y H Q\/zql K x y H Q\/zqq x y H Q
theorem zy:IxR X (rIx X.K):=ix_list.or (ix_tup.or zqh)
theorem zlA(its:List Value)(n j:Nat)(u:Value):Obj.mapSeq (·.setIfInBounds j u) { cls:=.type "list",data:=.seq its.toArray n }={ cls:=.type "list",data:=.seq (its.set j u).toArray n }:=by
 simp[Obj.mapSeq]
theorem Inv.lst{pins:List (Addr × Obj)}{σ:St}{H:Hp}{s:Shared}{p:Addr}{xs:List V}(I:Inv X pins σ H s)(h:H p=some (.lst xs)) :
  ∃(its:List Value) (n:Nat),Vals xs its/\s.heap.get? p=some { cls:=.type "list",data:=.seq its.toArray n }/\xs.length<=sizeLine:=by
 obtain⟨z,its,n,r,e⟩:=I.hok p _ h
 exact⟨its,n,r,e,z⟩
theorem Inv.lstUpd{pins:List (Addr × Obj)}{σ:St}{H:Hp}{s:Shared}{p:Addr}{xs ys:List V}{its its':List Value}{n n':Nat}{f:Obj->Obj}(I:Inv X pins σ H s)(h:H p=some (.lst xs))
  (ho:s.heap.get? p=some { cls:=.type "list",data:=.seq its.toArray n }) (hf:f { cls:=.type "list",data:=.seq its.toArray n }={ cls:=.type "list",data:=.seq its'.toArray n' }) (r:Vals ys its') (hz:ys.length<=sizeLine) (t:Nat) :
  Inv X pins σ (upd H p (.lst ys)) { s with heap:=s.heap.update p f,toks:=t }:=by
 have e:(s.heap.update p f).get? p=some { cls:=.type "list",data:=.seq its'.toArray n' }:=by
  rw[Heap.get?_update_self f ho (by rw[hf]<;>rfl),hf]
 refine I.write (x:=p) (e:=p) (by rw[h];trivial) (.inl rfl) (fun b u hb q=>(Heap.get?_update_other _ _ (ybc hb)).trans q) ⟨_,e⟩ ?_
 exact⟨hz,its',n',r,e⟩
def zgD:V->V->V->Hp->(Hp->Prop)->Prop:=fun o i v H Q=>∃p xs k j,o=.ref p/\i=.int k/\H p=some (.lst xs)/\ixN xs.length k=some j/\Q (upd H p (.lst (xs.set j v)))
theorem za6:zno X zgD:=by
 intro pins s σ H o i v ov iv u Q I ro ri rv h
 obtain⟨p,xs,k,j,rfl,rfl,hp,hj,q⟩:=h
 cases ro
 obtain⟨t,rfl⟩:=ri
 obtain⟨its,n,r,ho,hz⟩:=I.lst hp
 obtain⟨h1,h2,h3,h4⟩:=zkI hj
 have hl:=r.length
 have hn:=line63
 have I':Inv X pins σ (upd H p (.lst (xs.set j v))) { s with heap:=s.heap.update p (Obj.mapSeq (·.setIfInBounds j u)) }:=
  I.lstUpd hp ho (zlA its n j u) (r.set rv j) (by rw[yan];exact hz) s.toks
 by_cases h0:0<=k
 ·have hk:k.toNat=j:=by
   rw[seqIndex_of h0 h4]at h1
   exact yn h1
  exact PySem.W.ki_setAt ho h0 (by omega) (by rw[yq,<- hl];exact h4) (by rw[hk];exact⟨_,I',q⟩)
 ·have hk:(k+(its.toArray.size:Int)).toNat=j:=by
   rw[seqIndex_neg (by omega) h3]at h1
   rw[yq,<- hl]
   exact yn h1
  exact PySem.W.ki_setBack ho (by omega) (by rw[yq,<- hl];exact h3) (by omega) (by rw[hk];exact⟨_,I',q⟩)
theorem zi2(lo hi:Option Int)(n:Nat):(sliceBounds lo hi none n).1=((HT.sIx n 0 lo:Nat):Int)/\(sliceBounds lo hi none n).2.1=((HT.sIx n n hi:Nat):Int)/\(sliceBounds lo hi none n).2.2=1:=by
 refine⟨?_,?_,rfl⟩
 ·cases lo with
  | none=>simp[sliceBounds,HT.sIx]
  | some i=>
   simp only[sliceBounds,HT.sIx,Option.getD_none,show(1:Int)>0 by decide,if_true]
   by_cases h:i<0
   ·simp only[h,if_true]<;>omega
   ·simp only[h,if_false]<;>omega
 ·cases hi with
  | none=>simp[sliceBounds,HT.sIx]
  | some i=>
   simp only[sliceBounds,HT.sIx,Option.getD_none,show(1:Int)>0 by decide,if_true]
   by_cases h:i<0
   ·simp only[h,if_true]<;>omega
   ·simp only[h,if_false]<;>omega
theorem zim(its:List Value)(lo hi:Option Int):slicePick its.toArray lo hi none=((its.drop (HT.sIx its.length 0 lo)).take (HT.sIx its.length its.length hi-HT.sIx its.length 0 lo)).toArray:=by
 obtain⟨h1,h2,h3⟩:=zi2 lo hi its.toArray.size
 unfold slicePick
 rw[h1,h2,h3]
 simp only[sliceRange_one,pick_run,yq]<;>rfl
def zfo(K:Fg):V->Option Int->Option Int->Hp->VK->Prop:=fun x lo hi H Q=>∃a xs,x=.ref a/\SqL K H a xs/\∀p,H p=none->Q (.ref p) (upd H p (.lst (zd3 xs lo hi)))
theorem zfN:SlR X (zfo X.K):=by
 intro pins s σ H x v vl vu lo hi sl Q I rx hs pl pu h
 obtain⟨a,xs,rfl,hx,q⟩:=h
 cases rx
 obtain⟨its,r,ht,hz⟩:=I.list hx
 have hlen:=r.length
 refine⟨"list",_,slot_list_getitem.lookup,ht.isList.typeIs,?_⟩
 refine wpAny_getItem_list_slice ht.isList hs pl pu .none (by simp) ?_ (by rw[yq]<;>omega)
 rw[zim,<- hlen]
 refine⟨.ref s.heap.objs.size,_,I.laid (t':=s.toks) (o:=.lst (zd3 xs lo hi)) (fun b ob q=>Heap.get?_push_of_some _ q) (yg _) ?_,rfl,q _ (I.hok.fresh (yg _))⟩
 exact⟨yc (zj7 xs lo hi) hz,_,0,(r.drop (HT.sIx xs.length 0 lo)).take (HT.sIx xs.length xs.length hi-HT.sIx xs.length 0 lo),Heap.get?_push_size _ rfl⟩
def zdO:V->Bool
 | .non=>true
 | .bl _=>true
 | .int _=>true
 | .str _=>true
 | _=>false
def eqV:V->V->Bool
 | .non,.non=>true
 | .bl a,.bl b=>a == b
 | .bl a,.int b=>(if a then 1 else 0) == b
 | .int a,.bl b=>a == (if b then 1 else 0)
 | .int a,.int b=>a == b
 | .str a,.str b=>a == b
 | _,_=>false
theorem zq3{A:Around}{s:Shared}{y x:V}{u v:Value}(ry:RelV y u)(rx:RelV x v)(fy:zdO y=true)(fx:zdO x=true):SeqAt.EqAt A s u v (eqV y x):=by
 cases y with
 | non=>
  cases ry
  cases x with
  | non=>cases rx;exact SeqAt.EqAt.same _
  | bl b=>cases rx;exact SeqAt.EqAt.none_bool b
  | int b=>obtain⟨t,rfl⟩:=rx;exact SeqAt.EqAt.none_int b t
  | str b=>obtain⟨t,rfl⟩:=rx;exact SeqAt.EqAt.none_str b t
  | _=>exact absurd (show false=true from fx) yt
 | bl a=>
  cases ry
  cases x with
  | non=>cases rx;exact SeqAt.EqAt.bool_none a
  | bl b=>cases rx;exact SeqAt.EqAt.bool_bool a b
  | int b=>obtain⟨t,rfl⟩:=rx;exact SeqAt.EqAt.bool_int a b t
  | str b=>obtain⟨t,rfl⟩:=rx;exact SeqAt.EqAt.bool_str a b t
  | _=>exact absurd (show false=true from fx) yt
 | int a=>
  obtain⟨t',rfl⟩:=ry
  cases x with
  | non=>cases rx;exact SeqAt.EqAt.int_none a t'
  | bl b=>cases rx;exact SeqAt.EqAt.int_bool a t' b
  | int b=>obtain⟨t,rfl⟩:=rx;exact SeqAt.EqAt.int_int a t' b t
  | str b=>obtain⟨t,rfl⟩:=rx;exact SeqAt.EqAt.int_str a t' b t
  | _=>exact absurd (show false=true from fx) yt
 | str a=>
  obtain⟨t',rfl⟩:=ry
  cases x with
  | non=>cases rx;exact SeqAt.EqAt.str_none a t'
  | bl b=>cases rx;exact SeqAt.EqAt.str_bool a t' b
  | int b=>obtain⟨t,rfl⟩:=rx;exact SeqAt.EqAt.str_int a t' b t
  | str b=>obtain⟨t,rfl⟩:=rx;exact SeqAt.EqAt.str_str a t' b t
  | _=>exact absurd (show false=true from fx) yt
 | _=>exact absurd (show false=true from fy) yt
def eqU(x:V)(u:Value):Bool:=match u with
 | .none=>eqV .non x
 | .bool b=>eqV (.bl b) x
 | .int i _=>eqV (.int i) x
 | .str z _=>eqV (.str z) x
 | _=>false
theorem zl1{x y:V}{u:Value}(r:RelV y u)(f:zdO y=true):eqU x u=eqV y x:=by
 cases y with
 | non=>cases r;rfl
 | bl b=>cases r;rfl
 | int i=>obtain⟨t,rfl⟩:=r;rfl
 | str z=>obtain⟨t,rfl⟩:=r;rfl
 | _=>exact absurd (show false=true from f) yt
theorem zeq{x:V}:∀{xs:List V} {us:List Value},Vals xs us->xs.all zdO=true->us.any (eqU x)=xs.any fun y=>eqV y x
 | _,_,.nil,_=>rfl
 | y :: xs,u :: us,.cons r t,f=>by
  rw[ybF,yah]at f
  rw[ybG,ybG,zl1 r f.1,zeq t f.2]
theorem zd8{A:Around}{s:Shared}{x:V}{v:Value}(rx:RelV x v)(fx:zdO x=true):∀{xs:List V} {us:List Value},Vals xs us->xs.all zdO=true->∀u∈us,SeqAt.EqAt A s u v (eqU x u)
 | _,_,.nil,_=>fun u hu=>by cases hu
 | y :: xs,u :: us,.cons r t,f=>fun u' hu=>by
  rw[ybF,yah]at f
  rcases yM.mp hu with rfl | hu
  ·rw[zl1 r f.1];exact zq3 r rx f.1 fx
  ·exact zd8 rx fx t f.2 u' hu
def inV(x:V)(xs:List V):Bool:=xs.any fun y=>eqV y x
def rIn(K:Fg)(neg:Bool):R2:=fun x y H Q=>∃p xs,y=.ref p/\(SqL K H p xs\/SqT K H p xs)/\zdO x=true/\xs.all zdO=true/\Q (.bl (if neg then !inV x xs else inV x xs)) H
theorem zhZ:OpR X (compareOp .In) (rIn X.K false):=by
 intro pins s σ H x y v u Q I rx ry h
 obtain⟨p,xs,rfl,hq,fx,fs,q⟩:=h
 cases ry
 rcases hq with hq | hq
 ·obtain⟨its,r,pl,hz⟩:=I.list hq
  refine SeqAt.in_listAt (eqU x) pl.isList (fun w hw=>zd8 rx fx r fs w (by simpa using hw)) ⟨.bl _,H,I,rfl,?_⟩
  rw[show its.toArray.any (eqU x)=its.any (eqU x) by simp,zeq r fs]
  exact q
 ·obtain⟨its,r,pl,hz⟩:=I.tuple hq
  refine SeqAt.in_tupleAt (eqU x) pl (fun w hw=>zd8 rx fx r fs w (by simpa using hw)) ⟨.bl _,H,I,rfl,?_⟩
  rw[show its.toArray.any (eqU x)=its.any (eqU x) by simp,zeq r fs]
  exact q
theorem zfc:OpR X (compareOp .NotIn) (rIn X.K true):=by
 intro pins s σ H x y v u Q I rx ry h
 obtain⟨p,xs,rfl,hq,fx,fs,q⟩:=h
 cases ry
 rcases hq with hq | hq
 ·obtain⟨its,r,pl,hz⟩:=I.list hq
  refine SeqAt.notIn_listAt (eqU x) pl.isList (fun w hw=>zd8 rx fx r fs w (by simpa using hw)) ⟨.bl _,H,I,rfl,?_⟩
  rw[show its.toArray.any (eqU x)=its.any (eqU x) by simp,zeq r fs]
  exact q
 ·obtain⟨its,r,pl,hz⟩:=I.tuple hq
  refine SeqAt.notIn_tupleAt (eqU x) pl (fun w hw=>zd8 rx fx r fs w (by simpa using hw)) ⟨.bl _,H,I,rfl,?_⟩
  rw[show its.toArray.any (eqU x)=its.any (eqU x) by simp,zeq r fs]
  exact q
theorem zjm:CallR X (.builtin "len") (fun xs H Q=>∃p ys,xs=[.ref p]/\(SqL X.K H p ys\/SqT X.K H p ys)/\Q (.int ys.length) H):=by
 intro pins s σ H xs us Q I r h
 obtain⟨p,ys,rfl,hq,q⟩:=h
 obtain⟨u,rfl,rx⟩:=vals1 r
 cases rx
 have hn:=line63
 rcases hq with hq | hq
 ·obtain⟨its,r',pl,hz⟩:=I.list hq
  have hlen:=r'.length
  exact Calls.call_len_list pl.isList (by simp only[yq]<;>omega) ⟨.int ys.length,H,I.tok _,⟨s.toks+1,by rw[yq,hlen]⟩,q⟩
 ·obtain⟨its,r',pl,hz⟩:=I.tuple hq
  have hlen:=r'.length
  exact len_tuple pl (by simp only[yq]<;>omega) ⟨.int ys.length,H,I.tok _,⟨s.toks+1,by rw[yq,hlen]⟩,q⟩
theorem CallR.or{f:Value}{r r':List V->Hp->VK->Prop}(h:CallR X f r)(h':CallR X f r'):CallR X f (fun xs H Q=>r xs H Q\/r' xs H Q):=by
 intro pins s σ H xs us Q I rs q
 rcases q with q | q
 ·exact h pins s σ H xs us Q I rs q
 ·exact h' pins s σ H xs us Q I rs q
theorem zjn:CallR X (.type "list") (fun xs H Q=>∃p ys,xs=[.ref p]/\(SqL X.K H p ys\/SqT X.K H p ys)/\∀l,H l=none->Q (.ref l) (upd H l (.lst ys))):=by
 intro pins s σ H xs us Q I r h
 obtain⟨p,ys,rfl,hq,q⟩:=h
 obtain⟨u,rfl,rx⟩:=vals1 r
 cases rx
 have fin:∀(its:List Value),Vals ys its->ys.length<=sizeLine->∀(h':Heap) (c':Nat),(∀b o',s.heap.get? b=some o'->h'.get? b=some o') ->
   h'.get? s.heap.objs.size=some { cls:=.type "list",dict:=none,data:=.seq its.toArray c',slots:=#[] }->EP X pins σ Q (.ref s.heap.objs.size) { s with heap:=h' }:=fun its r' hz h' c' kp e=>
  ⟨.ref s.heap.objs.size,_,I.laid (t':=s.toks) kp (yg _) (show ObjOk X.prog X.w _ h' _ (.lst ys) from⟨hz,its,c',r',e⟩),rfl,q _ (I.hok.fresh (yg _))⟩
 rcases hq with hq | hq
 ·obtain⟨its,r',pl,hz⟩:=I.list hq
  have hlen:=r'.length
  obtain⟨o,ho,hc,n,hd⟩:=pl.isList
  exact call_list_seq p (.inl rfl) ho hc hd (fun h' c' kp e=>fin its r' hz h' c' kp e) (by simp only[yq]<;>omega)
 ·obtain⟨its,r',pl,hz⟩:=I.tuple hq
  have hlen:=r'.length
  obtain⟨o,ho,hc,n,hd⟩:=pl
  exact call_list_seq p (.inr rfl) ho hc hd (fun h' c' kp e=>fin its r' hz h' c' kp e) (by simp only[yq]<;>omega)
def tyV(K:Fg)(T:String)(x:V)(H:Hp):Prop:=match x with
 | .str _=>T = "str"
 | .int _=>T = "int"
 | .ref p=>(T = "list" /\ ∃xs,SqL K H p xs)\/(T = "tuple" /\ ∃o,K.lookup p=some o/\o.cls=.type "tuple" /\ o.dict=none) \/
   (T = "dict" /\ ((∃kvs,H p=some (.dK kvs))\/∃kvs,H p=some (.dT kvs)))\/(T = "set" /\ ∃S n,H p=some (.set S n))
 | _=>False
theorem zqt{pins:List (Addr × Obj)}{σ:St}{H:Hp}{s:Shared}{T:String}{x:V}{v:Value}(I:Inv X pins σ H s)(r:RelV x v)(ty:tyV X.K T x H) :
  s.TypeIs v T/\∀a,v=.ref a->∃ob,s.heap.get? a=some ob/\ob.dict=none:=by
 cases x with
 | str z=>
  obtain⟨t,rfl⟩:=r
  cases(show T = "str" from ty)
  exact⟨typeIs_str s z t,fun _ e=>nomatch e⟩
 | int i=>
  obtain⟨t,rfl⟩:=r
  cases(show T = "int" from ty)
  exact⟨typeIs_int s i t,fun _ e=>nomatch e⟩
 | ref p=>
  cases r
  rcases ty with⟨rfl,xs,hq⟩ | ⟨rfl,o,hk,hc,hd⟩ | ⟨rfl,hk⟩ | ⟨rfl,S,n,hk⟩
  ·obtain⟨its,_,pl,_⟩:=I.list hq
   refine⟨pl.isList.typeIs,fun a e=>?_⟩
   cases e
   obtain⟨o,n,e,c,hd,_⟩:=pl
   exact⟨o,e,hd⟩
  ·refine⟨⟨o,I.kIn p o hk,hc⟩,fun a e=>?_⟩
   cases e
   exact⟨o,I.kIn _ o hk,hd⟩
  ·have z:∃o,s.heap.get? p=some o/\o.ExactDict:=by
    rcases hk with⟨kvs,hk⟩ | ⟨kvs,hk⟩
    ·obtain⟨_,_,_,_,o,_,_,e,ex,_⟩:=I.hok p _ hk
     exact⟨o,e,ex⟩
    ·obtain⟨_,_,_,_,o,_,_,e,ex,_⟩:=I.hok p _ hk
     exact⟨o,e,ex⟩
   obtain⟨o,e,ex⟩:=z
   refine⟨⟨o,e,ex.1⟩,fun a e2=>?_⟩
   cases e2
   exact⟨o,e,ex.2.1⟩
  ·obtain⟨o,_,_,_,e,ex,_⟩:=I.hok p _ hk
   refine⟨⟨o,e,ex.1⟩,fun a e2=>?_⟩
   cases e2
   exact⟨o,e,ex.2.1⟩
 | _=>exact False.elim ty
def tBM(K:Fg)(T:String)(r:V->List V->Hp->VK->Prop)(to:TE)(t:TA):TE:=fun σ H Q=>to σ H fun x H1=>tyV K T x H1/\t σ H1 fun xs H2=>r x xs H2 Q
variable {o e:Expr}{es:List Expr}{to:TE}{t:TA}{name:Str}{apos cpos:Pos}{T id:String}{r:V->List V->Hp->VK->Prop}
theorem zc7(pa:PlainAttrs T)(slot:Slot T name id)(hty:typeOf (.builtin id)=pure (.type "method_descriptor"))(hm:MtR X id r)(ho:PE X o to)(ha:PA X (e :: es) t)
  (hbase:autoParam (attributeBase o name X.env (eval o X.env)=eval o X.env) Internal.aut2._auto_1)
  (hfew:autoParam (((backTo cpos (starEach (e :: es) X.env)).all (fun x=>!x.1)&&(backToKw cpos (keywordEach [] X.env)).all (fun x=>x.1.isSome)
   && decide ((e :: es).length+([]:List Keyword).length+(if([]:List Keyword).isEmpty then 0 else 1)<30))=true) Internal.aut2._auto_1)
  (hline:autoParam ((apos.endLine == cpos.line)=true) Internal.aut2._auto_1) (hs:autoParam (starEach (e :: es) X.env=(false,eval e X.env) :: starEach es X.env) Internal.aut2._auto_1) (hplain:autoParam ((backTo cpos (starEach es X.env)).any (·.1)=false) Internal.aut2._auto_1) :
  PE X (.Call (.Attribute o name apos) (e :: es) [] cpos) (tBM X.K T r to t):=by
 intro pins s σ H Q I h
 refine wpAny_Call_method_late hbase hfew hline rfl (thn (ho pins s σ H _ I h) fun v s1 zz=>?_)
 obtain⟨x,H1,I1,r1,ty,q1⟩:=zz
 obtain⟨h1,h2⟩:=zqt I1 r1 ty
 refine⟨T,id,pa,slot,hty,h1,h2,?_⟩
 have hA:=ha cpos pins s1 σ H1 _ I1 q1
 rw[hs]at hA ⊢
 refine Calls.callWith_builtin (by show(false || (backTo cpos (starEach es X.env)).any (·.1))=false;rw[hplain]<;>rfl) (Calls.evalArgs_plain ?_)
 exact thn hA fun us s2 ⟨vs,H2,I2,r2,q2⟩=>hm pins s2 σ H2 x vs v us Q I2 r1 r2 q2
/- xs.append(e),list.index on a module's tuple .. are MtR facts of 06m -/
end
def MtM(X:Cx)(id:String)(r:V->List V->Hp->VK->Prop):Prop:=
 ∀(pins:List (Addr × Obj)) (s:Shared) (σ:St) (H:Hp) (x:V) (xs:List V) (v:Value) (us:List Value) (Q:VK),Inv X pins σ H s->RelV x v->Vals xs us->r x xs H Q ->
  wpAny (model X.prog X.w) X.A (call (.builtin id) (v :: us)) (EP X pins σ Q) X.xe s
theorem Vals.one:∀{x:V} {us:List Value},Vals [x] us->∃u,us=[u]/\RelV x u
 | _,_,h=>by
  cases h with
  | cons r t=>cases t;exact⟨_,rfl,r⟩
theorem Vals.rep{xs:List V}{us:List Value}(h:Vals xs us):∀k:Nat,Vals (List.replicate k xs).flatten (List.replicate k us).flatten
 | 0=>.nil
 | k+1=>by
  rw[yav,yav,ya1,ya1]
  exact Vals.append h (Vals.rep h k)
theorem zhS(its:List Value):∀(k:Nat) (acc:List Value),
  List.foldl (fun x1 x2=>x1++x2) acc.toArray (List.replicate k its.toArray)=(acc++(List.replicate k its).flatten).toArray
 | 0,acc=>by simp
 | k+1,acc=>by
  have e:acc.toArray++its.toArray=(acc++its).toArray:=by simp
  have e2:(acc++its)++(List.replicate k its).flatten=acc++(List.replicate (k+1) its).flatten:=by
   rw[yav,ya1,ybH]
  rw[<- e2,<- zhS its k (acc++its),<- e,yav,List.foldl_cons]
section
variable {X:Cx}{pins:List (Addr × Obj)}{σ:St}{H:Hp}{s:Shared}{l b:Addr}{xs ys zs:List V}
theorem Inv.lset{its its':List Value}{n:Nat}{f:Array Value->Array Value}{t':Nat}(I:Inv X pins σ H s)(hH:H l=some (.lst xs))
  (e:s.heap.get? l=some { cls:=.type "list",data:=.seq its.toArray n }) (hf:f its.toArray=its'.toArray) (hv:Vals ys its') (hz:ys.length<=sizeLine) :
  Inv X pins σ (upd H l (.lst ys)) { s with heap:=s.heap.update l (Obj.mapSeq f),toks:=t' }:=by
 have q:=PySem.IsL.update e f
 rw[hf]at q
 refine I.write (x:=l) (e:=l) (by rw[hH];exact trivial) (.inl rfl) (fun b' u hb hu=>(Heap.get?_update_other s.heap (Obj.mapSeq f) (ybc hb)).trans hu) ⟨_,q⟩ ?_
 exact⟨hz,its',_,hv,q⟩
theorem Inv.lnew{its:List Value}{t':Nat}(I:Inv X pins σ H s)(hv:Vals ys its)(hz:ys.length<=sizeLine) :
  Inv X pins σ (upd H s.heap.objs.size (.lst ys)) { s with heap:=s.heap.push { cls:=.type "list",data:=.seq its.toArray },toks:=t' }:=
 I.laid (fun _ _ q=>Heap.get?_push_of_some _ q) (yg _) ⟨hz,its,0,hv,Heap.get?_push_size _ rfl⟩
theorem Inv.fresh(I:Inv X pins σ H s):H s.heap.objs.size=none:=I.hok.fresh (yg _)
theorem Inv.lstM(I:Inv X pins σ H s)(hH:H l=some (.lst xs)):xs.length<=sizeLine/\∃(its:List Value) (n:Nat),Vals xs its/\xs.length=its.length/\s.heap.get? l=some { cls:=.type "list",data:=.seq its.toArray n }:=by
 obtain⟨z,its,n,r,e⟩:=I.hok l _ hH
 exact⟨z,its,n,r,r.length,e⟩
theorem ziX{n:Nat}(h:n<=sizeLine):Builtin.List.listTooLong n=false:=by
 unfold Builtin.List.listTooLong
 exact decide_eq_false (by omega)
end
section
variable {X:Cx}
def zcs:V->List V->Hp->VK->Prop:=fun x vs H Q=>∃l xs y,x=.ref l/\vs=[y]/\H l=some (.lst xs)/\xs.length<sizeLine/\Q .non (upd H l (.lst (xs++[y])))
theorem zbj:MtM X "list.append" zcs:=by
 intro pins s σ H x vs v us Q I rx rv h
 obtain⟨l,xs,y,rfl,rfl,hH,hz,q⟩:=h
 cases rx
 obtain⟨u,rfl,ru⟩:=rv.one
 obtain⟨z,its,n,r,hl,e⟩:=I.lstM hH
 refine call_meets F.slot_list_append ⟨_,e,rfl⟩ F.entry_list_append (F.args_list_append_2 _ _) (PySem.list_append l its.toArray n u (by rw[yq];omega)) ⟨e,?_⟩
 refine⟨.non,_,I.lset (its':=its++[u]) hH e (by simp) (r.append (.cons ru .nil)) ?_,rfl,q⟩
 rw[yb,y8]
 omega
def zkw:V->List V->Hp->VK->Prop:=fun x vs H Q=>∃l b xs zs,x=.ref l/\vs=[.ref b]/\H l=some (.lst xs)/\H b=some (.lst zs)/\xs.length+zs.length<=sizeLine/\Q .non (upd H l (.lst (xs++zs)))
theorem zmb:MtM X "list.extend" zkw:=by
 intro pins s σ H x vs v us Q I rx rv h
 obtain⟨l,b,xs,zs,rfl,rfl,hH,hB,hz,q⟩:=h
 cases rx
 obtain⟨u,rfl,ru⟩:=rv.one
 cases ru
 obtain⟨z,its,n,r,hl,e⟩:=I.lstM hH
 obtain⟨z2,its2,n2,r2,hl2,e2⟩:=I.lstM hB
 have hsz:its.toArray.size+its2.toArray.size<=sizeLine:=by rw[yq,yq];omega
 have hlong:¬(!its.toArray.isEmpty&&Builtin.List.listTooLong (its.toArray.size+its2.toArray.size))=true:=by
  rw[ziX hsz,Bool.and_false]
  exact yt
 refine call_meets F.slot_list_extend ⟨_,e,rfl⟩ F.entry_list_extend (F.args_list_extend_2 _ _)
  (AutoSeq1.list_extend_list_list_0 l its.toArray n b its2.toArray n2 hlong (by rw[yq];omega) (by omega)) ⟨e,e2,?_⟩
 refine⟨.non,_,I.lset (its':=its++its2) hH e (by simp) (r.append r2) ?_,rfl,q⟩
 rw[yb]
 omega
def zqS:R2:=fun x y H Q=>∃l b xs zs,x=.ref l/\y=.ref b/\H l=some (.lst xs)/\H b=some (.lst zs)/\xs.length+zs.length<=sizeLine/\∀p,H p=none->Q (.ref p) (upd H p (.lst (xs++zs)))
theorem op_cat:OpR X (binaryOp .Add) zqS:=by
 intro pins s σ H x y v u Q I rx ry h
 obtain⟨l,b,xs,zs,rfl,rfl,hH,hB,hz,q⟩:=h
 cases rx
 cases ry
 obtain⟨z,its,n,r,hl,e⟩:=I.lstM hH
 obtain⟨z2,its2,n2,r2,hl2,e2⟩:=I.lstM hB
 refine PySem.P.add_list e e2 ?_ (by rw[yq,yq];omega)
 have ea:its.toArray++its2.toArray=(its++its2).toArray:=by simp
 rw[ea]
 exact⟨.ref _,_,I.lnew (t':=s.toks) (r.append r2) (by rw[yb];omega),rfl,q _ I.fresh⟩
def zqH:R2:=fun x y H Q=>∃l k xs,x=.ref l/\y=.int k/\H l=some (.lst xs)/\-(2 ^ 63)<=k/\k<2 ^ 63/\xs.length*k.toNat<=sizeLine /\
 ∀p,H p=none->Q (.ref p) (upd H p (.lst (List.replicate k.toNat xs).flatten))
theorem zpv{α:Type}(xs:List α)(k:Nat):(List.replicate k xs).flatten.length=k*xs.length:=by
 induction k with
 | zero=>simp
 | succ k ih=>rw[yav,ya1,yb,ih,Nat.succ_mul,Nat.add_comm]
theorem zqE:OpR X (binaryOp .Mult) zqH:=by
 intro pins s σ H x y v u Q I rx ry h
 obtain⟨l,k,xs,rfl,rfl,hH,h1,h2,hz,q⟩:=h
 cases rx
 obtain⟨t,rfl⟩:=ry
 obtain⟨z,its,n,r,hl,e⟩:=I.lstM hH
 have hlen:its.toArray.size*k.toNat<=sizeLine:=by rw[yq,<- hl];exact hz
 have hcap:¬its.toArray.size*k.toNat>(2 ^ 63-1)/8:=by
  have:(sizeLine:Nat)<=(2 ^ 63-1)/8:=by decide
  omega
 have hfit:¬(!Builtin.List.listFitsIndex k)=true:=by
  rw[fitsIndex_both h1 h2]
  exact yt
 have hlong:¬Builtin.List.listTooLong (its.toArray.size*k.toNat)=true:=by
  rw[ziX hlen]
  exact yt
 have hnew:List.foldl (fun x1 x2=>x1++x2) #[] (List.replicate (if its.toArray.isEmpty=true then 0 else k.toNat) its.toArray)=(List.replicate k.toNat its).flatten.toArray:=by
  have f0:∀m:Nat,List.foldl (fun x1 x2=>x1++x2) #[] (List.replicate m its.toArray)=(List.replicate m its).flatten.toArray:=fun m=>by
   have:=zhS its m []
   rw[List.nil_append]at this
   exact this
  rw[f0]
  cases its with
  | nil=>simp
  | cons a r'=>rw[if_neg (by simp)]
 refine wpAny_binaryOp_repeat_ref (T := "list") (U := "int") (by decide) ⟨_,e,rfl⟩ (fun s'=>typeIs_int s' k t) noFill_list_mul F.fills_int_mul F.slot_int_rmul repeat_list F.slot_int_index.lookup
  (call_meets F.slot_int_rmul (typeIs_int s k t) F.entry_int_rmul (F.args_int_rmul_2 _ _) (int___rmul___int_list k t l its.toArray n)
   ⟨e,rfl,⟨_,e,rfl⟩,call_meets F.slot_list_mul ⟨_,e,rfl⟩ F.entry_list_mul (F.args_list_mul_2 _ _) (AutoListH.list___mul___list_int_3 l its.toArray n k t hfit hcap hlong) ⟨e,?_⟩⟩)
 rw[hnew]
 exact⟨.ref _,_,I.lnew (t':=s.toks) (r.rep k.toNat) (by rw[zpv,Nat.mul_comm];exact hz),rfl,q _ I.fresh⟩
end
section
variable {prog:Program}{w:World}{A:Around}{E:Value->Shared->Prop}{s:Shared}
end
section
variable {X:Cx}
end
end Internal
namespace Att
open PySem PySem.W PySem.Calls PyProof.Rows
theorem zgT{P:Params}{h:Heap}:∀(ns:List Int) (vs:List Value),WellAll P h vs (ns.map WData.int)->IntsAre vs ns:=by
 intro ns
 induction ns with
 | nil=>
  intro vs w
  rw[List.map_nil]at w
  cases w
  exact .nil
 | cons n ns ih=>
  intro vs w
  rw[yai]at w
  cases w with
  | cons a b=>
   cases a
   exact .cons _ _ (ih _ b)
theorem script_of{l:OpenLaw}{n:Nat}(hn:l.most=some n){P:Params}{h:Heap}{args:List WData}{vals:List Value}
  (hpre:l.row.toRowW.claim.pre args=true) (hwl:WellAll P h vals args) :
  ∃a vs ns,vals=[Value.ref a]/\args=[WData.list (ns.map WData.int)]/\h.get? a=some { cls:=.type "list",data:=.seq vs.toArray }/\IntsAre vs ns/\ns.length<=n:=by
 have hsh:WShape.hasAll [] args [.list .int]=true:=(pre_splitW hpre).1
 have hc:l.pre.holds [] { args:=args }=true:=(pre_splitW hpre).2
 obtain⟨d,r,rfl,h1,h2⟩:=hasAllW_cons hsh
 obtain rfl:=hasAllW_nil h2
 obtain⟨xs,rfl,h3⟩:=hasW_list h1
 obtain⟨ns,rfl⟩:=items_int h3
 have hlen:ns.length<=n:=by
  unfold OpenLaw.pre at hc
  have h4:(WTm.not (.lt (.lit (.int (n:Int))) (.len (.arg 0)))).holds [] { args:=[.list (ns.map .int)] }=true:=by
   have h4:=(holds_andW hc).1
   rw[hn]at h4
   exact h4
  have h5:=condW_of h4 (w_not (w_lt w_lit (w_len_list (w_arg rfl))))
  rw[yh]at h5
  refine Nat.le_of_not_lt fun q=>?_
  have q':(n:Int)<((ns.length:Nat):Int):=by omega
  first
   | (rw[decide_eq_true q']at h5;exact absurd h5 (by decide))
   | (simp at h5;omega)
 cases hwl with
 | cons w1 w2=>
  cases w2
  cases w1 with
  | list ho hall=>exact⟨_,_,ns,rfl,rfl,ho,zgT ns _ hall,hlen⟩
theorem post_true(l:OpenLaw)(args:List WData):l.row.toRowW.claim.post args (.bool true) args=true:=
 postW_of (r:=l.row.toRowW) (X:=(true == true))
  (show WShape.has [] (.bool true) .bool=true by first | rfl | decide | simp[WShape.has,WShape.arms,WShape.armsAll])
  (show(WTm.eq .res (.lit (.bool true))).value [] { args:=args,res:=some (.bool true),after:=args }=some (.bool (true == true))from w_eq_bool (w_res rfl) w_lit) rfl
section
variable {prog:Program}{w:World}{A:Around}{E:Value->Shared->Prop}{s:Shared}{K:Frag}
def ledger(h:Heap)(L d:Addr):List (Addr × Obj):=(List.range h.objs.size).filterMap fun a=>if a=L\/a=d then none else(h.get? a).map fun o=>(a,o)
end
end Att
namespace Internal
open PySem PySem.Spec PyProof.Rows
theorem zh8:∀{vs:List Value} {ns:List Int},IntsAre vs ns->Vals (ns.map V.int) vs
 | _,_,.nil=>.nil
 | _,_,.cons n t h=>.cons ⟨t,rfl⟩ (zh8 h)
def zov(H:Hp):Prop:=∀b,H b=none\/∃o xs,H b=some (.frz o (.lst xs))
theorem znB{P:Program}{w:World}{K:Fg}{mg mb:Str->Option Value}{CX:CXT}{k:Nat}{fa a:Addr}{fd:FuncData}{x:Str}{sp:Sp}{s₁:Shared}{vs:List Value}{ns:List Int}
  (KX:K.In s₁.heap) (hns:s₁.heap.Ns mainGlobals mg) (hb:s₁.heap.Ns builtinsNs mb) (hbb:∀x:Str,x ≠ "__name__" -> mb x=bootBuiltins x) (hlim:s₁.heap.NoLimit) (hg:s₁.gens=#[])
  (ha:s₁.heap.get? a=some { cls:=.type "list",data:=.seq vs.toArray }) (hi:IntsAre vs ns) (hl:ns.length<=sizeLine) (hr:Room k callerA)
  (F:∀base:Heap,K.In base->base.Ns mainGlobals mg->FnOk P w K mg base CX k fa fd [x] sp) (hbind:∀(s:Shared) (u:Value),BindsTo s fd ⟨[u],[]⟩ [(x,u)])
  (hsp:∀H:Hp,zov H->SqL K H a (ns.map V.int)->sp [.ref a] H (fun v _=>v=.bl true) fun _ _ _=>False)
  (hCX:∀H e s',CX [] H s₁ (fun _ _ _=>False) e s'->False) :
  codeAny (model P w) callerA (.call (.ref fa) ⟨[.ref a],[]⟩) (fun r s'=>r=.ok (.ret (.bool true))/\OldK s₁.heap s'.heap/\s'.os=s₁.os/\AllBare s'.gens) s₁:=by
 have rv:=zh8 hi
 have lenV:=hi.length
 -- from an abstract heap in which nothing but the script may be tracked
 have core:∀H:Hp,zov H->SqL K H a (ns.map V.int)->HOk P w H s₁.heap->(∀b,H b≠none->b=a)->(H a≠none->K.lookup a=none) ->
   codeAny (model P w) callerA (.call (.ref fa) ⟨[.ref a],[]⟩) (fun r s'=>r=.ok (.ret (.bool true))/\OldK s₁.heap s'.heap/\s'.os=s₁.os/\AllBare s'.gens) s₁:=by
  intro H hO hS hok hA hK
  have base_of:∀{b:Addr} {o:Obj},s₁.heap.get? b=some o->H b=none->(zeM s₁.heap H).get? b=some o:=fun e n=>zoo e n
  have noA:∀{b:Addr} {o:Obj} {es:Array DictEntry} {ep:Nat},s₁.heap.get? b=some o->o.data=.dict es ep->H b=none:=fun {b o es ep} e d=>by
   cases q:H b with
   | none=>rfl
   | some u=>
    have e':b=a:=hA b (by rw[q];simp)
    subst e'
    rw[ha]at e;cases e
    have d':Data.seq vs.toArray _=Data.dict es ep:=d
    cases d'
  have nsK:∀{b:Addr} {m:Str->Option Value},s₁.heap.Ns b m->(zeM s₁.heap H).Ns b m:=fun {b m} ⟨o,es,ep,e,d,r⟩=>⟨o,es,ep,base_of e (noA e d),d,r⟩
  have hKb:K.In (zeM s₁.heap H):=fun b o e=>base_of (KX b o e) (by
   cases q:H b with
   | none=>rfl
   | some u=>
    have e':b=a:=hA b (by rw[q];simp)
    subst e'
    rw[hK (by rw[q];simp)]at e;cases e)
  have hM:Mod K mg (zeM s₁.heap H):=⟨hKb,nsK hns,⟨mb,nsK hb,hbb⟩,let ⟨mc,h1,h2⟩:=hlim;⟨mc,nsK h1,h2⟩⟩
  have e0:Env0 P w K mg (zeM s₁.heap H) callerA [] s₁ H:=⟨rfl,hM,fun b o e=>zpB e,Nat.le_of_eq (zmh _ _),trivial,fun b hb=>absurd (show b∈([]:List Addr)from hb) (by simp),hok,.of_eq hg⟩
  refine codeAny_mono ((F _ hKb (nsK hns)).run callerA [] s₁ H ⟨[.ref a],[]⟩ [.ref a] [.ref a] _ _ hr e0 (hbind s₁ (.ref a)) (.cons rfl .nil) (hsp H hO hS)) fun r s' h=>?_
  cases r with
  | error e=>exact(hCX H e s' h).elim
  | ok fl=>
   cases fl with
   | next=>exact False.elim h
   | brk=>exact False.elim h
   | cont=>exact False.elim h
   | ret u=>
    obtain⟨v,H',os,bare,un,hok',r',q⟩:=h
    have q':v=.bl true:=q
    subst q'
    obtain rfl:u=Value.bool true:=r'
    refine⟨rfl,OldK.of_keep fun b o e=>?_,os,bare⟩
    cases q:H b with
    | none=>exact un.keep b o e q (by intro z;exact absurd (show b∈([]:List Addr)from z) (by simp)) (by simp)
    | some u=>
     rcases hO b with z | ⟨ob,xs,z⟩
     ·rw[q]at z;cases z
     ·have z2:=un.frzs b ob _ z
      obtain⟨e1,_⟩:=hok b _ z
      obtain⟨e2,_⟩:=hok' b _ z2
      rw[e]at e1;cases e1
      exact e2
 cases hk:K.lookup a with
 | some o=>
  -- the script is one of the module's own objects
  have e:=KX a o hk
  rw[ha]at e
  cases e
  refine core (fun _=>none) (fun _=>.inl rfl) (.inr ⟨_,vs.toArray,_,hk,rfl,rfl,rfl,by rw[yq,lenV];exact hl,by simpa using rv⟩) (fun b u z=>by have z':(none:Option HO)=some u:=z;cases z') (fun b z=>absurd rfl z) fun z=>absurd rfl z
 | none=>
  refine core (fun b=>if b=a then some (.frz { cls:=.type "list",data:=.seq vs.toArray } (.lst (ns.map V.int)))else none) (fun b=>?_) (.inl (.inr ⟨{ cls:=.type "list",data:=.seq vs.toArray },if_pos rfl⟩)) (fun b u z=>?_) (fun b z=>?_) fun _=>hk
  ·by_cases hb:b=a
   ·exact .inr ⟨_,_,if_pos hb⟩
   ·exact .inl (if_neg hb)
  ·by_cases hb:b=a
   ·have z':=(if_pos hb).symm.trans z
    cases z'
    subst hb
    exact⟨ha,by rw[yh];exact hl,vs,_,rv,ha⟩
   ·have z':=(if_neg hb).symm.trans z
    cases z'
  ·by_cases hb:b=a
   ·exact hb
   ·exact absurd (if_neg hb) z
abbrev KOf{K:Fg}{h:Heap}(_:K.In h):Fg:=K
def zL(s:Stmt):Arguments:=match s with
 | .FunctionDef _ a _ _ _ _ _ _ _ _=>a
 | _=>{ posonlyargs:=[],args:=[],vararg:=none,kwonlyargs:=[],kw_defaults:=[],kwarg:=none,defaults:=[] }
def zI(s:Stmt):List Stmt:=match s with
 | .FunctionDef _ _ b _ _ _ _ _ _ _=>b
 | _=>[]
def zw(s:Stmt):Scope:=match s with
 | .FunctionDef _ _ _ _ _ _ sc _ _ _=>sc
 | _=>{ kind:=.function,names:=[],isGenerator:=false,isCoroutine:=false }
abbrev CX0:CXT:=fun _ _ _ _ _ _=>False
abbrev E0:XK:=fun _ _ _=>False
set_option genInjectivity false in
set_option genSizeOf false in
structure Fun(K:Fg)(x qual:Str)(st:Stmt)(f:Addr)(fd:FuncData):Prop where
 ex:∃(oc:Value) (od:Option Addr) (kV doc pm:Value) (an:Option Addr) (cdv ct:Value) (osl:Array (Option Value)),
  fd=PySem.W.fnOf x qual (zL st) (zI st) (zw st) .none kV doc pm an cdv ct/\K.lookup f=some ⟨oc,od,.func fd,osl⟩/\PySem.W.codeIn K cdv qual=true
 kp:PySem.W.keepIn K (.ref f)=true
section
variable {P:Program}{w:World}{K:Fg}{mg:Str->Option Value}{base:Heap}
theorem Fun.binds{x qual:Str}{st:Stmt}{f:Addr}{fd:FuncData}{ps:List Str}(F:Fun K x qual st f fd)
  (h:∀(kV doc pm:Value) (an:Option Addr) (cdv ct:Value) (us:List Value),us.length=ps.length->bindArgs (PySem.W.fnOf x qual (zL st) (zI st) (zw st) .none kV doc pm an cdv ct) ⟨us,[]⟩=pure (ps.zip us)):Binds K fd ps []:=by
 obtain⟨oc,od,kV,doc,pm,an,cdv,ct,osl,rfl,lk,hcd⟩:=F.ex
 exact .all (h kV doc pm an cdv ct)
theorem zC{x qual:Str}{st:Stmt}{f:Addr}{oc:Value}{od an:Option Addr}{osl:Array (Option Value)}{kV doc pm cdv ct:Value}(l:K.lookup f=some ⟨oc,od,.func (PySem.W.fnOf x qual (zL st) (zI st) (zw st) .none kV doc pm an cdv ct),osl⟩)
  (c:PySem.W.codeIn K cdv qual=true) (k:PySem.W.keepIn K (.ref f)=true):Fun K x qual st f (PySem.W.fnOf x qual (zL st) (zI st) (zw st) .none kV doc pm an cdv ct):=⟨⟨oc,od,kV,doc,pm,an,cdv,ct,osl,rfl,l,c⟩,k⟩
end
section
variable {X:Cx}
theorem pv(i:Nat){x:Str}{pos:Pos}(hN:autoParam (X.N[i]?=some x) Internal.aut2._auto_1)(hv:Vis X.env.scope x:=by first | exact Or.inl rfl | exact Or.inr (Or.inl rfl) | exact Or.inr (Or.inr rfl))(hd:autoParam ((x == ("__debug__" : Str))=false) Internal.aut1._auto_1)
  (hcd:autoParam ((x == ("__classdict__" : Str))=false) Internal.aut1._auto_1):PE X (.Name x pos) (zk6 i):=zqK hN hv hd hcd
end
def Same(H H':Hp):Prop:=∀b o,H b=some o->H' b=some o
theorem Same.refl(H:Hp):Same H H:=fun _ _ h=>h
theorem Same.trans{H H1 H2:Hp}(a:Same H H1)(b:Same H1 H2):Same H H2:=fun c o h=>b c o (a c o h)
theorem Same.seq{K:Fg}{H H':Hp}{a:Addr}{xs:List V}(e:Same H H')(h:SqL K H a xs):SqL K H' a xs:=by
 rcases h with(h | ⟨o,h⟩) | h
 ·exact .inl (.inl (e _ _ h))
 ·exact .inl (.inr ⟨o,e _ _ h⟩)
 ·exact .inr h
namespace BT
theorem abs:bootBuiltins "abs" = some (.builtin "abs"):=by decide +kernel
theorem len:bootBuiltins "len" = some (.builtin "len"):=by decide +kernel
theorem max:bootBuiltins "max" = some (.builtin "max"):=by decide +kernel
theorem min:bootBuiltins "min" = some (.builtin "min"):=by decide +kernel
theorem sum:bootBuiltins "sum" = some (.builtin "sum"):=by decide +kernel
theorem isinstance:bootBuiltins "isinstance" = some (.builtin "isinstance"):=by decide +kernel
theorem int:bootBuiltins "int" = some (.type "int"):=by decide +kernel
theorem bool:bootBuiltins "bool" = some (.type "bool"):=by decide +kernel
theorem list:bootBuiltins "list" = some (.type "list"):=by decide +kernel
theorem tuple:bootBuiltins "tuple" = some (.type "tuple"):=by decide +kernel
end BT
def sz(i:Int):Nat:=Builtin.Int.intBits i
theorem sz_le{i:Int}{n:Nat}:sz i<=n↔i.natAbs<2 ^ n:=by
 unfold sz Builtin.Int.intBits
 by_cases h:i=0
 ·subst h;simp;exact ybd n
 ·have h':(i == 0)=false:=by simp[h]
  rw[h',if_neg (by decide)]
  have hn:i.natAbs≠0:=by omega
  rw[<- Nat.log2_lt hn];omega
theorem zrc(i:Int):i.natAbs<2 ^ sz i:=sz_le.mp (yg _)
theorem zhx{i j:Int}(h:i.natAbs<=j.natAbs):sz i<=sz j:=sz_le.mpr (yab h (zrc j))
theorem ze8(i:Int):sz (-i)<=sz i:=zhx (by omega)
theorem zfg{i j:Int}{n:Nat}(h1:sz i<=n)(h2:sz j<=n):sz (i+j)<=n+1:=by
 rw[sz_le]at *;rw[ybr];omega
theorem zbN{i j:Int}{n m:Nat}(h1:sz i<=n)(h2:sz j<=m):sz (i*j)<=n+m:=by
 rw[sz_le]at *
 rw[ybv,ya0]
 exact Nat.mul_lt_mul'' h1 h2
theorem zhl(i j:Int):(i/j).natAbs<=i.natAbs:=Int.natAbs_ediv_le_natAbs i j
theorem zcp(i j:Int):sz (i/j)<=sz i:=zhx (zhl i j)
theorem zas{i:Int}{n:Nat}(h:i.natAbs<2 ^ n):sz i<=n:=sz_le.mpr h
theorem sz200{i:Int}(h1:-1606938044258990275541962092341162602522202993782792835301376<i)(h2:i<1606938044258990275541962092341162602522202993782792835301376):sz i<=200:=zas (by
 have:(2:Nat) ^ 200=1606938044258990275541962092341162602522202993782792835301376:=by decide
 omega)
section
variable {X:Cx}
def CMulS(i j:Int):Prop:=sz i+sz j<=134217728
theorem CMulS.ok{i j:Int}(h:CMulS i j):IntMulOk i j:=by
 unfold IntMulOk
 have e:Builtin.Int.intTooBig (((Builtin.Int.intBits i:Nat):Int)+((Builtin.Int.intBits j:Nat):Int))=false:=by
  unfold Builtin.Int.intTooBig
  have hb:bitsLine=134217728:=by decide
  rw[decide_eq_false]
  rw[hb]
  unfold CMulS sz at h
  omega
 rw[e];simp
theorem CMulS.of{i j:Int}{n m:Nat}(h1:sz i<=n)(h2:sz j<=m)(h:n+m<=134217728):CMulS i j:=by unfold CMulS;omega
theorem op_mulS:OpR X (binaryOp .Mult) (rI CMulS fun i j=>.int (i*j)):=opI fun _ _ _ _ _ _ _ hc q=>mul_int q hc.ok
def zeK:R2:=fun x y H Q=>rI CMulS (fun i j=>.int (i*j)) x y H Q\/zqH x y H Q
theorem zZ:OpR X (binaryOp .Mult) zeK:=op_mulS.or zqE
def zaE(K:Fg):R2:=fun x y H Q=>rI0 (fun i j=>.int (i+j)) x y H Q\/zqS x y H Q\/zoA K x y H Q
theorem zah:OpR X (binaryOp .Add) (zaE X.K):=op_add.or (op_cat.or zpE)
def zq8(i j:Int):Prop:=j≠0/\(sz j<=9000\/sz i<=sz j+4500)
def zix:R2:=rI zq8 fun i j=>.int (i.fdiv j)
theorem zmN{j:Int}(h:j≠0):sz j=j.natAbs.log2+1:=by
 have h0:j.natAbs≠0:=by omega
 have h1:sz j<=j.natAbs.log2+1:=sz_le.mpr (Nat.lt_log2_self)
 have h2:¬sz j<=j.natAbs.log2:=fun z=>by
  have:=sz_le.mp z
  have:=Nat.log2_self_le h0
  omega
 omega
theorem zig{i j:Int}(hj:j≠0)(h:sz i<=sz j+4500):Builtin.divisionGoesByPylong i j=false:=by
 have hy:(j == 0)=false:=by simpa using hj
 have key:(if i == 0 then 0 else i.natAbs.log2/30+1)<=(if j == 0 then 0 else j.natAbs.log2/30+1)+150:=by
  rw[hy]
  by_cases hi:i=0
  ·have:(i == 0)=true:=by simpa using hi
   rw[this]
   exact yF _
  ·have hx:(i == 0)=false:=by simpa using hi
   rw[hx]
   rw[zmN hi,zmN hj]at h
   show i.natAbs.log2/30+1<=j.natAbs.log2/30+1+150
   omega
 show(decide (_>300)&&decide ((if i == 0 then 0 else i.natAbs.log2/30+1)>(if j == 0 then 0 else j.natAbs.log2/30+1)+150))=false
 rw[decide_eq_false (Nat.not_lt.mpr key),Bool.and_false]
theorem za9:OpR X (binaryOp .FloorDiv) zix:=opI fun i j _ _ _ _ _ hc q=>floordiv_int hc.1 q (.inl (hc.2.elim (fun h=>PyProof.noPylong_of_log2 (by
 have h1:=sz_le.mp h
 by_cases h0:j.natAbs=0
 ·rw[h0];decide
 ·exact(Nat.log2_lt h0).mpr h1)) (zig hc.1)))
def zkS:R2:=rI (fun _ j=>j≠0) fun i j=>.int (i.fmod j)
theorem zcM:OpR X (binaryOp .Mod) zkS:=zo4
mutual
inductive RepD(K:Fg)(H:Hp):V->PyData->Prop
 | non:RepD K H .non .none
 | bl (b:Bool):RepD K H (.bl b) (.bool b)
 | int (i:Int):RepD K H (.int i) (.int i)
 | str (x:Str) (ok:PyData.canLay0 (.str x)=true):RepD K H (.str x) (.str x)
 | lst {a:Addr} {vs:List V} {ds:List PyData}:SqL K H a vs->RepAll K H vs ds->RepD K H (.ref a) (.list ds)
 | tup {a:Addr} {vs:List V} {ds:List PyData}:SqT K H a vs->RepAll K H vs ds->RepD K H (.ref a) (.tuple ds)
inductive RepAll(K:Fg)(H:Hp):List V->List PyData->Prop
 | nil:RepAll K H [] []
 | cons {v:V} {d:PyData} {vs:List V} {ds:List PyData}:RepD K H v d->RepAll K H vs ds->RepAll K H (v :: vs) (d :: ds)
end
mutual
theorem RepD.reads{pins:List (Addr × Obj)}{σ:St}{H:Hp}{s:Shared}(I:Inv X pins σ H s):∀{v:V} {d:PyData} {u:Value},RepD X.K H v d->RelV v u->∃as,Reads s.heap u d as
 | _,_,_,.non,r=>by cases(show _=Value.none from r);exact⟨_,.none⟩
 | _,_,_,.bl b,r=>by cases(show _=Value.bool b from r);exact⟨_,.bool b⟩
 | _,_,_,.int i,r=>by obtain⟨t,rfl⟩:=(show ∃t,_=Value.int i t from r);exact⟨_,.int i t⟩
 | _,_,_,.str x _,r=>by obtain⟨t,rfl⟩:=(show ∃t,_=Value.str x t from r);exact⟨_,.str x t⟩
 | _,_,_,.lst h k,r=>by
  cases(show _=Value.ref _ from r)
  obtain⟨its,rv,⟨o,n,h1,h2,_,h3⟩,_⟩:=I.list h
  obtain⟨as,q⟩:=RepAll.reads I k rv
  exact⟨_,.list h1 h2 h3 (by simpa using q)⟩
 | _,_,_,.tup h k,r=>by
  cases(show _=Value.ref _ from r)
  obtain⟨its,rv,⟨o,h1,h2,n,h3⟩,_⟩:=I.tuple h
  obtain⟨as,q⟩:=RepAll.reads I k rv
  exact⟨_,.tuple h1 h2 h3 (by simpa using q)⟩
theorem RepAll.reads{pins:List (Addr × Obj)}{σ:St}{H:Hp}{s:Shared}(I:Inv X pins σ H s):∀{vs:List V} {ds:List PyData} {us:List Value},RepAll X.K H vs ds->Vals vs us->∃as,ReadsAll s.heap us ds as
 | _,_,_,.nil,.nil=>⟨_,.nil⟩
 | _,_,_,.cons h k,.cons r t=>by
  obtain⟨as,q⟩:=RepD.reads I h r
  obtain⟨bs,p⟩:=RepAll.reads I k t
  exact⟨_,.cons q p⟩
end
mutual
theorem RepD.lay{K:Fg}{H:Hp}:∀{v:V} {d:PyData},RepD K H v d->d.canLay0=true
 | _,_,.non=>rfl
 | _,_,.bl _=>rfl
 | _,_,.int _=>rfl
 | _,_,.str _ ok=>ok
 | _,_,.lst _ k=>by rw[PyData.canLay0];exact RepAll.lay k
 | _,_,.tup _ k=>by rw[PyData.canLay0];exact RepAll.lay k
theorem RepAll.lay{K:Fg}{H:Hp}:∀{vs:List V} {ds:List PyData},RepAll K H vs ds->PyData.canLayAll0 ds=true
 | _,_,.nil=>rfl
 | _,_,.cons h k=>by rw[PyData.canLayAll0,RepD.lay h,RepAll.lay k];rfl
end
theorem Same.seqT{K:Fg}{H H':Hp}{a:Addr}{xs:List V}(e:Same H H')(h:SqT K H a xs):SqT K H' a xs:=by
 rcases h with(h | ⟨o,h⟩) | h
 ·exact .inl (.inl (e _ _ h))
 ·exact .inl (.inr ⟨o,e _ _ h⟩)
 ·exact .inr h
mutual
theorem Same.rep{K:Fg}{H H':Hp}(e:Same H H'):∀{v:V} {d:PyData},RepD K H v d->RepD K H' v d
 | _,_,.non=>.non
 | _,_,.bl b=>.bl b
 | _,_,.int i=>.int i
 | _,_,.str x ok=>.str x ok
 | _,_,.lst h k=>.lst (e.seq h) (e.repAll k)
 | _,_,.tup h k=>.tup (e.seqT h) (e.repAll k)
theorem Same.repAll{K:Fg}{H H':Hp}(e:Same H H'):∀{vs:List V} {ds:List PyData},RepAll K H vs ds->RepAll K H' vs ds
 | _,_,.nil=>.nil
 | _,_,.cons h k=>.cons (e.rep h) (e.repAll k)
end
def zaN(K:Fg):R2:=fun x y H Q=>(∃d e,RepD K H x d/\RepD K H y e/\min d.depth e.depth<=60/\Q (.bl (PyData.eqv d e)) H)\/rEq x y H Q
def zcx(K:Fg):R2:=fun x y H Q=>(∃d e,RepD K H x d/\RepD K H y e/\min d.depth e.depth<=60/\Q (.bl (!PyData.eqv d e)) H)\/rNe x y H Q
theorem zaF(hu:X.A.units+64<cLine):OpR X (compareOp .Eq) (zaN X.K):=by
 refine OpR.or ?_ zri
 intro pins s σ H x y v u Q I rx ry h
 obtain⟨d,e,h1,h2,hd,q⟩:=h
 obtain⟨as,r1⟩:=h1.reads I rx
 obtain⟨bs,r2⟩:=h2.reads I ry
 exact PySem.SeqAt.compareEq_reads r1 r2 h1.lay h2.lay (by omega) ⟨.bl _,H,I,rfl,q⟩
theorem zcF(hu:X.A.units+64<cLine):OpR X (compareOp .NotEq) (zcx X.K):=by
 refine OpR.or ?_ zru
 intro pins s σ H x y v u Q I rx ry h
 obtain⟨d,e,h1,h2,hd,q⟩:=h
 obtain⟨as,r1⟩:=h1.reads I rx
 obtain⟨bs,r2⟩:=h2.reads I ry
 exact PySem.SeqAt.compareNe_reads r1 r2 h1.lay h2.lay (by omega) ⟨.bl _,H,I,rfl,q⟩
def zeE(K:Fg):List V->Hp->VK->Prop:=fun xs H Q=>∃x c t b cv,xs=[x,c]/\RelV c cv/\TyOf K H x t/\PySem.W.kitOne K t cv=some b/\Q (.bl b) H
theorem zke:CallR X (.builtin "isinstance") (zeE X.K):=by
 intro pins s σ H xs us Q I r h
 obtain⟨x,c,t,b,cv,rfl,rc,ty,e,q⟩:=h
 obtain⟨u,w',rfl,r1,r2⟩:=vals2 r
 have ec:w'=cv:=by
  cases c with
  | ty n=>exact(show w'=_ from r2).trans (show cv=_ from rc).symm
  | ref a=>exact(show w'=_ from r2).trans (show cv=_ from rc).symm
  | non=>exact(show w'=_ from r2).trans (show cv=_ from rc).symm
  | bl b=>exact(show w'=_ from r2).trans (show cv=_ from rc).symm
  | _=>obtain⟨_,rfl⟩:=rc;simp[PySem.W.kitOne,PySem.W.kitCls]at e;cases ty<;>simp at e
 subst ec
 exact zlU I r1 ty e fun tk=>⟨.bl b,H,I.tok tk,rfl,q⟩
def zgW(K:Fg)(ta:TE):TE:=fun σ H Q=>ta σ H fun x H1=>∃k,zhg K x H1 k/\Q (.bl (!k)) H1
theorem zhA{a:Expr}{ta:TE}{pos:Pos}(ha:PE X a ta):PE X (.UnaryOp .Not a pos) (zgW X.K ta):=by
 intro pins s σ H Q I h
 refine UnaryOp_ (thn (ha pins s σ H _ I h) fun v s1 zz=>?_)
 obtain⟨x,H1,I1,r1,k,hk,q1⟩:=zz
 exact not_of (thn (zl3 pins s1 σ H1 x v (fun c H2=>Q (.bl (!c)) H2) I1 r1 ⟨k,hk,q1⟩) fun c s2 ⟨H2,I2,q2⟩=>⟨.bl (!c),H2,I2,rfl,q2⟩)
end
def zqI:List V->Hp->VK->Prop:=fun xs H Q=>∃i,xs=[.int i]/\Q (.int (if i<0 then -i else i)) H
def zaO(K:Fg):List V->Hp->VK->Prop:=fun xs H Q=>∃p ys,xs=[.ref p]/\(SqL K H p ys\/SqT K H p ys)/\Q (.int ys.length) H
def zoN:List V->Hp->VK->Prop:=fun xs H Q=>∃i j,xs=[.int i,.int j]/\Q (.int (if j>i then j else i)) H
def zoK:List V->Hp->VK->Prop:=fun xs H Q=>∃i j,xs=[.int i,.int j]/\Q (.int (if j<i then j else i)) H
def zaT(K:Fg):List V->Hp->VK->Prop:=fun xs H Q=>∃p ys,xs=[.ref p]/\(SqL K H p ys\/SqT K H p ys)/\∀l,H l=none->Q (.ref l) (upd H l (.lst ys))
section
variable {X:Cx}
theorem ze5:CallR X (.builtin "abs") zqI:=zod
theorem zW:CallR X (.builtin "len") (zaO X.K):=zjm
theorem zmf(hc:X.calm=true):CallR X (.builtin "max") zoN:=zlJ hc
theorem zmA(hc:X.calm=true):CallR X (.builtin "min") zoK:=zl6 hc
theorem zaI:CallR X (.type "list") (zaT X.K):=zjn
abbrev zbL(K:Fg)(ta:TE):TT:=fun σ H Q=>ta σ H fun x H'=>∃k,zhg K x H' k/\Q k H'
theorem zaj{a:Expr}{ta:TE}(ha:PE X a ta)(he:∀whole,isTrue a X.env whole=(do let v <- whole;standAt a.pos;holding [v] (truthy v))):PT X a (zbL X.K ta):=zne ha he
end
def znx(t u:TS):TS:=fun D σ H=>∃M:St->Hp->Prop,t { D with nx:=M } σ H/\∀σ' H',M σ' H'->u D σ' H'
theorem zfD{X:Cx}{st:Stmt}{rest:List Stmt}{t u:TS}(h1:PS X st t)(h2:PSs X rest u):PSs X (st :: rest) (znx t u):=by
 intro pins s σ H D I h
 obtain⟨M,ht,hM⟩:=h
 refine wpAny_execs_cons (thn (h1 pins s σ H _ I ht) fun f s1 q=>?_)
 cases f with
 | next=>
  obtain⟨σ',H',I',q'⟩:=q
  exact h2 pins s1 σ' H' D I' (hM σ' H' q')
 | brk=>exact q
 | cont=>exact q
 | ret u=>exact q
def NoX(CX:CXT):Prop:=∀(outer:List Env) (H:Hp) (s:Shared) (e:Value) (s':Shared),CX outer H s E0 e s'->False
theorem zG{CX:CXT}{X:Cx}(h:NoX CX):zjz CX X E0:=fun _ _ H s e s' _ q=>(h _ H s e s' q).elim
theorem Fun.okN{P:Program}{w:World}{K:Fg}{mg:Str->Option Value}{base:Heap}{CX:CXT}{x qual:Str}{st:Stmt}{f:Addr}{fd:FuncData}{N ps:List Str}{k:Nat}{sp:Sp}(F:Fun K x qual st f fd)(S:FnScope N ps (zw st))(len:∀vs H Q E,sp vs H Q E->vs.length=ps.length)
  (hbody:∀(cdv:Value) (A:Around) (outer:List Env) (s:Shared) (H:Hp) (vs:List V) (Q:VK) (E:XK),Room k (A.deeper (envOfC qual (zw st) s.heap.objs.size f cdv))->sp vs H Q E ->
   ∃t,PSs (zhu CX P w K mg base N qual (zw st) f cdv A outer s H E).nox (zI st) t/\t { nx:=fun _ H'=>Q .non H',rt:=Q } (start N vs) H):FnOk P w K mg base CX (k+1) f fd ps sp:=by
 obtain⟨oc,od,kV,doc,pm,an,cdv,ct,osl,rfl,lk,hcd⟩:=F.ex
 refine zre lk hcd S len fun A outer s H vs Q E hr hsp=>?_
 obtain⟨t,h,q⟩:=hbody cdv A outer s H vs Q E hr hsp
 exact⟨t,h.nox,q⟩
section
variable {σ:St}{H:Hp}{Q:VK}{D:Ends}{ta tb tc te:TE}{t u:TS}{K:Fg}
theorem zrm{i:Nat}{v:V}(e:σ[i]?=some (some v))(q:Q v H):zk6 i σ H Q:=⟨v,e,q⟩
theorem zr1{g:Int->Int->V}{i j:Int}(q:Q (g i j) H):rI0 g (.int i) (.int j) H Q:=⟨i,j,rfl,rfl,q⟩
theorem zrG{i j:Int}(q:Q (.int (i+j)) H):zaE K (.int i) (.int j) H Q:=.inl ⟨i,j,rfl,rfl,q⟩
theorem zk1{i j:Int}(c:CMulS i j)(q:Q (.int (i*j)) H):zeK (.int i) (.int j) H Q:=.inl ⟨i,j,rfl,rfl,c,q⟩
theorem zrC{i j:Int}(h0:0<j)(hs:sz j<=9000)(q:Q (.int (i/j)) H):zix (.int i) (.int j) H Q:=
 ⟨i,j,rfl,rfl,⟨by omega,.inl hs⟩,by show Q (.int (i.fdiv j)) H;rw[Int.fdiv_eq_ediv_of_nonneg _ (yay h0)];exact q⟩
theorem zja{i j:Int}(h0:j≠0)(hs:sz j<=9000)(q:Q (.int (i.fdiv j)) H):zix (.int i) (.int j) H Q:=⟨i,j,rfl,rfl,⟨h0,.inl hs⟩,q⟩
theorem zq9{i j:Int}(h0:0<j)(q:Q (.int (i%j)) H):zkS (.int i) (.int j) H Q:=
 ⟨i,j,rfl,rfl,by omega,by show Q (.int (i.fmod j)) H;rw[Int.fmod_eq_emod_of_nonneg _ (yay h0)];exact q⟩
theorem zrl{i j k:Int}(c:zlt i j)(e:i ^ j.toNat=k)(q:Q (.int k) H):rI zlt (fun i j=>.int (i ^ j.toNat)) (.int i) (.int j) H Q:=⟨i,j,rfl,rfl,c,by show Q (.int (i ^ j.toNat)) H;rw[e];exact q⟩
theorem zrz{i:Int}(q:Q (.int (-i)) H):rU (fun i=>.int (-i)) (.int i) H Q:=⟨i,rfl,q⟩
theorem dI{i j:Int}:decide (V.int i=V.int j)=decide (i=j):=by simp
theorem zlc{i j:Int}(q:Q (.bl (decide (i=j))) H):zaN K (.int i) (.int j) H Q:=.inr ⟨rfl,by rw[dI];exact q⟩
theorem zoH{i j:Int}(q:Q (.bl (!decide (i=j))) H):zcx K (.int i) (.int j) H Q:=.inr ⟨rfl,by rw[dI];exact q⟩
theorem zlr{x y:V}{d e:PyData}(h1:RepD K H x d)(h2:RepD K H y e)(hd:min d.depth e.depth<=60)(q:Q (.bl (PyData.eqv d e)) H):zaN K x y H Q:=.inl ⟨d,e,h1,h2,hd,q⟩
theorem zoO{x y:V}{d e:PyData}(h1:RepD K H x d)(h2:RepD K H y e)(hd:min d.depth e.depth<=60)(q:Q (.bl (!PyData.eqv d e)) H):zcx K x y H Q:=.inl ⟨d,e,h1,h2,hd,q⟩
theorem zlB{a:Addr}{xs:List V}{i:Int}{v:V}(h:SqL K H a xs)(e:atI xs i=some v)(q:Q v H):rIx K (.ref a) (.int i) H Q:=.inl ⟨a,xs,i,v,rfl,rfl,h,e,q⟩
theorem zrr{a:Addr}{xs:List V}{i:Int}{v:V}(h:SqT K H a xs)(e:atI xs i=some v)(q:Q v H):rIx K (.ref a) (.int i) H Q:=.inr (.inl ⟨a,xs,i,v,rfl,rfl,h,e,q⟩)
theorem zrT{T:Bool->Prop}{b:Bool}(q:T b):∃k,V.bl b=.bl k/\T k:=⟨b,rfl,q⟩
theorem zqw{T:Bool->Prop}{b:Bool}(q:T b):∃k,zhg K (.bl b) H k/\T k:=⟨b,rfl,q⟩
theorem zq2(q:ta σ H fun x H1=>∃c,x=.bl c/\if c=true then tb σ H1 Q else Q (.bl false) H1):zoR ta tb σ H Q:=q
theorem zqp(q:ta σ H fun x H1=>∃k,zhg K x H1 k/\Q (.bl (!k)) H1):zgW K ta σ H Q:=q
theorem zpS{r r':R2}(q:ta σ H fun x H1=>tb σ H1 fun y H2=>r x y H2 fun z H3=>∃k,z=.bl k/\(if k=true then tc σ H3 fun w' H4=>r' y w' H4 Q else Q (.bl false) H3)):zmW r r' ta tb tc σ H Q:=q
theorem zrF{p:Prop}[Decidable p]{A B:Prop}(h1:p->A)(h2:¬p->B):if decide p=true then A else B:=by
 by_cases h:p
 ·rw[if_pos (decide_eq_true h)];exact h1 h
 ·rw[if_neg (by rw[decide_eq_false h];exact yt)];exact h2 h
theorem zp1{p:Prop}[Decidable p]{A B:Prop}(h1:¬p->A)(h2:p->B):if(!decide p)=true then A else B:=by
 by_cases h:p
 ·rw[if_neg (by rw[decide_eq_true h];exact yt)];exact h2 h
 ·rw[if_pos (by rw[decide_eq_false h];rfl)];exact h1 h
theorem zi1{A B:Prop}(h:A):if true=true then A else B:=by rw[if_pos rfl];exact h
theorem zgz{A B:Prop}(h:B):if false=true then A else B:=by rw[if_neg yt];exact h
theorem zpJ{A B:Prop}(h:B):if(!true)=true then A else B:=zgz h
theorem zoU{A B:Prop}(h:A):if(!false)=true then A else B:=zi1 h
theorem zrA(M:St->Hp->Prop)(q:t { D with nx:=M } σ H)(r:∀σ' H',M σ' H'->u D σ' H'):znx t u D σ H:=⟨M,q,r⟩
theorem zb1{R:List V->Hp->Prop}(q:R [] H):zjO σ H R:=q
theorem zqd{sp:Sp}{E:XK}{tr:TA}(q:tr σ H fun vs H1=>sp vs H1 Q E):zlf sp [] E tr σ H Q:=by unfold zlf;simp only[yau];exact q
def zfh(Q:VK)(xs:List V)(H:Hp):Prop:=xs.length<=sizeLine/\∀p,H p=none->Q (.ref p) (upd H p (.tup xs))
def zn1(Q:VK)(xs:List V)(H:Hp):Prop:=xs.length<=sizeLine/\∀p,H p=none->Q (.ref p) (upd H p (.lst xs))
theorem zrb{tr:TA}(q:tr σ H (zfh Q)):zqm tr σ H Q:=q
theorem zrp{tr:TA}(q:tr σ H (zn1 Q)):zqi tr σ H Q:=q
theorem zrw{i:Int}(q:Q (.int (if i<0 then -i else i)) H):zqI [.int i] H Q:=⟨i,rfl,q⟩
theorem zqZ{a:Addr}{xs:List V}(h:SqL K H a xs)(q:Q (.int xs.length) H):zaO K [.ref a] H Q:=⟨a,xs,rfl,.inl h,q⟩
theorem zq5{a:Addr}{xs:List V}(h:SqT K H a xs)(q:Q (.int xs.length) H):zaO K [.ref a] H Q:=⟨a,xs,rfl,.inr h,q⟩
theorem zrf{i j:Int}(q:Q (.int (if j>i then j else i)) H):zoN [.int i,.int j] H Q:=⟨i,j,rfl,q⟩
theorem zrI{i j:Int}(q:Q (.int (if j<i then j else i)) H):zoK [.int i,.int j] H Q:=⟨i,j,rfl,q⟩
theorem zN{N:List Str}{vs:List V}{σ0:St}(e:start N vs=σ0)(q:t D σ0 H):t D (start N vs) H:=by rw[e];exact q
theorem zis{x c:V}{t' cv:Value}{b:Bool}(rc:RelV c cv)(ty:TyOf K H x t')(e:PySem.W.kitOne K t' cv=some b)(q:Q (.bl b) H):zeE K [x,c] H Q:=⟨x,c,t',b,cv,rfl,rc,ty,e,q⟩
end
theorem Same.new{H:Hp}{p:Addr}(h:H p=none)(o:HO):Same H (upd H p o):=fun b u q=>by rw[zaA (zaJ q h)];exact q
open PySem PySem.Spec PyProof.Rows
theorem zhb{env:Env}{scope:Scope}(h:∀y∈scope.names,y.2=.free->∃c,env.cells.lookup y.1=some c) :
  ∃cl,closureFor scope env=pure cl/\(∀x c,cl.lookup x=some c->env.cells.lookup x=some c)/\∀y∈scope.names,y.2=.free->cl.lookup y.1=env.cells.lookup y.1:=by
 unfold closureFor
 have key:∀(names:List (Str × NameKind)) (acc:List (Str × Addr)),(∀y∈names,y.2=.free->∃c,env.cells.lookup y.1=some c)->(∀x c,acc.lookup x=some c->env.cells.lookup x=some c) ->
   ∃cl,(forIn (m:=Sem) names acc fun(x:Str × NameKind) r=>if(x.2 == .free)=true then(do let a <- cellOf env x.1;pure (ForInStep.yield ((x.1,a) :: r)))else pure (ForInStep.yield r))=pure cl /\
    (∀x c,cl.lookup x=some c->env.cells.lookup x=some c)/\(∀y∈names,y.2=.free->cl.lookup y.1=env.cells.lookup y.1)/\(∀x,(∃c,acc.lookup x=some c)->cl.lookup x=env.cells.lookup x):=by
  intro names
  induction names with
  | nil=>intro acc _ ha;exact⟨acc,rfl,ha,fun _ hy=>(nomatch hy),fun x ⟨c,e⟩=>by rw[e,ha x c e]⟩
  | cons y r ih=>
   intro acc hn ha
   obtain⟨n,k⟩:=y
   have hr:∀y∈r,y.2=.free->∃c,env.cells.lookup y.1=some c:=fun y hy=>hn y (yX _ hy)
   by_cases hk:k=.free
   ·subst hk
    obtain⟨c,hc⟩:=hn (n,.free) yaj rfl
    have ha':∀x c',List.lookup x ((n,c) :: acc)=some c'->env.cells.lookup x=some c':=fun x c' e=>by
     rw[yO]at e
     cases hb:x == n with
     | true=>rw[hb]at e;cases e;rw[beq_iff_eq.mp hb];exact hc
     | false=>rw[hb]at e;exact ha x c' e
    obtain⟨cl,e,h1,h2,h3⟩:=ih ((n,c) :: acc) hr ha'
    refine⟨cl,?_,h1,fun y hy hf=>?_,fun x hx=>?_⟩
    ·rw[List.forIn_cons]
     simp only[cellOf,hc,beq_self_eq_true,if_true]
     exact e
    ·rcases yM.mp hy with rfl | hy
     ·exact h3 n ⟨c,by rw[yO];simp⟩
     ·exact h2 y hy hf
    ·refine h3 x ?_
     obtain⟨c',e'⟩:=hx
     rw[yO]
     cases hb:x == n with
     | true=>exact⟨c,rfl⟩
     | false=>exact⟨c',e'⟩
   ·obtain⟨cl,e,h1,h2,h3⟩:=ih acc hr ha
    refine⟨cl,?_,h1,fun y hy hf=>?_,h3⟩
    ·rw[List.forIn_cons]
     have hb:(k == NameKind.free)=false:=by simpa using hk
     simp only[hb,yby,if_false]
     exact e
    ·rcases yM.mp hy with rfl | hy
     ·exact absurd hf hk
     ·exact h2 y hy hf
 obtain⟨cl,e,h1,h2,_⟩:=key scope.names [] h (fun _ _ z=>by simp at z)
 refine⟨cl,?_,h1,h2⟩
 show(forIn scope.names [] _ >>= fun r=>pure r)=pure cl
 have e':(forIn (m:=Sem) scope.names [] fun(x:Str × NameKind) (r:List (Str × Addr))=>match x with | (name,kind)=>if(kind == .free)=true then(do let a <- cellOf env name;pure (ForInStep.yield ((name,a) :: r)))else pure (ForInStep.yield r))=pure cl:=e
 first
  | (rw[e'];rfl)
  | (simp only[e'];rfl)
theorem zcS:∀(names:List (Str × NameKind)) (n:Nat) (acc:List (Str × Addr)),cellsFrom n names acc=cellsFrom n names []++acc
 | [],_,_=>rfl
 | (name,kind) :: r,n,acc=>by
  unfold cellsFrom
  split
  ·rw[zcS r (n+1) ((name,n) :: acc),zcS r (n+1) [(name,n)],ybH];rfl
  ·exact zcS r n acc
theorem zdd{α:Type}{x:Str}:∀{l r:List (Str × α)},(l++r).lookup x=match l.lookup x with | some c=>some c | none=>r.lookup x
 | [],_=>rfl
 | (k,v) :: l,r=>by
  rw[List.cons_append,yO,yO]
  cases x == k with
  | true=>rfl
  | false=>exact zdd (l:=l)
def zpi(scope:Scope)(cs:List (Str × Addr))(C:Addr)(env:Env):Env:=
 { scope:=relabel scope env,locals:=C,globals:=env.globals,cells:=cs,qual:=env.qual,func:=none,code:=env.code,frame:=env.frame,builtins:=env.builtins }
theorem zih{M:Model}{A:Around}{E:Value->Shared->Prop}{s:Shared}{scope:Scope}{globals:Addr}{cl:List (Str × Addr)}{qual:Str}{env:Env}{Q:Env->Shared->Prop}
  (hQ:∀(own:List (Str × Addr)) (s':Shared),own=cellsFrom (s.heap.objs.size+1) scope.names []->s'={ s with heap:=s'.heap }->(∀b o,s.heap.get? b=some o->s'.heap.get? b=some o) ->
   s'.heap.Ns s.heap.objs.size (fun _=>none)->(∀n c,(n,c)∈own->s'.heap.IsCell c none/\s.heap.objs.size+1<=c)->(own.Pairwise fun x y=>x.2≠y.2) ->
   Q { scope:=scope,locals:=s.heap.objs.size,globals:=globals,cells:=own++cl,qual:=qual,func:=none,code:=env.code,frame:=env.frame,builtins:=env.builtins } s') :
  wpAny M A (newFunctionEnv scope globals cl [] qual none .none (some env)) Q E s:=by
 simp only[newFunctionEnv,Option.isSome_some,if_true]
 refine wpAny_bind (wpAny_alloc ?_)
 refine wpAny_bind (wpAny_layCells _ (fun name kind cells=>by cases hkc:kind == NameKind.cell<;>simp[hkc]) _ _ _ _ ?_)
 have ok:=cellsFrom_ok scope.names (s.heap.push { cls:=.type "dict",data:=.dict #[] }) (s.heap.objs.size+1) [] ⟨fun _ _ hm=>(nomatch hm),List.Pairwise.nil⟩ (by rw[Heap.size_push];exact yg _)
 rw[Heap.size_push]at ok
 rw[show({ s with heap:=s.heap.push { cls:=.type "dict",data:=.dict #[] } }:Shared).heap.objs.size=s.heap.objs.size+1 from Heap.size_push ..]
 rw[zcS]
 have fin:=hQ _ { s with heap:=pushCells (s.heap.push { cls:=.type "dict",data:=.dict #[] }) scope.names } rfl rfl (fun b o e=>pushCells_keeps _ _ b o (Heap.get?_push_of_some _ e))
  ((Heap.Ns.new s.heap (.type "dict")).keeps (pushCells_keeps _ _)) ok.empty ok.apart
 exact wpAny_bind (wpAny_pure (wpAny_pure fin))
theorem zdg{env:Env}:∀{names:List (Str × NameKind)} {x:Str},names.lookup x=some .free ->
  (names.map fun(n,k)=>if(k == NameKind.free&&env.scope.kind == .function&&env.kindOf n == some .cell) then(n,NameKind.cell) else(n,k)).lookup x=some .cell \/
  (names.map fun(n,k)=>if(k == NameKind.free&&env.scope.kind == .function&&env.kindOf n == some .cell) then(n,NameKind.cell) else(n,k)).lookup x=some .free
 | [],_,h=>by simp at h
 | (n,k) :: r,x,h=>by
  have ih:=@zdg env r x
  show List.lookup x ((if(k == NameKind.free&&env.scope.kind == .function&&env.kindOf n == some .cell)=true then(n,NameKind.cell) else(n,k)) :: _)=_\/List.lookup x ((if(k == NameKind.free&&env.scope.kind == .function&&env.kindOf n == some .cell)=true then(n,NameKind.cell) else(n,k)) :: _)=_
  by_cases hc:(k == NameKind.free&&env.scope.kind == .function&&env.kindOf n == some .cell)=true
  ·rw[if_pos hc]
   cases hx:x == n with
   | true=>left;simp[yO,hx]
   | false=>simp only[yO,hx]at h ⊢;exact ih h
  ·rw[if_neg hc]
   cases hx:x == n with
   | true=>simp only[yO,hx]at h ⊢;exact .inr h
   | false=>simp only[yO,hx]at h ⊢;exact ih h
theorem zdh{env:Env}:∀{names:List (Str × NameKind)} {x:Str},(names.map fun(n,k)=>if(k == NameKind.free&&env.scope.kind == .function&&env.kindOf n == some .cell) then(n,NameKind.cell) else(n,k)).lookup x=some .cell \/
  (names.map fun(n,k)=>if(k == NameKind.free&&env.scope.kind == .function&&env.kindOf n == some .cell) then(n,NameKind.cell) else(n,k)).lookup x=some .free->names.lookup x=some .cell\/names.lookup x=some .free
 | [],_,h=>by simp at h
 | (n,k) :: r,x,h=>by
  have ih:=@zdh env r x
  have h':List.lookup x ((if(k == NameKind.free&&env.scope.kind == .function&&env.kindOf n == some .cell)=true then(n,NameKind.cell) else(n,k)) :: (r.map fun(n,k)=>if(k == NameKind.free&&env.scope.kind == .function&&env.kindOf n == some .cell) then(n,NameKind.cell) else(n,k)))=some .cell \/
   List.lookup x ((if(k == NameKind.free&&env.scope.kind == .function&&env.kindOf n == some .cell)=true then(n,NameKind.cell) else(n,k)) :: (r.map fun(n,k)=>if(k == NameKind.free&&env.scope.kind == .function&&env.kindOf n == some .cell) then(n,NameKind.cell) else(n,k)))=some .free:=h
  clear h
  by_cases hc:(k == NameKind.free&&env.scope.kind == .function&&env.kindOf n == some .cell)=true
  ·have hk:k=.free:=by
    rw[yah,yah]at hc
    exact beq_iff_eq.mp hc.1.1
   subst hk
   rw[if_pos hc]at h'
   cases hx:x == n with
   | true=>right;simp[yO,hx]
   | false=>simp only[yO,hx]at h' ⊢;exact ih h'
  ·rw[if_neg hc]at h'
   cases hx:x == n with
   | true=>simp only[yO,hx]at h' ⊢;exact h'
   | false=>simp only[yO,hx]at h' ⊢;exact ih h'
theorem zdD{env:Env}:∀{names:List (Str × NameKind)} {x:Str},names.lookup x=some .cell ->
  (names.map fun(n,k)=>if(k == NameKind.free&&env.scope.kind == .function&&env.kindOf n == some .cell) then(n,NameKind.cell) else(n,k)).lookup x=some .cell
 | [],_,h=>by simp at h
 | (n,k) :: r,x,h=>by
  have ih:=@zdD env r x
  show List.lookup x ((if(k == NameKind.free&&env.scope.kind == .function&&env.kindOf n == some .cell)=true then(n,NameKind.cell) else(n,k)) :: _)=_
  by_cases hc:(k == NameKind.free&&env.scope.kind == .function&&env.kindOf n == some .cell)=true
  ·rw[if_pos hc]
   cases hx:x == n with
   | true=>simp[yO,hx]
   | false=>simp only[yO,hx]at h ⊢;exact ih h
  ·rw[if_neg hc]
   cases hx:x == n with
   | true=>simp only[yO,hx]at h ⊢;exact h
   | false=>simp only[yO,hx]at h ⊢;exact ih h
theorem zo6{names:List (Str × NameKind)}:∀{n:Nat} {acc:List (Str × Addr)} {x:Str} {c:Addr},(x,c)∈cellsFrom n names acc->(x,.cell)∈names\/(x,c)∈acc:=by
 induction names with
 | nil=>intro n acc x c h;exact .inr h
 | cons y r ih=>
  intro n acc x c h
  obtain⟨nm,k⟩:=y
  unfold cellsFrom at h
  split at h
  ·rename_i hk
   rcases ih h with h | h
   ·exact .inl (yX _ h)
   ·rcases yM.mp h with e | h
    ·cases e
     rw[beq_iff_eq.mp hk];exact .inl yaj
    ·exact .inr h
  ·rcases ih h with h | h
   ·exact .inl (yX _ h)
   ·exact .inr h
theorem zfw{names:List (Str × NameKind)}(nd:(names.map (·.1)).Nodup){x:Str}{k:NameKind}(h:(x,k)∈names):names.lookup x=some k:=by
 induction names with
 | nil=>cases h
 | cons y r ih=>
  obtain⟨n,k'⟩:=y
  rw[yai,yaU]at nd
  rw[yO]
  rcases yM.mp h with e | hm
  ·cases e;simp
  ·have hne:x≠n:=fun e=>nd.1 (yaz.mpr ⟨(x,k),hm,e⟩)
   have hb:(x == n)=false:=by simpa using hne
   rw[hb];exact ih nd.2 hm
def zbJ(X:Cx)(scope:Scope)(Ni:List Str)(cs:List (Str × Addr))(s₃:Shared)(H₃:Hp)(fp:List Addr)(pins:List (Addr × Obj)):Cx:=
 { X with N:=Ni,s₀:=s₃,H₀:=H₃,env:=zpi scope cs s₃.heap.objs.size X.env,outer:=X.stack,stack:=X.stack,ex:=fp,fn:=fun y=>decide (scope.names.lookup y=some .cell),pn:=X.pn++pins,xe:=fun _ _=>False }
set_option genInjectivity false in
set_option genSizeOf false in
structure CompScope(X:Cx)(scope:Scope)(Ni:List Str)(caps:List (Option Nat)):Prop where
 kind:scope.kind=.function
 ndn:(scope.names.map (·.1)).Nodup
 free:∀y∈scope.names,y.2=.free->X.env.kindOf y.1=some .cell\/X.env.kindOf y.1=some .free
 nd:Ni.Nodup
 len:caps.length=Ni.length
 cap:∀(i:Nat) (y:Str) (j:Nat),Ni[i]?=some y->caps[i]?=some (some j)->X.N[j]?=some y/\scope.names.lookup y=some .free
def zkq(so:Scope)(No:List Str)(scope:Scope)(Ni:List Str)(caps:List (Option Nat)):Bool:=
 (scope.kind == .function)&&decide ((scope.names.map (·.1)).Nodup)&&(scope.names.all fun y=>y.2 != .free || so.names.lookup y.1 == some .cell || so.names.lookup y.1 == some .free) &&
 decide Ni.Nodup&&(caps.length == Ni.length)&&((Ni.zip caps).all fun p=>match p.2 with | none=>true | some j=>No[j]? == some p.1&&scope.names.lookup p.1 == some .free)
theorem zP{X:Cx}{scope:Scope}{Ni:List Str}{caps:List (Option Nat)}(h:zkq X.env.scope X.N scope Ni caps=true):CompScope X scope Ni caps:=by
 unfold zkq at h
 simp only[yah]at h
 obtain⟨⟨⟨⟨⟨h1,h2⟩,h3⟩,h4⟩,h5⟩,h6⟩:=h
 refine⟨beq_iff_eq.mp h1,of_decide_eq_true h2,fun y hy hf=>?_,of_decide_eq_true h4,beq_iff_eq.mp h5,fun i y j e1 e2=>?_⟩
 ·have q:=ya9.mp h3 y hy
  rw[ybS,ybS]at q
  rcases q with(q | q) | q
  ·rw[hf]at q;simp at q
  ·exact .inl (beq_iff_eq.mp q)
  ·exact .inr (beq_iff_eq.mp q)
 ·have hm:(y,some j)∈Ni.zip caps:=by
   refine ya (i:=i) ?_
   rw[List.getElem?_zip_eq_some];exact⟨e1,e2⟩
  have q:=ya9.mp h6 _ hm
  simp only[yah]at q
  exact⟨beq_iff_eq.mp q.1,beq_iff_eq.mp q.2⟩
def zdu(caps:List (Option Nat))(σ:St):St:=caps.map fun o=>match o with | some j=>(σ[j]?).getD none | none=>none
section
variable {X:Cx}
set_option genInjectivity false in
set_option genSizeOf false in
structure CompAt(X:Cx)(scope:Scope)(own cl:List (Str × Addr))(s₃:Shared):Prop where
 oeq:own=cellsFrom (s₃.heap.objs.size+1) scope.names []
 apart:own.Pairwise fun x y=>x.2≠y.2
 above:∀n c,(n,c)∈own->s₃.heap.objs.size+1<=c
 sub:∀x c,cl.lookup x=some c->X.env.cells.lookup x=some c
 all:∀y∈scope.names,y.2=.free->cl.lookup y.1=X.env.cells.lookup y.1
theorem CompAt.look{scope:Scope}{own cl:List (Str × Addr)}{s₃:Shared}(T:CompAt X scope own cl s₃){x:Str}{c:Addr}(h:(own++cl).lookup x=some c):(x,c)∈own\/X.env.cells.lookup x=some c:=by
 rw[zdd]at h
 cases e:own.lookup x with
 | some c'=>rw[e]at h;cases h;exact .inl (mem_of_lookup e)
 | none=>rw[e]at h;exact .inr (T.sub x c h)
theorem zgq{pins:List (Addr × Obj)}{σ:St}{H:Hp}{s:Shared}(I:Inv X pins σ H s){x:Str}{c:Addr}(h:X.env.cells.lookup x=some c):c<s.heap.objs.size:=by
 obtain⟨v,o,ho,_⟩:=I.cell x c h
 exact Heap.lt_size ho
theorem zps{scope:Scope}{Ni:List Str}{caps:List (Option Nat)}{own cl:List (Str × Addr)}{pins:List (Addr × Obj)}{σ:St}{H₃:Hp}{s₃:Shared}{fp:List Addr}
  (S:CompScope X scope Ni caps) (T:CompAt X scope own cl s₃) (I:Inv X pins σ H₃ s₃) (f:∀b∈fp,zde X pins H₃ b) (hf:∀b∈fp,b<s₃.heap.objs.size):(zbJ X scope Ni (own++cl) s₃ H₃ fp pins).Ok where
 mod:=I.ok.mod
 kind:=S.kind
 glob:=I.ok.glob
 blt:=I.ok.blt
 above:=yg _
 inj:=fun x y c h1 h2=>by
  rcases T.look h1 with a | a
  ·rcases T.look h2 with b | b
   ·exact name_of_addr T.apart a b
   ·exact absurd (yz (zgq I b) (ybI (T.above x c a))) (yaa _)
  ·rcases T.look h2 with b | b
   ·exact absurd (yz (zgq I a) (ybI (T.above y c b))) (yaa _)
   ·exact I.ok.inj x y c a b
 has:=fun x h=>by
  have h':=zdh (env:=X.env) (names:=scope.names) (x:=x) h
  show ∃c,(own++cl).lookup x=some c
  rw[zdd]
  cases e:own.lookup x with
  | some c=>exact⟨c,rfl⟩
  | none=>
   rcases h' with h' | h'
   ·obtain⟨c,ec⟩:=zeD (n:=s₃.heap.objs.size+1) h'
    rw[<- T.oeq,e]at ec;cases ec
   ·have hm:=mem_of_lookup h'
    obtain⟨c,ec⟩:=I.ok.has x (S.free _ hm rfl)
    exact⟨c,(T.all _ hm rfl).trans ec⟩
 cab:=fun x c h1 h2=>by
  have hk:scope.names.lookup x=some .cell:=of_decide_eq_true h1
  obtain⟨c',ec⟩:=zeD (n:=s₃.heap.objs.size+1) hk
  rw[<- T.oeq]at ec
  have h2':(own++cl).lookup x=some c:=h2
  rw[zdd,ec]at h2'
  cases h2'
  have:=T.above x _ (mem_of_lookup ec)
  show s₃.heap.objs.size<=_
  omega
 hd:=I.ok.hd
 frames:=I.ok.frames
 stk:=.inl rfl
 exf:=fun b hb=>⟨yy (hf b hb),fun x c h=>by
  rcases T.look h with a | a
  ·exact fun e=>absurd (yz (hf b hb) (ybI (e▸T.above x c a))) (yaa _)
  ·exact(f b hb).2.2.2.2.1 x c a⟩
 bs:=I.bs
 bsz:=yc I.ok.bsz I.sz
 noex:=fun b o e hb=>by
  rcases(f b hb).2.2.2.1 with z | z
  ·exact I.ok.noex b o e z
  ·have h1:b<X.base.objs.size:=Heap.lt_size e
   have h2:=I.ok.bsz
   exact absurd (yz h1 (yc h2 z)) (yaa _)
 exfs:=fun b hb hm=>by
  rcases yM.mp (I.stkSub b hm)with z | z
  ·exact(f b hb).2.1 z
  ·exact(f b hb).2.2.1 z
 funs:=I.stack
 frf:=I.stkFree
theorem zkT{scope:Scope}{Ni:List Str}{caps:List (Option Nat)}{own cl:List (Str × Addr)}{pins:List (Addr × Obj)}{σ:St}{H₃:Hp}{s₃ s₄:Shared}{fp:List Addr}
  (S:CompScope X scope Ni caps) (T:CompAt X scope own cl s₃) (I:Inv X pins σ H₃ s₃) (f:∀b∈fp,zde X pins H₃ b) (hf:∀b∈fp,b<s₃.heap.objs.size)
  (e4:s₄={ s₃ with heap:=s₄.heap }) (k:∀b o,s₃.heap.get? b=some o->s₄.heap.get? b=some o) (ns:s₄.heap.Ns s₃.heap.objs.size fun _=>none) (oc:∀n c,(n,c)∈own->s₄.heap.IsCell c none) :
  Inv (zbJ X scope Ni (own++cl) s₃ H₃ fp pins) [] (zdu caps σ) H₃ s₄ where
 ok:=zps S T I f hf
 os:=by rw[e4];rfl
 bare:=by rw[e4];exact I.bare
 base:=Un.kept k
 loc:=by
  refine⟨_,ns,fun i x v h1 h2 h3=>?_⟩
  have h2':(zdu caps σ)[i]?=some (some v):=h2
  unfold zdu at h2'
  rw[yf]at h2'
  cases ec:caps[i]? with
  | none=>rw[ec]at h2';cases h2'
  | some o=>
   cases o with
   | none=>rw[ec]at h2';cases h2'
   | some j=>
    rw[ec]at h2'
    have h2'':(σ[j]?).getD none=some v:=yn h2'
    have hj:σ[j]?=some (some v):=by
     cases e:σ[j]? with
     | none=>rw[e]at h2'';cases h2''
     | some z=>rw[e]at h2'';exact congrArg some h2''
    obtain⟨hN,hfr⟩:=S.cap i x j h1 ec
    have hm:=mem_of_lookup hfr
    have hk:=S.free _ hm rfl
    obtain⟨m,_,hl⟩:=I.loc
    obtain⟨u,r,l⟩:=hl j x v hN hj (by rcases hk with z | z;exact .inr (.inl z);exact .inr (.inr z))
    refine⟨u,r,.inr ⟨zdg hfr,?_⟩⟩
    rcases l with⟨z,_⟩ | ⟨_,c,hc,q⟩
    ·have z':X.env.kindOf x=some .local:=z
     rcases hk with y | y<;>(have y':X.env.kindOf x=_:=y;rw[z']at y';cases y')
    ·refine⟨c,?_,q.keeps k⟩
     show(own++cl).lookup x=some c
     rw[zdd]
     cases eo:own.lookup x with
     | some c'=>
      rw[T.oeq]at eo
      rcases zo6 (mem_of_lookup eo)with y | y
      ·have:=zfw S.ndn y
       rw[hfr]at this;cases this
      ·cases y
     | none=>exact(T.all _ hm rfl).trans hc
 cell:=fun x c h=>by
  rcases T.look h with a | a
  ·exact⟨_,oc x c a⟩
  ·obtain⟨v,q⟩:=I.cell x c a
   exact⟨v,q.keeps k⟩
 free:=I.hok.fresh (yg _)
 freeC:=fun x c h=>by
  rcases T.look h with a | a
  ·exact I.hok.fresh (by have:=T.above x c a;omega)
  ·exact I.freeC x c a
 pin:=fun p hp=>by
  have hp':p∈X.pn++pins:=by
   have:p∈(X.pn++pins)++[]:=hp
   simpa using this
  obtain⟨h1,h2,h3,h4,h5⟩:=I.pin p hp'
  refine⟨k _ _ h1,h2,yy (Heap.lt_size h1),fun z=>?_,h5⟩
  rcases yM.mp (I.stkSub _ z)with y | y
  ·exact h3 y
  ·exact h4 y
 hok:=I.hok.kept k
 len:=by
  show(zdu caps σ).length=Ni.length
  unfold zdu;rw[yh];exact S.len
theorem zot{scope:Scope}{Ni:List Str}{cs:List (Str × Addr)}{pins:List (Addr × Obj)}{σ σ':St}{H₃ H':Hp}{s₃ s':Shared}{fp:List Addr}(I:Inv X pins σ H₃ s₃)(f:∀b∈fp,zde X pins H₃ b)
  (J:Inv (zbJ X scope Ni cs s₃ H₃ fp pins) [] σ' H' s'):Inv X pins σ H' s':=by
 have u:Un (frs X.stack) fp H₃ H' s₃.heap s'.heap:=J.base
 have q:=I.call (g':=s'.gens) (t':=s'.toks) (d':=s'.drawn) (ch:=fp) u J.hok J.bare fun b hb=>⟨(f b hb).2.2.2.1,(f b hb).2.1,(f b hb).2.2.2.2.1,(f b hb).2.2.2.2.2⟩
 have e:({ s₃ with heap:=s'.heap,gens:=s'.gens,drawn:=s'.drawn,toks:=s'.toks }:Shared)=s':=by
  have h1:s'.os=s₃.os:=J.os
  cases s';cases s₃
  simp only at h1
  subst h1;rfl
 rw[e]at q
 exact q
def PF(Y:Cx)(ifs:List Expr)(t:TT):Prop:=∀(pins:List (Addr × Obj)) (s:Shared) (σ:St) (H:Hp) (Q:Bool->Hp->Prop),Inv Y pins σ H s->t σ H Q ->
 wpAny (model Y.prog Y.w) Y.A (forIn ifs true fun c r=>if r=true then do let ok <- isTrue c Y.env (eval c Y.env);pure (ForInStep.yield ok)else pure (ForInStep.yield r)) (TP Y pins σ Q) Y.xe s
abbrev zr3:TT:=fun _ H T=>T true H
theorem zal{Y:Cx}:PF Y [] zr3:=fun pins s σ H Q I h=>wpAny_tests_nil ⟨H,I,h⟩
theorem zmu{Y:Cx}{c:Expr}{t:TT}(h:PT Y c t):PF Y [c] t:=fun pins s σ H Q I q=>wpAny_tests_one (h pins s σ H Q I q)
def ziA(wi:TI)(caps:List (Option Nat))(g:TG)(tf:TT)(te:TE):TE:=fun σ H Q=>wi σ H fun J H1=>∀D,H1 D=none ->
 ∃W:Nat->Nat->St->Hp->Prop,(∃m,W 0 m (zdu caps σ) (upd H1 D (.lst [])))/\∀i m σ' H',W i m σ' H' ->
  (J.stop i H'/\Q (.ref D) H')\/(J.go i H'/\∃N:St->Hp->Prop,(∀σ2 H2,N σ2 H2->∃m',m'<m/\W (i+1) m' σ2 H2) /\
   ∀x H2,J.yld i H' x H2->g x σ' H2 fun σ1 H3=>tf σ1 H3 fun b H4=>if b=true then te σ1 H4 fun v H5=>zcs (.ref D) [v] H5 fun _ H6=>N σ1 H6 else N σ1 H4)
theorem ziQ{P:Program}{w:World}{A:Around}{R:Result->Shared->Prop}{s0:Shared}{elt tg iter:Expr}{tests:List Expr}{sc:Scope}{ps:Pos}{itv acc:Value}{en:Env}(J:Nat->Shared->Prop)
  (turn:∀n s,J n s->wpAny (model P w) A (pyNext itv) (fun r s1=>match r with | none=>R (.ok .next) s1 | some v=>wpAny (model P w) A (letOwnedTupleGo tg itv v) (fun _ s1'=>wpAny (model P w) A (assign tg en v) (fun _ s2=>
   wpAny (model P w) A (forIn tests true fun c r=>if r=true then do let ok <- isTrue c en (eval c en);pure (ForInStep.yield ok)else pure (ForInStep.yield r)) (fun ok s3=>if ok=true then wpAny (model P w) A (eval elt en) (fun x s4=>
    wpAny (model P w) A (call (.builtin "list.append") [acc,x]) (fun _ s5=>∃m,m<n/\J m s5) (notedBy (model P w) A en fun e s'=>R (.error e) s') s4) (notedBy (model P w) A en fun e s'=>R (.error e) s') s3
     else ∃m,m<n/\J m s3) (notedBy (model P w) A en fun e s'=>R (.error e) s') s2) (notedBy (model P w) A en fun e s'=>R (.error e) s') s1') (notedBy (model P w) A en fun e s'=>R (.error e) s') s1) (notedBy (model P w) A en fun e s'=>R (.error e) s') s)
  (n0:Nat) (j0:J n0 s0):codeAny (model P w) A (.compLoop (.ListComp elt [⟨tg,iter,tests,0⟩] sc ps) 0 itv acc en) R s0:=by
 refine codeAny_loop rfl J (fun n s hJ=>?_) n0 j0
 show wpAny _ A ((compTurn (.ListComp elt [⟨tg,iter,tests,0⟩] sc ps) 0 itv acc en).onRaise (fun x=>do noteFrame x en;theTreesLotGoes x)) _ _ s
 refine wpAny_noted ?_
 rw[compTurn_list]
 refine wpAny_bind (wpAny_standAt (wpAny_bind (wpAny_mono (turn n s hJ) (fun r s1 h1=>?_) fun _ _ z=>z)))
 cases r with
 | none=>exact wpAny_pure h1
 | some v=>
  refine wpAny_bind (wpAny_mono h1 (fun _ s1' h1'=>wpAny_bind (wpAny_mono h1' (fun _ s2 h2=>wpAny_bind (wpAny_mono h2 (fun ok s3 h3=>?_) fun _ _ z=>z)) fun _ _ z=>z)) fun _ _ z=>z)
  cases ok with
  | false=>exact wpAny_pure ⟨rfl,h3⟩
  | true=>
   exact wpAny_bind (wpAny_bind (wpAny_mono h3 (fun x s4 h4=>wpAny_bind (wpAny_mono h4 (fun _ s5 h5=>wpAny_pure (wpAny_pure ⟨rfl,h5⟩)) fun _ _ z=>z)) fun _ _ z=>z))
theorem zlK{Y:Cx}{elt iter:Expr}{tg:Expr}{ifs:List Expr}{scope:Scope}{pos:Pos}{it D:Addr}{fp:List Addr}{tn:Nat->Heap->Prop}{J:It}{g:TG}{tf:TT}{te:TE}{Q:VK}{R:Result->Shared->Prop}
  (T:Turn Y.prog Y.w Y.K tg J fp it tn) (hc:Y.calm=true) (gY:PG Y tg g) (hF:PF Y ifs tf) (hE:PE Y elt te) (fpY:∀{H':Hp},(∀b∈fp,H' b=none)->∀b∈fp,zde Y [] H' b) (hx:∀e s,¬Y.xe e s)
  {W:Nat->Nat->St->Hp->Prop} (turn:∀i m σ' H',W i m σ' H' ->
   (J.stop i H'/\Q (.ref D) H')\/(J.go i H'/\∃N:St->Hp->Prop,(∀σ2 H2,N σ2 H2->∃m',m'<m/\W (i+1) m' σ2 H2) /\
    ∀x H2,J.yld i H' x H2->g x σ' H2 fun σ1 H3=>tf σ1 H3 fun b H4=>if b=true then te σ1 H4 fun v H5=>zcs (.ref D) [v] H5 fun _ H6=>N σ1 H6 else N σ1 H4))
  (fin:∀σ' H' s',Inv Y [] σ' H' s'->Q (.ref D) H'->R (.ok .next) s') {m0:Nat} {σ0:St} {H0:Hp} {s0:Shared} (I0:Inv Y [] σ0 H0 s0) (st0:tn 0 s0.heap) (fr0:∀b∈fp,H0 b=none) (w0:W 0 m0 σ0 H0) :
  codeAny (model Y.prog Y.w) Y.A (.compLoop (.ListComp elt [⟨tg,iter,ifs,0⟩] scope pos) 0 (.ref it) (.ref D) Y.env) R s0:=by
 refine ziQ (fun n s'=>∃i σ' H',Inv Y [] σ' H' s'/\tn i s'.heap/\(∀b∈fp,H' b=none)/\W i n σ' H') ?_ m0 ⟨0,_,_,I0,st0,fr0,w0⟩
 rintro n s5 ⟨i,σ5,H5,I5,st5,fr5,w5⟩
 have noE:∀{α:Type} {t:Sem α} {Q1:α->Shared->Prop} {E2:Value->Shared->Prop} {s1:Shared},wpAny (model Y.prog Y.w) Y.A t Q1 Y.xe s1->wpAny (model Y.prog Y.w) Y.A t Q1 E2 s1:=
  fun h=>wpAny_mono h (fun _ _ q=>q) fun e s z=>(hx e s z).elim
 rcases turn i n σ5 H5 w5 with⟨stop,qn⟩ | ⟨go,N,hN,step⟩
 ·refine thn (T.done Y rfl rfl rfl hc i [] s5 σ5 H5 _ I5 (fpY fr5) st5 stop) fun r s6 ⟨hr,I6⟩=>?_
  subst hr
  exact fin σ5 H5 s6 I6 qn
 ·refine thn (T.item Y rfl rfl rfl hc i [] s5 σ5 H5 _ I5 (fpY fr5) st5 go) fun r s6 ⟨u,hr,h6⟩=>?_
  subst hr
  refine thn h6 fun _ s7 zz=>?_
  obtain⟨x7,H7,I7,r7,y7,st7,fr7⟩:=zz
  have I7':=I7.pinned (fpY fr7) (T.obj _ _ st7)
  have again:∀{σ9:St} {H9:Hp} {s9:Shared},Inv Y ([]++zfj fp s7.heap) σ9 H9 s9->N σ9 H9->∃m,m<n/\∃i σ' H',Inv Y [] σ' H' s9/\tn i s9.heap/\(∀b∈fp,H' b=none)/\W i m σ' H':=fun {σ9 H9 s9} I9 n9=>by
   obtain⟨m',hm,w9⟩:=hN σ9 H9 n9
   refine⟨m',hm,i+1,σ9,H9,I9.unpinned,T.keep _ _ _ st7 fun b hb o e=>(I9.pin (b,o) (ym _ (ym _ (zdN hb e)))).1,fun b hb=>?_,w9⟩
   obtain⟨o,e,d⟩:=T.obj _ _ st7 b hb
   exact(I9.pin (b,o) (ym _ (ym _ (zdN hb e)))).2.1
  refine noE (thn (gY _ s7 σ5 H7 x7 u _ I7' r7 (step x7 _ y7)) fun _ s8 zz=>?_)
  obtain⟨σ8,H8,I8,q8⟩:=zz
  refine noE (thn (hF _ s8 _ _ _ I8 q8) fun b s9 ⟨H9,I9,q9⟩=>?_)
  cases b with
  | false=>exact again I9 q9
  | true=>
   refine noE (thn (hE _ s9 _ _ _ I9 q9) fun y s10 zz=>?_)
   obtain⟨v10,H10,I10,r10,q10⟩:=zz
   refine noE (thn (zbj (X:=Y) _ s10 _ _ (.ref D) [v10] (.ref D) [y] _ I10 rfl (.cons r10 .nil) q10) fun _ s11 zz=>?_)
   obtain⟨v11,H11,I11,_,q11⟩:=zz
   exact again I11 q11
theorem zS{scope:Scope}{Ni:List Str}{caps:List (Option Nat)}{x:Str}{px:Pos}{gi:Nat}{cs:List (Str × Addr)}{s₃:Shared}{H₃:Hp}{fp:List Addr}{pins:List (Addr × Obj)}
  (S:CompScope X scope Ni caps) (hx:scope.names.lookup x=some .local\/scope.names.lookup x=some .cell) (hgi:Ni[gi]?=some x):PG (zbJ X scope Ni cs s₃ H₃ fp pins) (.Name x px) (ziv gi):=by
 rcases hx with hx | hx
 ·exact zU S.nd hgi (.inl (lookup_relabel_local hx)) (.inr (lookup_relabel_local hx))
 ·refine zU S.nd hgi ?_ (.inl (decide_eq_true hx))
  have:(relabel scope X.env).names.lookup x=some .cell:=zdD hx
  exact .inr this
theorem zh4{elt iter:Expr}{tg:Expr}{ifs:List Expr}{scope:Scope}{pos pos':Pos}{wi:TI}{Ni:List Str}{caps:List (Option Nat)}{g:TG}{tf:TT}{te:TE}
  (hc:X.calm=true) (hi:PI X tg iter wi) (S:CompScope X scope Ni caps) (hG:CompScope X scope Ni caps->∀cs s₃ H₃ fp pins,PG (zbJ X scope Ni cs s₃ H₃ fp pins) tg g)
  (hF:∀cs s₃ H₃ fp pins,PF (zbJ X scope Ni cs s₃ H₃ fp pins) ifs tf) (hE:∀cs s₃ H₃ fp pins,PE (zbJ X scope Ni cs s₃ H₃ fp pins) elt te)
  (hs:∀x,foldedSetIterable iter X.env x=pure x)
  {pins:List (Addr × Obj)} {s:Shared} {σ:St} {H:Hp} {Q:VK} (I:Inv X pins σ H s) (h:ziA wi caps g tf te σ H Q) {use:Option (Value->Sem Unit)} {R:Value->Shared->Prop}
  (fin:∀(D C:Addr) (H':Hp) (s':Shared) (m:Str->Option Value),Inv X pins σ H' s'->Q (.ref D) H'->s'.heap.Ns C m->H' C=none->X.s₀.heap.objs.size<=C->C≠X.env.locals->(∀y c,X.env.cells.lookup y=some c->c≠C)->(∀p∈X.pn++pins,p.1≠C) ->
   compPost (model X.prog X.w) X.A X.xe use R (.ref D) C (.ok .next) s') :
  wpAny (model X.prog X.w) X.A (comprehension (.ListComp elt [⟨tg,iter,ifs,0⟩] scope pos) scope X.env pos' (newList []) false (eval iter X.env) use) R X.xe s:=by
 obtain⟨cl,hcl,hsub,hall⟩:=zhb (env:=X.env) (scope:=scope) fun y hy hf=>I.ok.has y.1 (S.free y hy hf)
 refine wpAny_comprehension_free rfl hs hcl S.kind (fun y hy hl=>by obtain⟨n,k⟩:=y;cases hl;exact zfw S.ndn hy) (thn (hi pins s σ H _ I h) fun v s1 h1=>thn h1 fun itv s2 h2=>?_)
 obtain⟨it,fp,tn,J,H2,e,I2,T,st2,f2,hW⟩:=h2
 subst e
 have I3:Inv X pins σ (upd H2 s2.heap.objs.size (.lst [])) { s2 with heap:=s2.heap.push { cls:=.type "list",dict:=none,data:=.seq ([]:List Value).toArray },toks:=s2.toks }:=
  I2.laid (fun b u e=>Heap.get?_push_of_some _ e) (yg _) ⟨yF _,[],_,.nil,Heap.get?_push_size _ rfl⟩
 have hD:H2 s2.heap.objs.size=none:=I2.hok.fresh (yg _)
 obtain⟨W,⟨m0,w0⟩,turn⟩:=hW s2.heap.objs.size hD
 have st3:tn 0 (s2.heap.push { cls:=.type "list",dict:=none,data:=.seq ([]:List Value).toArray }):=T.keep _ _ _ st2 fun b _ o e=>Heap.get?_push_of_some _ e
 have f3:∀b∈fp,zde X pins (upd H2 s2.heap.objs.size (.lst [])) b:=fun b hb=>by
  obtain⟨o,e,_⟩:=T.obj _ _ st2 b hb
  exact⟨by rw[zaA (yy (Heap.lt_size e))];exact(f2 b hb).1,(f2 b hb).2⟩
 refine wpAny_newObj_type ?_
 generalize hs3:({ s2 with heap:=s2.heap.push { cls:=.type "list",dict:=none,data:=.seq ([]:List Value).toArray },toks:=s2.toks }:Shared)=s3 at I3
 have eh:s2.heap.push { cls:=.type "list",dict:=none,data:=.seq ([]:List Value).toArray }=s3.heap:=by rw[<- hs3]
 rw[eh]at st3
 have hf3:∀b∈fp,b<s3.heap.objs.size:=fun b hb=>by
  obtain⟨o,e,_⟩:=T.obj _ _ st3 b hb
  exact Heap.lt_size e
 refine zih fun own s4 eo e4 k4 ns4 oc4 ap4=>?_
 have T4:CompAt X scope own cl s3:=⟨eo,ap4,fun n c hm=>(oc4 n c hm).2,hsub,hall⟩
 have I4:=zkT (Ni:=Ni) (caps:=caps) S T4 I3 f3 hf3 e4 k4 ns4 fun n c hm=>(oc4 n c hm).1
 have st4:tn 0 s4.heap:=T.keep _ _ _ st3 fun b _ o e=>k4 b o e
 have fpY:∀{H':Hp},(∀b∈fp,H' b=none)->∀b∈fp,zde (zbJ X scope Ni (own++cl) s3 (upd H2 s2.heap.objs.size (.lst [])) fp pins) [] H' b:=fun hn b hb=>
  ⟨hn b hb,yy (hf3 b hb),I4.ok.exfs b hb,.inl hb,(I4.ok.exf b hb).2,fun p hp=>by
   have hp':p∈X.pn++pins:=by
    have:p∈(X.pn++pins)++[]:=hp
    simpa using this
   exact(f3 b hb).2.2.2.2.2 p hp'⟩
 have loop:=zlK (Q:=Q) (elt:=elt) (iter:=iter) (scope:=scope) (pos:=pos) (R:=compPost (model X.prog X.w) X.A X.xe use R (.ref s2.heap.objs.size) s3.heap.objs.size) (Y:=zbJ X scope Ni (own++cl) s3 (upd H2 s2.heap.objs.size (.lst [])) fp pins)
  T hc (hG S _ _ _ _ _) (hF _ _ _ _ _) (hE _ _ _ _ _) fpY (fun _ _ z=>z) turn (fun σ' H' s' I6 qn=>by
   have I6':=zot I3 f3 I6
   obtain⟨m6,ns6,_⟩:=I6.loc
   exact fin _ _ H' s' m6 I6' qn ns6 I6.free I3.sz (Nat.ne_of_gt I3.lt) (fun y c hc'=>yy (zgq I3 hc')) fun p hp=>yy (Heap.lt_size (I3.pin p hp).1)) I4 st4 (fun b hb=>(f3 b hb).1) w0
 exact codeAny_compStart_list loop (T.self _ _ _ _ _ st4 loop)
theorem za0{elt iter:Expr}{tg:Expr}{ifs:List Expr}{scope:Scope}{pos:Pos}{wi:TI}{Ni:List Str}{caps:List (Option Nat)}{g:TG}{tf:TT}{te:TE}
  (hc:X.calm=true) (hi:PI X tg iter wi) (S:CompScope X scope Ni caps) (hG:CompScope X scope Ni caps->∀cs s₃ H₃ fp pins,PG (zbJ X scope Ni cs s₃ H₃ fp pins) tg g)
  (hF:∀cs s₃ H₃ fp pins,PF (zbJ X scope Ni cs s₃ H₃ fp pins) ifs tf) (hE:∀cs s₃ H₃ fp pins,PE (zbJ X scope Ni cs s₃ H₃ fp pins) elt te)
  (hs:autoParam (∀x,foldedSetIterable iter X.env x=pure x) Internal.aut3._auto_1):PE X (.ListComp elt [⟨tg,iter,ifs,0⟩] scope pos) (ziA wi caps g tf te):=by
 intro pins s σ H Q I h
 rw[eval_ListComp]
 refine zh4 hc hi S hG hF hE hs I h fun D C H' s' m I' q ns hn hC h1 h2 h3=>?_
 refine⟨m,ns,fun h' sb=>?_⟩
 exact⟨.ref D,H',I'.turned (t':=s'.toks) (it:=C) (fun b o hb e=>(sb.2 b hb).trans e) hn h1 (.inr hC) h2 h3,rfl,q⟩
theorem zbf{i:Nat}{y:Str}{py:Pos}{elt iter:Expr}{tg:Expr}{ifs:List Expr}{scope:Scope}{pos spos:Pos}{wi:TI}{Ni:List Str}{caps:List (Option Nat)}{g:TG}{tf:TT}{te:TE}
  (hN:X.N.Nodup) (hyi:X.N[i]?=some y) (hy:X.env.scope.names.lookup y=some .local) (hc:X.calm=true) (hi:PI X tg iter wi) (S:CompScope X scope Ni caps) (hG:CompScope X scope Ni caps->∀cs s₃ H₃ fp pins,PG (zbJ X scope Ni cs s₃ H₃ fp pins) tg g)
  (hF:∀cs s₃ H₃ fp pins,PF (zbJ X scope Ni cs s₃ H₃ fp pins) ifs tf) (hE:∀cs s₃ H₃ fp pins,PE (zbJ X scope Ni cs s₃ H₃ fp pins) elt te)
  (hsw:autoParam (swapsWith (.ListComp elt [⟨tg,iter,ifs,0⟩] scope pos) (some (.Name y py)) spos.line X.env=pure true) Internal.aut2._auto_1)
  (hs:autoParam (∀x,foldedSetIterable iter X.env x=pure x) Internal.aut3._auto_1):PS X (.Assign [.Name y py] (.ListComp elt [⟨tg,iter,ifs,0⟩] scope pos) spos) (znd (ziA wi caps g tf te) (ziv i)):=by
 intro pins s σ H D I h
 rw[exec_Assign_Name_used _ _ _ _ hsw]
 refine wpAny_bind (wpAny_standAt (wpAny_bind ?_))
 show wpAny _ X.A (do let _ <- comprehension (.ListComp elt [⟨tg,iter,ifs,0⟩] scope pos) scope X.env _ (newList []) false (eval iter X.env) (some (assign (.Name y py) X.env))) _ _ s
 refine wpAny_bind (wpAny_mono (zh4 (R:=fun _ s'=>SP X pins D .next s') hc hi S hG hF hE hs I h fun L C H' s' m I' q ns hn hC h1 h2 h3=>?_) (fun _ s' hq=>wpAny_pure (wpAny_pure hq)) fun _ _ e=>e)
 show wpAny _ X.A (assign (.Name y py) X.env (.ref L)) _ _ _
 refine wpAny_assign_Name (zhI (v:=.ref L) I' hN hyi (.inl hy) rfl (fun s2 I2 sb2=>?_) (.inr hy))
 obtain⟨a,sb,ha⟩:=sb2
 have hCa:C≠a:=by
  rcases ha with z | z
  ·rw[z];exact h1
  ·exact fun w'=>h2 y a z w'.symm
 refine⟨m,ns.sameBut sb hCa,fun h' sb'=>?_⟩
 exact⟨_,H',I2.turned (t':=s2.toks) (it:=C) (fun b o hb e=>(sb'.2 b hb).trans e) hn h1 (.inr hC) h2 h3,q⟩
end
end Internal
namespace My
def gc(a b:Int):Int:=(Int.gcd a b:Int)
theorem zic(a b:Int):0<=gc a b:=Int.natCast_nonneg _
theorem gc_comm(a b:Int):gc a b=gc b a:=by unfold gc;rw[Int.gcd_comm]
theorem gc_dvd_left(a b:Int):gc a b∣a:=Int.gcd_dvd_left a b
theorem gc_dvd_right(a b:Int):gc a b∣b:=Int.gcd_dvd_right a b
theorem ziI{k a b:Int}(h1:k∣a)(h2:k∣b):k∣gc a b:=Int.dvd_coe_gcd h1 h2
theorem gc_pos_right{a b:Int}(h:b≠0):0<gc a b:=by
 have:=Int.gcd_pos_of_ne_zero_right a h
 unfold gc;omega
theorem zkd{a b:Int}(h:a≠0):0<gc a b:=by rw[gc_comm];exact gc_pos_right h
theorem gc_zero_right{a:Int}(h:0<=a):gc a 0=a:=by unfold gc;rw[Int.gcd_zero_right];omega
theorem gc_abs(a b:Int):gc (if a<0 then -a else a) (if b<0 then -b else b)=gc a b:=by
 unfold gc;split<;>split<;>simp[Int.gcd]
theorem gc_step{a b:Int}:gc b (a%b)=gc a b:=by
 rw[gc_comm a b]
 refine Int.dvd_antisymm (zic _ _) (zic _ _) ?_ ?_
 ·refine ziI (gc_dvd_left b (a%b)) ?_
  have e:a=b*(a/b)+a%b:=(Int.mul_ediv_add_emod a b).symm
  have:=Int.dvd_add (Int.dvd_mul_of_dvd_left (c:=a/b) (gc_dvd_left b (a%b))) (gc_dvd_right b (a%b))
  rwa [<- e]at this
 ·refine ziI (gc_dvd_left b a) ?_
  rw[Int.emod_def]
  exact Int.dvd_sub (gc_dvd_right b a) (Int.dvd_mul_of_dvd_left (gc_dvd_left b a))
theorem zqG{a b:Int}(h:∀c,c∣a->c∣b->c∣1):gc a b=1:=by
 unfold gc;rw[Int.gcd_eq_one_iff.mpr h];rfl
theorem zpy{a b:Int}(h:gc a b=1){c:Int}(h1:c∣a)(h2:c∣b):c∣1:=h▸ziI h1 h2
theorem zeT{a b:Int}(h:gc a b=1):a.gcd b=1:=by unfold gc at h;omega
theorem zib{a b:Int}(h:a.gcd b=1):gc a b=1:=by unfold gc;omega
theorem low_unique{x y:Int}{q:Rat}(hy:0<y)(hg:gc x y=1)(e:Rat.divInt x y=q):x=q.num/\y=(q.den:Int):=by
 obtain⟨d,rfl⟩:=Int.eq_ofNat_of_zero_le (yay hy)
 have hc:x.natAbs.Coprime d:=by
  have:=zeT hg
  rw[ybw]at this
  exact this
 have hd:d≠0:=by omega
 have:Rat.mk' x d hd hc=q:=by rw[Rat.mk_eq_divInt];exact e
 subst this
 exact⟨rfl,rfl⟩
theorem rat_low(q:Rat):gc q.num (q.den:Int)=1:=by
 refine zib ?_
 rw[ybw]
 exact q.reduced
theorem rat_den_pos(q:Rat):0<(q.den:Int):=by have:=q.den_nz;omega
theorem rat_self(q:Rat):Rat.divInt q.num (q.den:Int)=q:=ybh q
theorem zfl{a b:Int}(h:b≠0):gc (a/gc a b) (b/gc a b)=1:=by
 have hp:=gc_pos_right (a:=a) h
 unfold gc
 have:=Int.gcd_ediv (a:=a) (b:=b) (c:=(a.gcd b:Int)) (gc_dvd_left a b) (gc_dvd_right a b)
 rw[this]
 have hp':0<a.gcd b:=by unfold gc at hp;omega
 rw[yac,Nat.div_self hp'];rfl
theorem ziq{a b c:Int}(hb:b≠0)(ha:c∣a)(hc:c∣b):Rat.divInt (a/c) (b/c)=Rat.divInt a b:=by
 obtain⟨x,rfl⟩:=ha
 obtain⟨y,rfl⟩:=hc
 have hc0:c≠0:=by rintro rfl;simp at hb
 rw[yad _ hc0,yad _ hc0,ybu hc0]
theorem part_pos{t b:Int}(hb:0<b):t/gc t b=(Rat.divInt t b).num/\b/gc t b=((Rat.divInt t b).den:Int):=by
 have hp:=gc_pos_right (a:=t) (b:=b) (by omega)
 refine low_unique ?_ (zfl (by omega)) (ziq (by omega) (gc_dvd_left _ _) (gc_dvd_right _ _))
 exact ybb hb (by omega) (gc_dvd_right _ _)
theorem part_neg{t b:Int}(hb:b<0):t.fdiv (-gc t b)=(Rat.divInt t b).num/\b.fdiv (-gc t b)=((Rat.divInt t b).den:Int):=by
 have d1:-gc t b∣t:=Int.neg_dvd.mpr (gc_dvd_left _ _)
 have d2:-gc t b∣b:=Int.neg_dvd.mpr (gc_dvd_right _ _)
 rw[Int.fdiv_eq_ediv_of_dvd d1,Int.fdiv_eq_ediv_of_dvd d2]
 have e:=part_pos (t:=-t) (b:=-b) (by omega)
 have g:gc (-t) (-b)=gc t b:=by unfold gc;simp[Int.gcd]
 rw[g,ybz]at e
 rw[Int.ediv_neg,Int.ediv_neg]
 rw[Int.neg_ediv_of_dvd (gc_dvd_left _ _),Int.neg_ediv_of_dvd (gc_dvd_right _ _)]at e
 exact e
theorem zdw{a b m:Int}(h1:gc a m=1)(h2:gc b m=1):gc (a*b) m=1:=by
 refine zib ?_
 rw[Int.gcd_mul_right_left_of_gcd_eq_one (zeT h1)]
 exact zeT h2
theorem zc5{a b m:Int}(h1:gc m a=1)(h2:gc m b=1):gc m (a*b)=1:=by
 rw[gc_comm]at *;exact zdw h1 h2
theorem zc8{a b m:Int}(h:gc b m=1)(d:a∣b):gc a m=1:=
 zqG fun _ h1 h2=>zpy h (Int.dvd_trans h1 d) h2
theorem zcg{a b m:Int}(h:gc m b=1)(d:a∣b):gc m a=1:=by
 rw[gc_comm]at *;exact zc8 h d
theorem zgP(m n k:Int):gc (n+k*m) m=gc n m:=by
 rw[gc_comm,gc_comm n m];unfold gc;rw[Int.gcd_add_mul_right_right]
theorem plus_low{a1 b1 a2 b2:Int}(h1:0<b1)(h2:0<b2)(g1:gc a1 b1=1)(g2:gc a2 b2=1) :
  let s:=gc b1 b2
  let t:=a1*(b2/s)+a2*(b1/s)
  let c:=gc t s
  0<(b1/s)*(b2/c)/\gc (t/c) ((b1/s)*(b2/c))=1/\Rat.divInt (t/c) ((b1/s)*(b2/c))=Rat.divInt a1 b1+Rat.divInt a2 b2:=by
 intro s t c
 have hs:0<s:=zkd (by omega)
 obtain⟨u,hu⟩:=gc_dvd_left b1 b2
 obtain⟨v,hv⟩:=gc_dvd_right b1 b2
 have eu:b1/s=u:=by rw[show b1=s*u from hu];exact yad _ (by omega)
 have ev:b2/s=v:=by rw[show b2=s*v from hv];exact yad _ (by omega)
 have hu':b1=s*u:=hu
 have hv':b2=s*v:=hv
 have guv:gc u v=1:=by
  have:=zfl (a:=b1) (b:=b2) (by omega)
  change gc (b1/s) (b2/s)=1 at this
  rwa [eu,ev]at this
 have upos:0<u:=by
  rcases ya6 0 u with h | h
  ·exact h
  ·have:=yal (yay hs) h;omega
 have vpos:0<v:=by
  rcases ya6 0 v with h | h
  ·exact h
  ·have:=yal (yay hs) h;omega
 have et:t=a1*v+a2*u:=by show a1*(b2/s)+a2*(b1/s)=_;rw[eu,ev]
 have hc:0<c:=gc_pos_right (by omega)
 obtain⟨x,hx⟩:=gc_dvd_left t s
 obtain⟨w,hw⟩:=gc_dvd_right t s
 have hx':t=c*x:=hx
 have hw':s=c*w:=hw
 have ex:t/c=x:=by rw[hx'];exact yad _ (by omega)
 have wpos:0<w:=by
  rcases ya6 0 w with h | h
  ·exact h
  ·have:=yal (yay hc) h;omega
 have eb:b2/c=w*v:=by rw[hv',hw',yaK];exact yad _ (by omega)
 have gxw:gc x w=1:=by
  have:=zfl (a:=t) (b:=s) (by omega)
  change gc (t/c) (s/c)=1 at this
  rw[ex,show s/c=w by rw[hw'];exact yad _ (by omega)]at this
  exact this
 have xt:x∣t:=⟨c,by rw[hx',yaH]⟩
 have gtu:gc t u=1:=by
  rw[et,zgP]
  exact zdw (zcg g1 ⟨s,by rw[hu',yaH]⟩) (by rw[gc_comm];exact guv)
 have gtv:gc t v=1:=by
  rw[et,Int.add_comm,zgP]
  exact zdw (zcg g2 ⟨s,by rw[hv',yaH]⟩) guv
 rw[ex,eu,eb]
 refine⟨yaF upos (yaF wpos vpos),?_,?_⟩
 ·exact zc5 (zc8 gtu xt) (zc5 gxw (zc8 gtv xt))
 ·rw[Rat.divInt_add_divInt _ _ (by omega) (by omega)]
  have sc:s*c≠0:=yas (yaF hs hc)
  rw[<- ybu (n:=x) (d:=u*(w*v)) sc]
  have e1:s*c*x=a1*b2+a2*b1:=by
   have:s*c*x=s*(c*x):=by rw[yaK]
   rw[this,<- hx',et,hu',hv',Int.mul_add]
   rw[ya2 s a1 v,ya2 s a2 u]
  have e2:s*c*(u*(w*v))=b1*b2:=by
   have:b1*b2=s*u*(c*w*v):=by rw[hu',hv',<- hw']
   rw[this];simp only[yaK,ya2,yaH]
  rw[e1,e2]
theorem times_low{a1 b1 a2 b2:Int}(h1:0<b1)(h2:0<b2)(g1:gc a1 b1=1)(g2:gc a2 b2=1) :
  let d:=gc a1 b2
  let x:=gc a2 b1
  0<(b1/x)*(b2/d)/\gc ((a1/d)*(a2/x)) ((b1/x)*(b2/d))=1/\Rat.divInt ((a1/d)*(a2/x)) ((b1/x)*(b2/d))=Rat.divInt a1 b1*Rat.divInt a2 b2:=by
 intro d x
 have hd:0<d:=gc_pos_right (by omega)
 have hx:0<x:=gc_pos_right (by omega)
 have k1:gc (a1/d) (b2/d)=1:=zfl (by omega)
 have k2:gc (a2/x) (b1/x)=1:=zfl (by omega)
 have da1:d∣a1:=gc_dvd_left _ _
 have db2:d∣b2:=gc_dvd_right _ _
 have xa2:x∣a2:=gc_dvd_left _ _
 have xb1:x∣b1:=gc_dvd_right _ _
 have q1:a1/d∣a1:=⟨d,(yaq da1).symm⟩
 have q2:b1/x∣b1:=⟨x,(yaq xb1).symm⟩
 have q3:a2/x∣a2:=⟨x,(yaq xa2).symm⟩
 have q4:b2/d∣b2:=⟨d,(yaq db2).symm⟩
 have p1:0<b1/x:=ybb h1 (by omega) xb1
 have p2:0<b2/d:=ybb h2 (by omega) db2
 refine⟨yaF p1 p2,?_,?_⟩
 ·refine zdw (zc5 ?_ k1) (zc5 k2 ?_)
  ·exact zcg (zc8 g1 q1) q2
  ·exact zcg (zc8 g2 q3) q4
 ·rw[Rat.divInt_mul_divInt]
  have sc:d*x≠0:=yas (yaF hd hx)
  rw[<- ybu (n:=(a1/d)*(a2/x)) (d:=(b1/x)*(b2/d)) sc]
  have e1:d*x*((a1/d)*(a2/x))=a1*a2:=by
   have y1:=yaq da1
   have y2:=yaq xa2
   generalize a1/d=z1 at *
   generalize a2/x=z2 at *
   rw[<- y1,<- y2];simp only[yaK,ya2,yaH]
  have e2:d*x*((b1/x)*(b2/d))=b1*b2:=by
   have y1:=yaq xb1
   have y2:=yaq db2
   generalize b1/x=z1 at *
   generalize b2/d=z2 at *
   rw[<- y1,<- y2];simp only[yaK,ya2,yaH]
  rw[e1,e2]
end My
namespace Internal
open PySem PySem.Spec PyProof.Rows
theorem zp7{b:Bool}{A B:Prop}(h1:b=true->A)(h2:b=false->B):if b=true then A else B:=by
 cases b with
 | true=>rw[if_pos rfl];exact h1 rfl
 | false=>rw[if_neg yt];exact h2 rfl
theorem zpZ{p:Prop}[Decidable p]{A B:Prop}(h1:p->A)(h2:¬p->B):if p then A else B:=by
 by_cases h:p
 ·rw[if_pos h];exact h1 h
 ·rw[if_neg h];exact h2 h
section
variable {K:Fg}{H:Hp}{Q:VK}
theorem zp2{i:Int}(q:Q (.bl true) H):zeE K [.int i,.ty "int"] H Q:=zis (t':=.type "int") (cv:=.type "int") (b:=true) rfl (.int i) (by with_unfolding_all rfl) q
theorem zp0{i:Int}(q:Q (.bl false) H):zeE K [.int i,.ty "bool"] H Q:=zis (t':=.type "int") (cv:=.type "bool") (b:=false) rfl (.int i) (by with_unfolding_all rfl) q
theorem zm9{a:Addr}{xs:List V}(h:H a=some (.tup xs))(q:Q (.bl true) H):zeE K [.ref a,.ty "tuple"] H Q:=zis (t':=.type "tuple") (cv:=.type "tuple") (b:=true) rfl (.tup h) (by with_unfolding_all rfl) q
theorem zqg{a:Addr}{xs:List V}(h:H a=some (.lst xs))(q:Q (.bl true) H):zeE K [.ref a,.ty "list"] H Q:=zis (t':=.type "list") (cv:=.type "list") (b:=true) rfl (.lst h) (by with_unfolding_all rfl) q
end
def zoE:Sp:=fun vs H Q _=>∃a b:Int,vs=[.int a,.int b]/\Q (.int (My.gc a b)) H
theorem zoY{a b:Int}{H:Hp}{Q:VK}{E:XK}(q:Q (.int (My.gc a b)) H):zoE [.int a,.int b] H Q E:=⟨a,b,rfl,q⟩
theorem zjv(a:Int):0<=if a<0 then -a else a:=by split<;>omega
theorem zct{a b:Int}{n:Nat}(h:b≠0)(hs:sz b<=n):sz (My.gc a b)<=n:=by
 refine yc (zhx ?_) hs
 have h1:=My.gc_pos_right (a:=a) h
 obtain⟨c,hc⟩:=My.gc_dvd_right a b
 have hc0:c≠0:=by rintro rfl;rw[Int.mul_zero]at hc;exact h hc
 have e:b.natAbs=(My.gc a b).natAbs*c.natAbs:=by rw[<- ybv,<- hc]
 rw[e]
 exact Nat.le_mul_of_pos_right _ (by omega)
def cell(ns:List Int)(k:Int):Int:=ns.getD k.toNat 0
def zjK(K:Fg):Sp:=fun vs H Q _=>∃(a:Addr) (ns:List Int) (k:Int),vs=[.ref a,.int k]/\SqL K H a (ns.map V.int)/\0<=k/\Q (.int (cell ns k)) H
theorem zpP{ns:List Int}{k:Int}(h0:0<=k)(h:k<((ns.map V.int).length:Int)):atI (ns.map V.int) k=some (.int (cell ns k)):=by
 rw[yh]at h
 have hk:k.toNat<ns.length:=by omega
 have ek:k=((k.toNat:Nat):Int):=by omega
 have q:atI (ns.map V.int) ((k.toNat:Nat):Int)=some (.int ns[k.toNat]):=zak (by rw[yf,yj hk];rfl)
 rw[<- ek]at q
 rw[q];unfold cell;rw[ye,yj hk];rfl
theorem znH{ns:List Int}{k:Int}(h:¬k<((ns.map V.int).length:Int)):cell ns k=0:=by
 rw[yh]at h
 unfold cell;rw[ye,yae (by omega)];rfl
def zn6:=fun {K:Fg} {a:Addr} {ns:List Int} {k:Int} {H:Hp} {Q:VK} {E:XK} hS h0 q=>@id (zjK K [.ref a,.int k] H Q E) ⟨a,ns,k,rfl,hS,h0,q⟩
def zks:Sp:=fun vs H Q _=>∃i:Int,vs=[.int i]/\Q (.bl true) H
theorem zmK{a:Int}{H:Hp}{Q:VK}{E:XK}(q:Q (.bl true) H):zks [.int a] H Q E:=⟨a,rfl,q⟩
def IsQ(H:Hp)(a:Addr)(q:Rat):Prop:=H a=some (.tup [.int q.num,.int (q.den:Int)])
theorem IsQ.sq{K:Fg}{H:Hp}{a:Addr}{q:Rat}(h:IsQ H a q):SqT K H a [.int q.num,.int (q.den:Int)]:=SqT.of h
def dQ(q:Rat):PyData:=.tuple [.int q.num,.int (q.den:Int)]
theorem IsQ.len{K:Fg}{H:Hp}{a:Addr}{q:Rat}{Q:VK}(h:IsQ H a q)(k:Q (.int 2) H):zaO K [.ref a] H Q:=zq5 h.sq k
theorem IsQ.isT{K:Fg}{H:Hp}{a:Addr}{q:Rat}{Q:VK}(h:IsQ H a q)(k:Q (.bl true) H):zeE K [.ref a,.ty "tuple"] H Q:=zm9 h k
theorem IsQ.rep{K:Fg}{H:Hp}{a:Addr}{q:Rat}(h:IsQ H a q):RepD K H (.ref a) (dQ q):=.tup h.sq (.cons (.int _) (.cons (.int _) .nil))
theorem IsQ.same{H H':Hp}{a:Addr}{q:Rat}(h:IsQ H a q)(e:Same H H'):IsQ H' a q:=e _ _ h
theorem zpY(q:Rat):(dQ q).depth=1:=by simp[dQ,PyData.depth,PyData.depthAll]
theorem zap(q:Rat):0<(q.den:Int):=My.rat_den_pos q
theorem zo1{q r:Rat}(h1:q.num=r.num)(h2:(q.den:Int)=(r.den:Int)):q=r:=by
 rw[<- My.rat_self q,<- My.rat_self r,h1,h2]
theorem zqe(q r:Rat):PyData.eqv (dQ q) (dQ r)=decide (q=r):=by
 have e:PyData.eqv (dQ q) (dQ r)=((q.num == r.num)&&((q.den:Int) == (r.den:Int))):=by simp[dQ,PyData.eqv,PyData.eqvAll]
 rw[e]
 by_cases h:q=r
 ·subst h;simp
 ·rw[decide_eq_false h]
  cases h1:(q.num == r.num) with
  | false=>rfl
  | true=>
   cases h2:((q.den:Int) == (r.den:Int)) with
   | false=>rfl
   | true=>exact absurd (zo1 (eq_of_beq h1) (eq_of_beq h2)) h
def NewQ(H:Hp)(Q:VK)(q:Rat):Prop:=∀p H',Same H H'->IsQ H' p q->Q (.ref p) H'
theorem NewQ.mk{H:Hp}{Q:VK}{q:Rat}{x y:Int}(k:NewQ H Q q)(e:x=q.num/\y=(q.den:Int)):zfh Q [.int x,.int y] H:=by
 refine⟨by show 2<=sizeLine;decide,fun p hp=>k p _ (Same.new hp _) ?_⟩
 rw[e.1,e.2];exact zaL
def SzQ(q:Rat)(n m:Nat):Prop:=sz q.num<=n/\sz (q.den:Int)<=m
theorem SzQ.mono{q:Rat}{n m n' m':Nat}(h:SzQ q n m)(h1:n<=n')(h2:m<=m'):SzQ q n' m':=⟨yc h.1 h1,yc h.2 h2⟩
theorem zfI{t b:Int}{n m:Nat}(hb:0<b)(h1:sz t<=n)(h2:sz b<=m):SzQ (Rat.divInt t b) n m:=by
 have e:=My.part_pos (t:=t) hb
 unfold SzQ
 rw[<- e.1,<- e.2]
 exact⟨yc (zcp _ _) h1,yc (zcp _ _) h2⟩
theorem ziW{t b:Int}{n m:Nat}(hb:b≠0)(h1:sz t<=n)(h2:sz b<=m):SzQ (Rat.divInt t b) n m:=by
 rcases ya6 0 b with h | h
 ·exact zfI h h1 h2
 ·rw[<- ybz]
  exact zfI (by omega) (yc (ze8 _) h1) (yc (ze8 _) h2)
def zjQ:Sp:=fun vs H Q _=>∃t b:Int,vs=[.int t,.int b]/\b≠0/\sz b<=8999/\NewQ H Q (Rat.divInt t b)
theorem zoj{t b:Int}{H:Hp}{Q:VK}{E:XK}(hb:b≠0)(hs:sz b<=8999)(q:NewQ H Q (Rat.divInt t b)):zjQ [.int t,.int b] H Q E:=⟨t,b,rfl,hb,hs,q⟩
def zhs(n:Nat):Sp:=fun vs H Q _=>∃(a b:Addr) (q r:Rat),vs=[.ref a,.ref b]/\IsQ H a q/\IsQ H b r/\SzQ q n n/\SzQ r n n/\Q (.bl (decide (q<r))) H
def zhH:=fun {n:Nat} {a b:Addr} {q r:Rat} {H:Hp} {Q:VK} {E:XK} h1 h2 s1 s2 k=>@id (zhs n [.ref a,.ref b] H Q E) ⟨a,b,q,r,rfl,h1,h2,s1,s2,k⟩
def zfR(n:Nat):Sp:=fun vs H Q _=>∃(a b:Addr) (q r:Rat),vs=[.ref a,.ref b]/\IsQ H a q/\IsQ H b r/\SzQ q n n/\SzQ r n n/\(if r<q then Q (.ref b) H else Q (.ref a) H)
def zhD:=fun {n:Nat} {a b:Addr} {q r:Rat} {H:Hp} {Q:VK} {E:XK} h1 h2 s1 s2 k=>@id (zfR n [.ref a,.ref b] H Q E) ⟨a,b,q,r,rfl,h1,h2,s1,s2,k⟩
def OkQ(q:Rat):Prop:=SzQ q 1000000 8999
theorem SzQ.ok{q:Rat}{n m:Nat}(h:SzQ q n m)(h1:n<=1000000)(h2:m<=8999):OkQ q:=h.mono h1 h2
theorem zla(q r:Rat):(q.num*((r.den:Int)/My.gc q.den r.den)+r.num*((q.den:Int)/My.gc q.den r.den))/My.gc (q.num*((r.den:Int)/My.gc q.den r.den)+r.num*((q.den:Int)/My.gc q.den r.den)) (My.gc q.den r.den)=(q+r).num /\
  ((q.den:Int)/My.gc q.den r.den)*((r.den:Int)/My.gc (q.num*((r.den:Int)/My.gc q.den r.den)+r.num*((q.den:Int)/My.gc q.den r.den)) (My.gc q.den r.den))=((q+r).den:Int):=by
 have h:=My.plus_low (a1:=q.num) (b1:=q.den) (a2:=r.num) (b2:=r.den) (zap q) (zap r) (My.rat_low q) (My.rat_low r)
 refine My.low_unique h.1 h.2.1 ?_
 have e:=h.2.2
 rw[My.rat_self,My.rat_self]at e
 exact e
theorem zka(q r:Rat):(q.num/My.gc q.num r.den)*(r.num/My.gc r.num q.den)=(q*r).num/\((q.den:Int)/My.gc r.num q.den)*((r.den:Int)/My.gc q.num r.den)=((q*r).den:Int):=by
 have h:=My.times_low (a1:=q.num) (b1:=q.den) (a2:=r.num) (b2:=r.den) (zap q) (zap r) (My.rat_low q) (My.rat_low r)
 refine My.low_unique h.1 h.2.1 ?_
 have e:=h.2.2
 rw[My.rat_self,My.rat_self]at e
 exact e
theorem zoW(q r:Rat):q+r=Rat.divInt (q.num*r.den+r.num*q.den) ((q.den:Int)*r.den):=by
 have h:=Rat.divInt_add_divInt q.num r.num (d₁:=q.den) (d₂:=r.den) (yas (zap q)) (yas (zap r))
 rw[My.rat_self,My.rat_self]at h
 exact h
theorem zoS(q r:Rat):q*r=Rat.divInt (q.num*r.num) ((q.den:Int)*r.den):=by
 have h:=Rat.divInt_mul_divInt q.num r.num (d₁:=q.den) (d₂:=r.den)
 rw[My.rat_self,My.rat_self]at h
 exact h
theorem SzQ.add{q r:Rat}{n m n' m' k l:Nat}(h:SzQ q n m)(h':SzQ r n' m')(hk:n+m'<=k)(hk':n'+m<=k)(hl:m+m'<=l):SzQ (q+r) (k+1) l:=by
 rw[zoW]
 exact zfI (yaF (zap q) (zap r)) (zfg (yc (zbN h.1 h'.2) hk) (yc (zbN h'.1 h.2) hk')) (yc (zbN h.2 h'.2) hl)
theorem SzQ.mul{q r:Rat}{n m n' m' k l:Nat}(h:SzQ q n m)(h':SzQ r n' m')(hk:n+n'<=k)(hl:m+m'<=l):SzQ (q*r) k l:=by
 rw[zoS]
 exact zfI (yaF (zap q) (zap r)) (yc (zbN h.1 h'.1) hk) (yc (zbN h.2 h'.2) hl)
theorem SzQ.neg{q:Rat}{n m:Nat}(h:SzQ q n m):SzQ (-q) n m:=⟨by rw[Rat.neg_num];exact yc (ze8 _) h.1,by rw[Rat.neg_den];exact h.2⟩
theorem znp{n m:Nat}(hm:1<=m):SzQ 0 n m:=⟨yc (zas (n:=0) (by decide)) (yF _),yc (zas (n:=1) (by decide)) hm⟩
def zjE:Sp:=fun vs H Q _=>∃(a b:Addr) (q r:Rat),vs=[.ref a,.ref b]/\IsQ H a q/\IsQ H b r/\OkQ q/\OkQ r/\NewQ H Q (q+r)
def znX:=fun {a b:Addr} {q r:Rat} {H:Hp} {Q:VK} {E:XK} h1 h2 s1 s2 k=>@id (zjE [.ref a,.ref b] H Q E) ⟨a,b,q,r,rfl,h1,h2,s1,s2,k⟩
def zhc:Sp:=fun vs H Q _=>∃(a b:Addr) (q r:Rat),vs=[.ref a,.ref b]/\IsQ H a q/\IsQ H b r/\OkQ q/\OkQ r/\NewQ H Q (q-r)
def zmT:=fun {a b:Addr} {q r:Rat} {H:Hp} {Q:VK} {E:XK} h1 h2 s1 s2 k=>@id (zhc [.ref a,.ref b] H Q E) ⟨a,b,q,r,rfl,h1,h2,s1,s2,k⟩
def zhd:Sp:=fun vs H Q _=>∃(a b:Addr) (q r:Rat),vs=[.ref a,.ref b]/\IsQ H a q/\IsQ H b r/\OkQ q/\OkQ r/\NewQ H Q (q*r)
def zm3:=fun {a b:Addr} {q r:Rat} {H:Hp} {Q:VK} {E:XK} h1 h2 s1 s2 k=>@id (zhd [.ref a,.ref b] H Q E) ⟨a,b,q,r,rfl,h1,h2,s1,s2,k⟩
theorem zj1(r:Rat):-r.num=(-r).num/\(r.den:Int)=((-r).den:Int):=⟨by rw[Rat.neg_num],by rw[Rat.neg_den]⟩
theorem inv_pos{r:Rat}(h:0<r.num):(r.den:Int)=(r⁻¹).num/\r.num=((r⁻¹).den:Int):=
 My.low_unique h (by rw[My.gc_comm];exact My.rat_low r) (Rat.inv_def r).symm
theorem zpT{r:Rat}(h:r.num<0):-(r.den:Int)=(r⁻¹).num/\-r.num=((r⁻¹).den:Int):=
 My.low_unique (by omega) (by
  have g:=My.rat_low r
  have e:My.gc (-(r.den:Int)) (-r.num)=My.gc r.num r.den:=by
   rw[My.gc_comm];unfold My.gc;simp[Int.gcd]
  rw[e];exact g) (by rw[ybz];exact(Rat.inv_def r).symm)
theorem SzQ.inv{r:Rat}{n m:Nat}(h0:r.num≠0)(h:SzQ r n m):SzQ r⁻¹ m n:=by
 rw[Rat.inv_def]
 exact ziW h0 h.2 h.1
def IsQs(H:Hp):List V->List Rat->Prop
 | [],[]=>True
 | v :: vs,q :: qs=>(∃a,v=.ref a/\IsQ H a q)/\IsQs H vs qs
 | _,_=>False
theorem IsQs.same{H H':Hp}(e:Same H H'):∀{vs:List V} {qs:List Rat},IsQs H vs qs->IsQs H' vs qs
 | [],[],_=>trivial
 | _ :: _,_ :: _,⟨⟨a,e1,h⟩,r⟩=>⟨⟨a,e1,h.same e⟩,r.same e⟩
theorem IsQs.length{H:Hp}:∀{vs:List V} {qs:List Rat},IsQs H vs qs->vs.length=qs.length
 | [],[],_=>rfl
 | _ :: _,_ :: _,⟨_,r⟩=>by rw[yaD,yaD,r.length]
theorem IsQs.app{H:Hp}{a:Addr}{q:Rat}(h:IsQ H a q):∀{vs:List V} {qs:List Rat},IsQs H vs qs->IsQs H (vs++[.ref a]) (qs++[q])
 | [],[],_=>⟨⟨a,rfl,h⟩,trivial⟩
 | _ :: _,_ :: _,⟨x,r⟩=>⟨x,IsQs.app h r⟩
theorem IsQs.get{H:Hp}:∀{vs:List V} {qs:List Rat} {i:Nat} {v:V},IsQs H vs qs->vs[i]?=some v->∃a q,v=.ref a/\qs[i]?=some q/\IsQ H a q
 | _ :: _,_ :: _,0,_,⟨⟨a,e,h⟩,_⟩,rfl=>⟨a,_,e,rfl,h⟩
 | _ :: _,_ :: _,i+1,_,⟨_,r⟩,e=>r.get (i:=i) (by simpa using e)
 | [],[],_,_,_,e=>by simp at e
theorem IsQs.rep{K:Fg}{H:Hp}:∀{vs:List V} {qs:List Rat},IsQs H vs qs->RepAll K H vs (qs.map dQ)
 | [],[],_=>.nil
 | _ :: _,_ :: _,⟨⟨a,e,h⟩,r⟩=>by subst e;exact .cons h.rep r.rep
def zdf(qs:List Rat):Rat:=qs.foldl (·+·) 0
theorem zeY(qs:List Rat)(q:Rat):zdf (qs++[q])=zdf qs+q:=by unfold zdf;rw[yat];rfl
theorem zhR:∀qs:List Rat,PyData.depthAll (qs.map dQ)<=1
 | []=>by simp[PyData.depthAll]
 | q :: qs=>by
  have h:=zhR qs
  have h1:=zpY q
  simp only[yai,PyData.depthAll]
  omega
theorem zpg(qs:List Rat):(PyData.list (qs.map dQ)).depth<=2:=by
 have h:=zhR qs
 simp only[PyData.depth];omega
theorem szL{i:Int}{n:Nat}(hn:200<=n)(h1:-1606938044258990275541962092341162602522202993782792835301376<i)(h2:i<1606938044258990275541962092341162602522202993782792835301376):sz i<=n:=yc (sz200 h1 h2) hn
def zhe(K:Fg):Sp:=fun vs H Q _=>∃(a:Addr) (xs:List V) (qs:List Rat),vs=[.ref a]/\SqL K H a xs/\IsQs H xs qs/\(∀q∈qs,OkQ q)/\(∀i,OkQ (zdf (qs.take i)))/\NewQ H Q (zdf qs)
def zlP:=fun {K:Fg} {a:Addr} {xs:List V} {qs:List Rat} {H:Hp} {Q:VK} {E:XK} h hq h1 h2 k=>@id (zhe K [.ref a] H Q E) ⟨a,xs,qs,rfl,h,hq,h1,h2,k⟩
section
variable {σ:St}{H:Hp}{Q:VK}{D:Ends}{ta tb tc te to:TE}{t u:TS}{K:Fg}
def zlz(J:It)(g:TG)(tb:TS):TS:=fun D σ H=>∃W:Nat->Nat->St->Hp->Prop,(∃m,W 0 m σ H)/\∀i m σ H,W i m σ H ->
 (J.stop i H/\D.nx σ H)\/(J.go i H/\∃N:St->Hp->Prop,(∀σ' H',N σ' H'->∃m',m'<m/\W (i+1) m' σ' H')/\∀x H',J.yld i H x H'->g x σ H' fun σ2 H2=>tb { D with nx:=N,ct:=N,bk:=D.nx } σ2 H2)
theorem zra{wi:TI}{g:TG}{tb:TS}(q:wi σ H fun J H1=>zlz J g tb D σ H1):zqL wi g tb D σ H:=q
def zlm(R:It->Hp->Prop)(vs:List V)(H:Hp):Prop:=∃j:Int,vs=[.int j]/\-(2 ^ 62)<=j/\j<2 ^ 62/\R (Itr 0 j.toNat) H
def zlw(R:It->Hp->Prop)(vs:List V)(H:Hp):Prop:=∃i j:Int,vs=[.int i,.int j]/\(-(2 ^ 62)<=i/\i<2 ^ 62/\-(2 ^ 62)<=j/\j<2 ^ 62)/\R (Itr i (j-i).toNat) H
def znS(K:Fg)(R:It->Hp->Prop)(x:V)(H:Hp):Prop:=∃a,x=.ref a/\(∃xs,SqL K H a xs)/\R (Itl K a) H
theorem zqy{tr:TA}{R:It->Hp->Prop}(q:tr σ H (zlm R)):zoF tr σ H R:=q
theorem zp4{tr:TA}{R:It->Hp->Prop}(q:tr σ H (zlw R)):zoD tr σ H R:=q
theorem zrn{R:It->Hp->Prop}(q:te σ H (znS K R)):zaG K te σ H R:=q
theorem zpW{R:It->Hp->Prop}{j:Int}(h1:-4611686018427387904<=j)(h2:j<4611686018427387904)(q:R (Itr 0 j.toNat) H):zlm R [.int j] H:=⟨j,rfl,h1,h2,q⟩
theorem zo8{R:It->Hp->Prop}{i j:Int}(h0:-4611686018427387904<=i)(h0':i<4611686018427387904)(h1:-4611686018427387904<=j)(h2:j<4611686018427387904)(q:R (Itr i (j-i).toNat) H):zlw R [.int i,.int j] H:=⟨i,j,rfl,⟨h0,h0',h1,h2⟩,q⟩
theorem zoQ{R:It->Hp->Prop}{a:Addr}{xs:List V}(h:SqL K H a xs)(q:R (Itl K a) H):znS K R (.ref a) H:=⟨a,rfl,⟨xs,h⟩,q⟩
theorem zdC{lo:Int}{n:Nat}{g:TG}{tb:TS}(Pv:Nat->St->Hp->Prop)(h0:Pv 0 σ H)
  (hs:∀i σ H,i<n->Pv i σ H->g (.int (lo+i)) σ H fun σ2 H2=>tb { D with nx:=Pv (i+1),ct:=Pv (i+1),bk:=D.nx } σ2 H2) (hd:∀σ H,Pv n σ H->D.nx σ H):zlz (Itr lo n) g tb D σ H:=zlX Pv h0 hs hd
theorem zco{a:Addr}{xs:List V}{g:TG}{tb:TS}(Pv:Nat->St->Hp->Prop)(h0:Pv 0 σ H)(hl:∀i σ H,i<=xs.length->Pv i σ H->SqL K H a xs)
  (hs:∀i x σ H,xs[i]?=some x->Pv i σ H->g x σ H fun σ2 H2=>tb { D with nx:=Pv (i+1),ct:=Pv (i+1),bk:=D.nx } σ2 H2) (hd:∀σ H,Pv xs.length σ H->D.nx σ H):zlz (Itl K a) g tb D σ H:=znO Pv h0 hl hs hd
theorem zrZ{T:String}{r:V->List V->Hp->VK->Prop}{tr:TA}(q:to σ H fun x H1=>tyV K T x H1/\tr σ H1 fun xs H2=>r x xs H2 Q):tBM K T r to tr σ H Q:=q
theorem zrk{l:Addr}{xs:List V}{A:Prop}(h:H l=some (.lst xs))(q:A):tyV K "list" (.ref l) H/\A:=⟨.inl ⟨rfl,xs,SqL.of h⟩,q⟩
theorem znu{l:Addr}{xs:List V}{y:V}(h:H l=some (.lst xs))(hl:xs.length<sizeLine)(q:Q .non (upd H l (.lst (xs++[y])))):zcs (.ref l) [y] H Q:=⟨l,xs,y,rfl,rfl,h,hl,q⟩
theorem zqk{l:Addr}{xs:List V}{k:Int}{j:Nat}{v:V}{R:Hp->Prop}(h:H l=some (.lst xs))(e:ixN xs.length k=some j)(q:R (upd H l (.lst (xs.set j v)))):zgD (.ref l) (.int k) v H R:=⟨l,xs,k,j,rfl,rfl,h,e,q⟩
theorem zol{a:Addr}{xs:List V}(h:SqL K H a xs)(q:∀l,H l=none->Q (.ref l) (upd H l (.lst xs))):zaT K [.ref a] H Q:=⟨a,xs,rfl,.inl h,q⟩
theorem zgU{a:Addr}{xs:List V}{i:Int}{v:V}(h:H a=some (.lst xs))(e:atI xs i=some v)(q:Q v H):rIx K (.ref a) (.int i) H Q:=zlB (.of h) e q
def zoy(R:Option Int->Hp->Prop)(x:V)(H:Hp):Prop:=∃i,x=.int i/\R (some i) H
theorem zqu{R:Option Int->Hp->Prop}(q:te σ H (zoy R)):zoz te σ H R:=q
theorem zpe{R:Option Int->Hp->Prop}{i:Int}(q:R (some i) H):zoy R (.int i) H:=⟨i,rfl,q⟩
theorem zrv{a:Addr}{xs:List V}{lo hi:Option Int}(h:SqL K H a xs)(q:∀p,H p=none->Q (.ref p) (upd H p (.lst (zd3 xs lo hi)))):zfo K (.ref a) lo hi H Q:=⟨a,xs,rfl,h,q⟩
end
theorem Same.fresh{H H':Hp}{l:Addr}(g:Same H H')(h:H' l=none):H l=none:=by
 cases e:H l with
 | none=>rfl
 | some o=>rw[g l o e]at h;cases h
theorem zjq{n:Nat}(h:n<=100000):n<sizeLine:=yab h (by decide)
theorem zdr{n:Nat}(h:n<=100000):n<=sizeLine:=yaQ (zjq h)
def But(l:Addr)(H H':Hp):Prop:=∀b,b≠l->H' b=H b
theorem But.upd{H:Hp}{l:Addr}{o:HO}:But l H (Internal.upd H l o):=fun _ h=>zaA h
theorem But.at{l:Addr}{H H':Hp}(g:But l H H'){a:Addr}{o:HO}(h:H a=some o)(n:a≠l):H' a=some o:=by rw[g a n];exact h
theorem But.same{l:Addr}{H0 H H':Hp}(g:But l H H')(e:Same H0 H)(h:H0 l=none):Same H0 H':=fun b o q=>by rw[g b (zaJ q h)];exact e b o q
def LBut(l:Addr)(H H':Hp):Prop:=But l H H'/\∃xs,H l=some (.lst xs)
theorem LBut.tup{l:Addr}{H H':Hp}(g:LBut l H H'){a:Addr}{xs:List V}(h:H a=some (.tup xs)):H' a=some (.tup xs):=by
 obtain⟨ys,e⟩:=g.2
 exact g.1.at h (zry h e (by intro z;cases z))
theorem LBut.isQ{l:Addr}{H H':Hp}(g:LBut l H H'){a:Addr}{q:Rat}(h:IsQ H a q):IsQ H' a q:=g.tup h
theorem LBut.isQs{l:Addr}{H H':Hp}(g:LBut l H H'):∀{vs:List V} {qs:List Rat},IsQs H vs qs->IsQs H' vs qs
 | [],[],_=>trivial
 | _ :: _,_ :: _,⟨⟨a,e,h⟩,r⟩=>⟨⟨a,e,g.isQ h⟩,g.isQs r⟩
theorem LBut.lst{l:Addr}{H H':Hp}(g:LBut l H H'){a:Addr}{o:HO}(h:H a=some o)(n:a≠l):H' a=some o:=g.1.at h n
theorem LBut.same{l:Addr}{H0 H H':Hp}(g:LBut l H H')(e:Same H0 H)(h:H0 l=none):Same H0 H':=g.1.same e h
theorem Same.at{H H':Hp}(e:Same H H'){a:Addr}{o:HO}(h:H a=some o):H' a=some o:=e a o h
theorem Same.isQ{H H':Hp}(e:Same H H'){a:Addr}{q:Rat}(h:IsQ H a q):IsQ H' a q:=h.same e
theorem SqL.keep{K:Fg}{H H':Hp}{a:Addr}{xs:List V}(h:SqL K H a xs)(e:Same H H'):SqL K H' a xs:=e.seq h
theorem Same.after{H H1 H2:Hp}(b:Same H1 H2)(a:Same H H1):Same H H2:=a.trans b
theorem Same.none{H H':Hp}{l:Addr}(h:H' l=none)(g:Same H H'):H l=none:=g.fresh h
theorem zqc{H:Hp}{a b:Addr}{o:HO}(h':H b=none)(h:H a=some o):a≠b:=zaJ h h'
theorem zcK{H:Hp}{a b:Addr}{o:HO}(h':H b=none)(h:H a=some o):b≠a:=(zaJ h h').symm
section
variable {σ:St}{H:Hp}{Q:VK}{D:Ends}{t u:TS}{K:Fg}
theorem zc3{xs:List V}(hl:xs.length<=100000)(q:∀p H',H p=none->Same H H'->H' p=some (.tup xs)->Q (.ref p) H'):zfh Q xs H:=⟨zdr hl,fun p hp=>q p _ hp (Same.new hp _) zaL⟩
theorem zqN{xs:List V}(hl:xs.length<=100000)(q:∀p H',H p=none->Same H H'->H' p=some (.lst xs)->Q (.ref p) H'):zn1 Q xs H:=⟨zdr hl,fun p hp=>q p _ hp (Same.new hp _) zaL⟩
theorem zay{q:Rat}{x y:Int}(e:x=q.num/\y=(q.den:Int))(k:NewQ H Q q):zfh Q [.int x,.int y] H:=NewQ.mk k e
theorem zqf{l:Addr}{xs:List V}{y:V}(h:H l=some (.lst xs))(hl:xs.length<=100000)(q:∀H',LBut l H H'->H' l=some (.lst (xs++[y]))->Q .non H'):zcs (.ref l) [y] H Q:=
 znu h (zjq hl) (q _ ⟨But.upd,xs,h⟩ zaL)
theorem zcC{l:Addr}{xs:List V}{k:Int}{j:Nat}{v:V}{R:Hp->Prop}(h:H l=some (.lst xs))(e:ixN xs.length k=some j)(q:∀H',LBut l H H'->H' l=some (.lst (xs.set j v))->R H'):zgD (.ref l) (.int k) v H R:=
 zqk h e (q _ ⟨But.upd,xs,h⟩ zaL)
theorem zm2{a:Addr}{xs:List V}(h:SqL K H a xs)(q:∀p H',H p=none->Same H H'->H' p=some (.lst xs)->Q (.ref p) H'):zaT K [.ref a] H Q:=zol h fun p hp=>q p _ hp (Same.new hp _) zaL
theorem zq0{a:Addr}{xs:List V}{lo hi:Option Int}(h:SqL K H a xs)(q:∀p H',H p=none->Same H H'->H' p=some (.lst (zd3 xs lo hi))->Q (.ref p) H'):zfo K (.ref a) lo hi H Q:=zrv h fun p hp=>q p _ hp (Same.new hp _) zaL
theorem ziH(i:Nat)(P:V->Hp->Prop)(q:t { D with nx:=fun σ' H'=>∃v,σ'=σ.set i (some v)/\P v H' } σ H)(r:∀v H',P v H'->u D (σ.set i (some v)) H'):znx t u D σ H:=
 ⟨_,q,fun σ' H' ⟨v,e,p⟩=>by subst e;exact r v H' p⟩
end
theorem zcD{n:Nat}{k:Int}(h0:0<=k)(h:k<n):ixN n k=some k.toNat:=by unfold ixN;rw[if_pos h0,if_pos h]
theorem zaB{α:Type}{xs:List α}{k:Int}{v:α}(h0:0<=k)(h:xs[k.toNat]?=some v):atI xs k=some v:=by
 have e:k=(k.toNat:Int):=by omega
 rw[e];exact zak h
section
variable {X:Cx}{pins:List (Addr × Obj)}{σ:St}{H:Hp}{s:Shared}{h':Heap}
theorem Inv.turnedL{t':Nat}{fp:List Addr}(I:Inv X pins σ H s)(k:∀b o,b∉fp->s.heap.get? b=some o->h'.get? b=some o)(f:∀b∈fp,zde X pins H b):Inv X pins σ H { s with heap:=h',toks:=t' }:=by
 have nit:∀b u,H b=some u->b∉fp:=fun b u e z=>by rw[(f b z).1]at e;cases e
 refine I.step (g':=s.gens) (d':=s.drawn) (ch:=fp) (fun b hb=>⟨(f b hb).2.2.2.1,(f b hb).2.1,(f b hb).2.2.2.2.1,(f b hb).2.2.2.2.2⟩) (fun b o _ _ hc e _=>k b o hc e) (fun b o _ _ hc e _=>⟨o.slots,k b o hc e⟩) (fun _ _ _ _ n=>n)
  (fun b o hc e=>⟨o,k b o hc e⟩) (fun _ _ e=>e) (fun _ _ _ e=>e) (fun b ps e=>⟨#[],by rw[e];simp⟩) (fun m hm=>?_) (fun b u e=>?_) I.bare
 ·obtain⟨o,es,ep,ho,r⟩:=hm
  exact⟨o,es,ep,k _ o (fun z=>(f _ z).2.1 rfl) ho,r⟩
 ·refine(I.hok b u e).stay (fun c v hc q=>k c v ?_ q) (fun _ q=>q) fun _ _ q=>q
  rcases hc with z | z
  ·rw[z];exact nit b u e
  ·exact nit c _ z
theorem Inv.turnedNew{t':Nat}{fp:List Addr}{p:Addr}{o:HO}(I:Inv X pins σ H s)(k:∀b o,b∉fp->s.heap.get? b=some o->h'.get? b=some o)(f:∀b∈fp,zde X pins H b)(hp:s.heap.objs.size<=p)(new:ObjOk X.prog X.w (upd H p o) h' p o) :
  Inv X pins σ (upd H p o) { s with heap:=h',toks:=t' }:=by
 have nit:∀b u,H b=some u->b∉fp:=fun b u e z=>by rw[(f b z).1]at e;cases e
 have hn:H p=none:=I.hok.fresh hp
 refine I.step (g':=s.gens) (d':=s.drawn) (ch:=fp) (fun b hb=>⟨(f b hb).2.2.2.1,(f b hb).2.1,(f b hb).2.2.2.2.1,(f b hb).2.2.2.2.2⟩) (fun b o _ _ hc e _=>k b o hc e) (fun b o _ _ hc e _=>⟨o.slots,k b o hc e⟩) (fun b u _ e n=>?_)
  (fun b o hc e=>⟨o,k b o hc e⟩) (fun b xs e=>by rw[zaA (zaJ e hn)];exact e) (fun b u v e=>by rw[zaA (zaJ e hn)];exact e) (fun b ps e=>⟨#[],by rw[zaA (zaJ e hn),e];simp⟩) (fun m hm=>?_) (fun b u e=>?_) I.bare
 ·rw[zaA (yy (yz (Heap.lt_size e) hp))];exact n
 ·obtain⟨o,es,ep,ho,r⟩:=hm
  exact⟨o,es,ep,k _ o (fun z=>(f _ z).2.1 rfl) ho,r⟩
 ·by_cases hb:b=p
  ·subst hb;rw[zaL]at e;cases e;exact new
  ·rw[zaA hb]at e
   refine(I.hok b u e).stay (fun c v hc q=>k c v ?_ q) (fun c q=>by rw[zaA (zaJ q hn)];exact q) fun c xs q=>by rw[zaA (zaJ q hn)];exact q
   rcases hc with z | z
   ·rw[z];exact nit b u e
   ·exact nit c _ z
end
theorem zb2{h:Heap}{a b:Addr}{o o':Obj}{m n:String}(e:h.get? a=some o)(c:o.cls=.type m)(e':h.get? b=some o')(c':o'.cls=.type n)(hc:(m == n)=false):a≠b:=by
 rintro rfl
 rw[e]at e'
 cases e'
 rw[c]at c'
 cases c'
 rw[beq_self_eq_true]at hc
 cases hc
theorem tup2{P:Program}{w:World}{H:Hp}{h:Heap}{p:Addr}{x y:V}{u v:Value}(e:h.get? p=some { cls:=.type "tuple",data:=.seq #[u,v] })(r1:RelV x u)(r2:RelV y v):ObjOk P w H h p (.tup [x,y]):=
 ⟨zdr (by simp),[u,v],.cons r1 (.cons r2 .nil),_,e,rfl,_,rfl⟩
def Itn(K:Fg)(a:Addr):It:=
 ⟨fun i H=>∃xs x,SqL K H a xs/\xs[i]?=some x,fun i H v H'=>∃p x,H p=none/\v=.ref p/\(∀xs,SqL K H a xs->xs[i]?=some x)/\H'=upd H p (.tup [.int i,x]),fun i H=>∃xs,SqL K H a xs/\xs.length<=i⟩
theorem zmH{P:Program}{w:World}{K:Fg}{es:List Expr}{kx:Nat}{tp:Pos}(a e it:Addr)(hne:e≠it):Turn P w K (.Tuple es kx tp) (Itn K a) [e,it] e (fun i h=>(∃old,IsEnum h e it i old)/\h.IsListIter it a i) where
 mem:=by simp
 obj:=fun i h st b hb=>by
  obtain⟨⟨old,h1⟩,o,h2,c,d⟩:=st
  rcases yM.mp hb with z | z
  ·subst z;exact⟨_,h1,fun v z=>by cases z⟩
  ·have e:b=it:=by simpa using z
   subst e
   exact⟨o,h2,fun v z=>by rw[d]at z;cases z⟩
 keep:=fun i h h' st k=>by
  obtain⟨⟨old,h1⟩,h2⟩:=st
  exact⟨⟨old,k e (by simp) _ h1⟩,h2.at fun o q=>k it (by simp) o q⟩
 item:=by
  intro X hP hw hK hc i pins s σ H E I hf st hg
  subst hP hw hK
  obtain⟨⟨old,he⟩,hit⟩:=st
  obtain⟨xs,x,hq,hx⟩:=hg
  obtain⟨its,rv,p,hz⟩:=I.list hq
  obtain⟨u,hu,ru⟩:=rv.get hx
  refine wpAny_pyNext_enum_item he hit p.isList (x:=u) (by simpa using hu) hne fun h1 eo it1 tp1 sz1 k1=>?_
  refine⟨_,rfl,wpAny_letOwnedTupleGo_enum eo fun h2 e2 sb2=>?_⟩
  have hes:e≠s.heap.objs.size:=yy (Heap.lt_size he)
  have sb2':Heap.SameBut e h1 h2:=sb2
  have t2:h2.get? s.heap.objs.size=some { cls:=.type "tuple",data:=.seq #[.int i s.toks,u] }:=(sb2'.2 _ (ybc hes)).trans tp1
  have k2:∀b o,b∉[e,it]->s.heap.get? b=some o->h2.get? b=some o:=fun b o hb q=>by
   have n1:b≠e:=fun z=>hb (by simp[z])
   have n2:b≠it:=fun z=>hb (by simp[z])
   exact(sb2'.2 b n1).trans (k1 b o n1 n2 q)
  have I2:Inv X pins σ (upd H s.heap.objs.size (.tup [.int i,x])) { s with heap:=h2,toks:=s.toks+1 }:=I.turnedNew k2 hf (yg _) (tup2 t2 ⟨_,rfl⟩ ru)
  have hn:H s.heap.objs.size=none:=I.hok.fresh (yg _)
  refine⟨.ref s.heap.objs.size,_,I2,rfl,⟨_,x,hn,rfl,fun ys hy=>by rw[I.list_inj hy hq];exact hx,rfl⟩,⟨⟨_,e2⟩,it1.at fun o q=>(sb2'.2 it (ybc hne)).trans q⟩,fun b hb=>?_⟩
  have hbs:b≠s.heap.objs.size:=by
   rcases yM.mp hb with z | z
   ·rw[z];exact hes
   ·have e:b=it:=by simpa using z
    subst e
    obtain⟨o,q,_⟩:=hit
    exact yy (Heap.lt_size q)
  rw[zaA hbs]
  exact(hf b hb).1
 done:=by
  intro X hP hw hK hc i pins s σ H E I hf st hg
  subst hP hw hK
  obtain⟨⟨old,he⟩,hit⟩:=st
  obtain⟨xs,hq,hx⟩:=hg
  obtain⟨its,rv,p,hz⟩:=I.list hq
  have hl:=rv.length
  refine wpAny_pyNext_enum_end (I.ok.hd hc) he hit p.isList (by simp;omega) fun h1 eb=>⟨rfl,I.turnedL (t':=s.toks) (fp:=[e,it]) (fun b o hb q=>eb b o (fun z=>hb (by simp[z])) q) hf⟩
 self:=fun _ _ _ _ _ st h=>by
  obtain⟨⟨old,he⟩,_⟩:=st
  exact wpAny_pyIter_enum he h
def Itz(K:Fg)(a b:Addr):It:=
 ⟨fun i H=>∃xs ys x y,SqL K H a xs/\SqL K H b ys/\xs[i]?=some x/\ys[i]?=some y,fun i H v H'=>∃p x y,H p=none/\v=.ref p/\(∀xs,SqL K H a xs->xs[i]?=some x)/\(∀ys,SqL K H b ys->ys[i]?=some y)/\H'=upd H p (.tup [x,y]),
  fun i H=>∃xs ys,SqL K H a xs/\SqL K H b ys/\(xs.length<=i\/ys.length<=i)⟩
theorem ziJ{h:Heap}{z TI TO i1 i2 a b:Addr}{f0 x1 y1 x2 y2:Value}{k1 k2:Nat}{xs ys:Array Value}(hz:IsZip h z TI TO f0)(hTI:IsPair h TI x1 y1)(hTO:IsPair h TO x2 y2)(h1:h.IsListIter i1 a k1)(h2:h.IsListIter i2 b k2)
  (l1:h.IsList a xs) (l2:h.IsList b ys) (nT:TI≠TO) (ni:i1≠i2):ZipApart z TI TO i1 i2 a b:=by
 obtain⟨o1,e1,c1,_⟩:=h1
 obtain⟨o2,e2,c2,_⟩:=h2
 obtain⟨m1,g1,d1,_⟩:=l1
 obtain⟨m2,g2,d2,_⟩:=l2
 exact⟨zb2 hTI rfl hz rfl (by decide),zb2 hTO rfl hz rfl (by decide),zb2 e1 c1 hz rfl (by decide),zb2 e2 c2 hz rfl (by decide),nT,zb2 hTI rfl e1 c1 (by decide),zb2 hTI rfl e2 c2 (by decide),zb2 hTO rfl e1 c1 (by decide),zb2 hTO rfl e2 c2 (by decide),ni,zb2 g1 d1 hz rfl (by decide),zb2 g1 d1 hTO rfl (by decide),zb2 g1 d1 e1 c1 (by decide),zb2 g1 d1 e2 c2 (by decide),zb2 g2 d2 hz rfl (by decide),zb2 g2 d2 hTO rfl (by decide),zb2 g2 d2 e1 c1 (by decide),zb2 g2 d2 e2 c2 (by decide)⟩
theorem zna{P:Program}{w:World}{K:Fg}{es:List Expr}{kx:Nat}{tp:Pos}(a b z TI TO i1 i2:Addr)(nT:TI≠TO)(ni:i1≠i2):Turn P w K (.Tuple es kx tp) (Itz K a b) [z,TI,TO,i1,i2] z
  (fun i h=>IsZip h z TI TO .none/\IsPair h TI (.ref i1) (.ref i2)/\(∃x y,IsPair h TO x y)/\h.IsListIter i1 a i/\h.IsListIter i2 b i) where
 mem:=by simp
 obj:=fun i h st c hb=>by
  obtain⟨hz,hTI,⟨x,y,hTO⟩,⟨o1,e1,c1,d1⟩,⟨o2,e2,c2,d2⟩⟩:=st
  simp only[yM,yaR,or_false]at hb
  rcases hb with rfl | rfl | rfl | rfl | rfl
  ·exact⟨_,hz,fun v q=>by cases q⟩
  ·exact⟨_,hTI,fun v q=>by cases q⟩
  ·exact⟨_,hTO,fun v q=>by cases q⟩
  ·exact⟨_,e1,fun v q=>by rw[d1]at q;cases q⟩
  ·exact⟨_,e2,fun v q=>by rw[d2]at q;cases q⟩
 keep:=fun i h h' st k=>by
  obtain⟨hz,hTI,⟨x,y,hTO⟩,h1,h2⟩:=st
  exact⟨k z (by simp) _ hz,k TI (by simp) _ hTI,⟨x,y,k TO (by simp) _ hTO⟩,h1.at fun o q=>k i1 (by simp) o q,h2.at fun o q=>k i2 (by simp) o q⟩
 item:=by
  intro X hP hw hK hc i pins s σ H E I hf st hg
  subst hP hw hK
  obtain⟨hz,hTI,⟨x0,y0,hTO⟩,h1,h2⟩:=st
  obtain⟨xs,ys,x,y,hq,hq',hx,hy⟩:=hg
  obtain⟨its,rv,p,hsz⟩:=I.list hq
  obtain⟨jts,rv',p',hsz'⟩:=I.list hq'
  obtain⟨u,hu,ru⟩:=rv.get hx
  obtain⟨u',hu',ru'⟩:=rv'.get hy
  have A:=ziJ hz hTI hTO h1 h2 p.isList p'.isList nT ni
  refine wpAny_pyNext_zip_item A hz hTI hTO h1 h2 p.isList p'.isList (x:=u) (y:=u') (by simpa using hu) (by simpa using hu') fun g1 z1 to1 j1 j2 t1 sz1 k1=>?_
  refine⟨_,rfl,wpAny_letOwnedTupleGo_zip z1 fun g2 z2 sb2=>?_⟩
  have sb2':Heap.SameBut z g1 g2:=sb2
  have hzs:z≠s.heap.objs.size:=yy (Heap.lt_size hz)
  have t2:g2.get? s.heap.objs.size=some { cls:=.type "tuple",data:=.seq #[u,u'] }:=(sb2'.2 _ (ybc hzs)).trans t1
  have k2:∀c o,c∉[z,TI,TO,i1,i2]->s.heap.get? c=some o->g2.get? c=some o:=fun c o hb q=>by
   have n1:c≠z:=fun z=>hb (by simp[z])
   exact(sb2'.2 c n1).trans (k1 c o n1 (fun z=>hb (by simp[z])) (fun z=>hb (by simp[z])) (fun z=>hb (by simp[z])) q)
  have I2:Inv X pins σ (upd H s.heap.objs.size (.tup [x,y])) { s with heap:=g2,toks:=s.toks }:=I.turnedNew k2 hf (yg _) (tup2 t2 ru ru')
  have hn:H s.heap.objs.size=none:=I.hok.fresh (yg _)
  refine⟨.ref s.heap.objs.size,_,I2,rfl,⟨_,x,y,hn,rfl,fun ys hy'=>by rw[I.list_inj hy' hq];exact hx,fun ys hy'=>by rw[I.list_inj hy' hq'];exact hy,rfl⟩,
   ⟨z2,(sb2'.2 TI A.TIz).trans (k1 TI _ A.TIz A.TITO A.TIi1 A.TIi2 hTI),⟨_,_,(sb2'.2 TO A.TOz).trans to1⟩,j1.at fun o q=>(sb2'.2 i1 A.i1z).trans q,j2.at fun o q=>(sb2'.2 i2 A.i2z).trans q⟩,fun c hb=>?_⟩
  have hbs:c≠s.heap.objs.size:=by
   simp only[yM,yaR,or_false]at hb
   obtain⟨o1,e1,_⟩:=h1
   obtain⟨o2,e2,_⟩:=h2
   rcases hb with rfl | rfl | rfl | rfl | rfl
   ·exact hzs
   ·exact yy (Heap.lt_size hTI)
   ·exact yy (Heap.lt_size hTO)
   ·exact yy (Heap.lt_size e1)
   ·exact yy (Heap.lt_size e2)
  rw[zaA hbs]
  exact(hf c hb).1
 done:=by
  intro X hP hw hK hc i pins s σ H E I hf st hg
  subst hP hw hK
  obtain⟨hz,hTI,⟨x0,y0,hTO⟩,h1,h2⟩:=st
  obtain⟨xs,ys,hq,hq',hx⟩:=hg
  obtain⟨its,rv,p,hsz⟩:=I.list hq
  obtain⟨jts,rv',p',hsz'⟩:=I.list hq'
  have hl:=rv.length
  have hl':=rv'.length
  have A:=ziJ hz hTI hTO h1 h2 p.isList p'.isList nT ni
  refine wpAny_pyNext_zip_end (I.ok.hd hc) A hz hTI hTO h1 h2 p.isList p'.isList ?_ fun g1 k1=>⟨rfl,I.turnedL (t':=s.toks) (fp:=[z,TI,TO,i1,i2]) (fun c o hb q=>k1 c o (fun z=>hb (by simp[z])) (fun z=>hb (by simp[z])) (fun z=>hb (by simp[z])) (fun z=>hb (by simp[z])) q) hf⟩
  rcases hx with q | q
  ·exact .inl (by simp;omega)
  ·exact .inr (by simp;omega)
 self:=fun _ _ _ _ _ st h=>wpAny_pyIter_zip st.1 h
section
variable {X:Cx}{es:List Expr}{kx:Nat}{tp:Pos}
def zk7(K:Fg)(R:It->Hp->Prop)(vs:List V)(H:Hp):Prop:=∃a,vs=[.ref a]/\(∃xs,SqL K H a xs)/\R (Itn K a) H
def znh(K:Fg)(R:It->Hp->Prop)(vs:List V)(H:Hp):Prop:=∃a b,vs=[.ref a,.ref b]/\(∃xs,SqL K H a xs)/\(∃ys,SqL K H b ys)/\R (Itz K a b) H
abbrev zcb(K:Fg)(ta:TA):TI:=fun σ H R=>ta σ H (zk7 K R)
abbrev znQ(K:Fg)(ta:TA):TI:=fun σ H R=>ta σ H (znh K R)
theorem zbp{a:Expr}{ta:TA}{p pos:Pos}(hg:Gl X "enumerate")(hm:X.mg "enumerate" = none)(ha:PA X [a] ta)(hs:autoParam (starEach [a] X.env=[(false,eval a X.env)]) Internal.aut2._auto_1):PI X (.Tuple es kx tp) (.Call (.Name "enumerate" p) [a] [] pos) (zcb X.K ta):=by
 intro pins s σ H R I h
 refine Call_ (zcQ I hg hm boot_enumerate (yao (thn (ha pos pins s σ H _ I h) fun us s1 ⟨vs,H1,I1,r1,q1⟩=>?_) hs rfl))
 obtain⟨l,e,⟨xs,hq⟩,q⟩:=q1
 subst e
 obtain⟨u,rfl,r⟩:=vals1 r1
 cases r
 obtain⟨its,rv,pl,hz⟩:=I1.list hq
 refine call_enumerate_list pl.isList fun h1 e1 i1 sz1 k1=>?_
 refine wpAny_pyIter_enum e1 ?_
 have I2:Inv X pins σ H1 { s1 with heap:=h1,toks:=s1.toks }:=I1.kept k1
 refine⟨s1.heap.objs.size+1,[s1.heap.objs.size+1,s1.heap.objs.size],_,_,H1,rfl,I2,zmH l _ _ (Nat.succ_ne_self _),⟨⟨_,e1⟩,i1⟩,fun b hb=>?_,q⟩
 have hb':s1.heap.objs.size<=b:=by
  simp only[yM,yaR,or_false]at hb
  rcases hb with rfl | rfl<;>omega
 exact I1.fpOk hb' (I1.hok.fresh hb')
theorem zmS{a b:Expr}{ta:TA}{p pos:Pos}(hg:Gl X "zip")(hm:X.mg "zip" = none)(ha:PA X [a,b] ta)(hs:autoParam (starEach [a,b] X.env=[(false,eval a X.env),(false,eval b X.env)]) Internal.aut2._auto_1)(hs2:autoParam (starEach [b] X.env=[(false,eval b X.env)]) Internal.aut2._auto_1) :
  PI X (.Tuple es kx tp) (.Call (.Name "zip" p) [a,b] [] pos) (znQ X.K ta):=by
 intro pins s σ H R I h
 refine Call_ (zcQ I hg hm boot_zip (yao (thn (ha pos pins s σ H _ I h) fun us s1 ⟨vs,H1,I1,r1,q1⟩=>?_) (by rw[hs,hs2]) (by rw[hs2];rfl)))
 obtain⟨l,m,e,⟨xs,hq⟩,⟨ys,hq'⟩,q⟩:=q1
 subst e
 obtain⟨u,u',rfl,r,r'⟩:=vals2 r1
 cases r
 cases r'
 obtain⟨its,rv,pl,hz⟩:=I1.list hq
 obtain⟨jts,rv',pl',hz'⟩:=I1.list hq'
 refine call_zip_2 pl.isList pl'.isList fun h1 z1 ti to i1 i2 sz1 k1=>?_
 refine wpAny_pyIter_zip z1 ?_
 have I2:Inv X pins σ H1 { s1 with heap:=h1,toks:=s1.toks }:=I1.kept k1
 refine⟨s1.heap.objs.size+4,[s1.heap.objs.size+4,s1.heap.objs.size+2,s1.heap.objs.size+3,s1.heap.objs.size,s1.heap.objs.size+1],_,_,H1,rfl,I2,zna l m _ _ _ _ _ (yy (ybo _)) (yy (ybo _)),⟨z1,ti,⟨_,_,to⟩,i1,i2⟩,fun b hb=>?_,q⟩
 have hb':s1.heap.objs.size<=b:=by
  simp only[yM,yaR,or_false]at hb
  rcases hb with rfl | rfl | rfl | rfl | rfl<;>omega
 exact I1.fpOk hb' (I1.hok.fresh hb')
end
section
variable {X:Cx}
theorem Inv.walk{pins:List (Addr × Obj)}{σ:St}{H:Hp}{s:Shared}{a:Addr}{xs:List V}(I:Inv X pins σ H s)(hq:SqL X.K H a xs):∃its:List Value,Vals xs its/\s.heap.IsList a its.toArray/\its.length=xs.length/\a<s.heap.objs.size:=by
 obtain⟨its,rv,pl,hz⟩:=I.list hq
 obtain⟨o,e,_⟩:=id pl.isList
 exact⟨its,rv,pl.isList,rv.length.symm,Heap.lt_size e⟩
def zao(ns:List Int):Int:=ns.foldl (·+·) 0
theorem zh5(ns:List Int)(n:Int):zao (ns++[n])=zao ns+n:=by unfold zao;rw[yat];rfl
theorem zfW(ns:List Int):∀j,j<=ns.length->preSum (fun i=>ns.getD i 0) j=zao (ns.take j)
 | 0,_=>rfl
 | j+1,h=>by
  have hj:j<ns.length:=by omega
  rw[preSum,zfW ns j (by omega),yaS hj,zh5]
  simp[List.getD,hj]
def zeg(K:Fg):List V->Hp->VK->Prop:=fun xs H Q=>∃a ns,xs=[.ref a]/\SqL K H a (List.map V.int ns)/\Q (.int (zao ns)) H
theorem zqD{ns:List Int}{its:List Value}{i:Nat}{v:Value}(rv:Vals (ns.map V.int) its)(h:its.toArray[i]?=some v):∃t,v=.int (ns.getD i 0) t:=by
 have hl:=rv.length
 rw[yh]at hl
 have hi:i<ns.length:=by
  have:=(Array.getElem?_eq_some_iff.mp h).1
  simp at this;omega
 obtain⟨u,hu,r⟩:=rv.get (show(ns.map V.int)[i]?=some (.int (ns.getD i 0)) by simp[List.getD,hi])
 have:v=u:=by
  have h':its[i]?=some v:=by simpa using h
  rw[hu]at h';exact(yn h').symm
 obtain⟨t,rfl⟩:=r
 exact⟨t,this⟩
theorem zcJ(hc:X.calm=true):CallR X (.builtin "sum") (zeg X.K):=by
 intro pins s σ H xs us Q I r h
 obtain⟨a,ns,rfl,hq,q⟩:=h
 obtain⟨u,rfl,r1⟩:=vals1 r
 cases r1
 obtain⟨its,rv,pl,hl,hlt⟩:=I.walk hq
 refine call_sum_walkAnyS (wpAny_pyIter_list pl ?_)
 have hne:a≠s.heap.objs.size:=yy hlt
 refine⟨_,_,_,_,_,_,_,fun i=>ns.getD i 0,rfl,(Walks.list (prog:=X.prog) (w:=X.w) (A:=X.A.in1) (I.ok.hd hc) s.heap.objs.size a hne its.toArray).toS,⟨⟨_,Heap.get?_push_size _ rfl,rfl,rfl⟩,pl.at fun o e=>Heap.get?_push_of_some _ e⟩,fun b hb=>?_,fun i v hv=>zqD rv hv,fun s' t' hm=>?_⟩
 ·rw[Heap.size_push]
  simp only[yM,yaR,or_false]at hb
  rcases hb with rfl | rfl
  ·exact ybo _
  ·exact ybJ hlt
 ·have hn:(its.toArray).size=ns.length:=by rw[yh]at hl;simpa using hl
  rw[hn,zfW ns _ (yg _),yK]
  have hg:s'.gens=s.gens:=by have:=hm.gens;first | exact this | exact this.symm
  have hd:=hm.drawn
  have ho:=hm.os
  have I1:Inv X pins σ H { s with heap:=s'.heap,toks:=s'.toks }:=I.kept fun b o e=>hm.heap b o (fun z=>by
   simp only[yM,yaR,or_false]at z
   subst z
   exact absurd (Heap.lt_size e) (yaa _)) (Heap.get?_push_of_some _ e)
  have e:({ s with heap:=s'.heap,toks:=s'.toks }:Shared)=s':=by
   cases s';cases s
   simp only at hg hd ho
   subst hg hd ho;rfl
  rw[e]at I1
  exact⟨.int (zao ns),H,I1,⟨t',rfl⟩,q⟩
end
def zr0(er:Addr)(s:Shared):Prop:=∃o,s.heap.objs[er]?=some o/\o.dict=none
set_option genInjectivity false in
set_option genSizeOf false in
structure Fly(P:Program)(w:World)(outer:List Env)(H:Hp)(s:Shared)(H':Hp)(er C t:Addr)(B:Heap)(s':Shared):Prop where
 os:s'.os=s.os
 bare:AllBare s'.gens
 un:Un (frs outer) [] H H' s.heap s'.heap
 hok:HOk P w H' s'.heap
 fly:Heap.FlyingW B outer er (.ref C) (.ref t) s'.heap
 old:∀b o,s.heap.get? b=some o->H b=none->b∉frs outer->B.get? b=some o
 has:∀b o,s.heap.get? b=some o->b∉frs outer->∃u,B.get? b=some u
 trk:∀b o u,H' b=some o->s'.heap.get? b=some u->B.get? b=some u
 nod:zr0 er s'
def CXF(P:Program)(w:World):CXT:=fun outer H s E e s'=>∃er C t B H',e=.ref er/\Fly P w outer H s H' er C t B s'/\E (.ref C) none H'
theorem zF{P:Program}{w:World}:NoX (CXF P w):=fun _ _ _ _ _ ⟨_,_,_,_,_,_,_,h⟩=>h
section
variable {P:Program}{w:World}{outer:List Env}{H H':Hp}{s s':Shared}{er C t:Addr}{B h:Heap}
def zln(er C:Addr)(h:Heap):Prop:=∃oe:Obj,PySem.W.InstAt h er oe C none
def zrs(er C:Addr):HO:=.ext (zln er C)
end
def bmV:List Value:=[.type "ValueError",.type "Exception",.type "BaseException",.type "object"]
theorem zlR{prog:Program}{w:World}{A:Around}{E:Value->Shared->Prop}{s:Shared}{K:Fg}{er C:Addr}{oe:Obj}{Q:Option Value->Shared->Prop}
  (ga:PySem.W.findIn K (.ref C) "__getattribute__" = some (some (.builtin "BaseException.__getattribute__"))) (gn:PySem.W.findIn K (.ref C) "__getattr__" = some none)
  (hf:PySem.W.findObj K C none "__class__" = some (.bind (.builtin "getset_descriptor.__get__") (.builtin "object.__class__"))) (mo:PySem.W.mroIn K C (.type "object")=some true) (be:PySem.W.mroIn K C (.type "BaseException")=some true)
  (X:K.In s.heap) (i:PySem.W.InstAt s.heap er oe C none) (q:Q (some (.ref C)) { s with toks:=s.toks+1 }):wpAny (model prog w) A (getAttr? (.ref er) "__class__") Q E s:=by
 obtain⟨hh,g,d,t,os⟩:=s
 have L0:=i.type (M:=model prog w)
 have L1:=PySem.W.looks_findIn (M:=model prog w) X ga
 have Internal':=PySem.W.looks_findIn (M:=model prog w) X gn
 have L3:=PySem.W.looks_find (M:=model prog w) X i hf
 have L4:=PySem.W.looks_mroIn (M:=model prog w) X be
 have f3:=PySem.F.attr_ValueError.ga.bind (.ref er)
 unfold getAttr? getAttrBy? getAttrBy
 refine wpAny_bind (wpAny_mkText (wpAny_bind (wpAny_attempt (wpAny_holding (wpAny_bind (L0.at (wpAny_bind (L1.at ?_))))))))
 show wpAny _ _ (getAttrByItsOwn _ _ _ _ _ _) _ _ _
 unfold getAttrByItsOwn hookBefore
 refine wpAny_bind (Internal'.at ?_)
 refine wpAny_bind (wpAny_attempt (wpAny_holding ?_))
 show wpAny _ _ (boundAndCalled _ _ _) _ _ _
 unfold boundAndCalled
 rw[f3]
 refine wpAny_bind (wpAny_pure ?_)
 refine wpAny_call (codeAny_call_builtin PySem.F.attr_ValueError.ga.plain PySem.F.entry_bexc_ga ?_)
 have hk:builtinKind "BaseException.__getattribute__" = some .slot:=by decide +kernel
 have hsp:splitId "BaseException.__getattribute__" = some ("BaseException", "__getattribute__"):=by decide +kernel
 simp only[checkBuiltinCall,hk,hsp]
 unfold isInstance
 refine wpAny_bind (wpAny_bind (L0.at (L4.at ?_)))
 simp only[Bool.not_true,yby,if_false]
 have ha:=PySem.F.args_bexc_ga (.ref er) (.str "__class__" t)
 unfold argsOk at ha
 refine wpAny_of_eq (a:=()) ha ?_
 show wpAny _ _ (Builtin.«object.__getattribute__» _) _ _ _
 unfold Builtin.«object.__getattribute__»
 refine wpAny_bind (wpAny_pure ?_)
 refine wpAny_bind (wpAny_pure ?_)
 refine wpAny_bind (L0.at ?_)
 refine wpAny_bind (L3.at ?_)
 show wpAny _ _ (Builtin.ObjectAttr.bindTo _ _ _ _) _ _ _
 unfold Builtin.ObjectAttr.bindTo
 refine wpAny_bind (wpAny_holding (wpAny_call (PySem.W.class_get X i mo ?_)))
 exact wpAny_pure (PySem.W.handed_on rfl (wpAny_pure q))
def zeC(K:Fg)(C:Addr):Bool:=PySem.W.excIn K C bmV "ValueError.__new__" && (PySem.W.findIn K (.ref C) "__getattribute__" == some (some (.builtin "BaseException.__getattribute__")))&&(PySem.W.findIn K (.ref C) "__getattr__" == some none)&&(PySem.W.mroIn K C (.type "BaseException") == some true)&&(PySem.W.clsIn K C).isSome&&(PySem.W.findIn K (.ref C) "__class__" == some (some (.builtin "object.__class__"))) &&
 (PySem.W.specialIn K (.builtin "object.__class__") "__get__" == some (some (.builtin "getset_descriptor.__get__")))&&(PySem.W.takesIn K (.builtin "object.__class__") == some true)&&(PySem.W.mroIn K C (.type "object") == some true)
theorem zn5{K:Fg}{er C:Addr}(h:zeC K C=true):PySem.W.KitX K (.ref er) (.ref C) (zln er C):=by
 unfold zeC at h
 simp only[yah,beq_iff_eq]at h
 obtain⟨⟨⟨⟨⟨⟨⟨⟨_,ga⟩,gn⟩,be⟩,cl⟩,fa⟩,sn⟩,tk⟩,mo⟩:=h
 obtain⟨cd,hc⟩:=Option.isSome_iff_exists.mp cl
 have there:∃o:Obj,K.lookup C=some o/\o.data=.cls cd:=by
  unfold PySem.W.clsIn at hc
  split at hc
  ·rename_i lk;cases hc;exact⟨_,lk,rfl⟩
  ·cases hc
 obtain⟨o,lk,dt⟩:=there
 refine⟨fun M h _ ⟨oe,i⟩=>i.type,fun M h X _ A Q E s k q=>?_,fun h tp dd its n sl X e=>?_,fun {prog w A E Q s} X ⟨oe,i⟩ q=>?_⟩
 ·have g:=k _ _ (X _ _ lk)
  obtain⟨oc,od,oda,osl⟩:=o
  simp only at dt
  subst dt
  unfold isType loadHead
  exact wpAny_bind (wpAny_loadPart g (wpAny_pure q))
 ·rw[Bool.eq_false_iff]
  intro z
  have ec:C=tp:=Value.ref.inj (beq_iff_eq.mp z)
  subst ec
  have g:=X _ _ lk
  rw[e]at g;cases g;cases dt
 ·have hf:PySem.W.findObj K C none "__class__" = some (.bind (.builtin "getset_descriptor.__get__") (.builtin "object.__class__")):=by
   unfold PySem.W.findObj
   rw[hc,Option.bind_some,fa,Option.bind_some]
   simp[sn,tk]
  exact zlR ga gn hf mo be X i q
abbrev Cx.inH(X:Cx)(er:Addr):Cx:={ X with A:=X.A.mark (some (.ref er)),calm:=false,xe:=fun _ _=>False }
section
variable {X:Cx}{pins:List (Addr × Obj)}{σ:St}{H H':Hp}{s s':Shared}
def Ends.gone(D:Ends)(i:Nat):Ends:=⟨fun σ H=>D.nx (σ.set i none) H,D.rt,fun σ H=>D.bk (σ.set i none) H,fun σ H=>D.ct (σ.set i none) H⟩
end
def zcU(K:Fg):List V->Hp->VK->Prop:=fun xs H Q=>(∃er C c cv b,xs=[.ref er,c]/\RelV c cv/\H er=some (zrs er C)/\zeC K C=true/\PySem.W.kitOne K (.ref C) cv=some b/\Q (.bl b) H)\/zeE K xs H Q
theorem zc2{X:Cx}:CallR X (.builtin "isinstance") (zcU X.K):=by
 refine CallR.or ?_ zke
 intro pins s σ H xs us Q I r h
 obtain⟨er,C,c,cv,b,rfl,rc,he,ok,hk,q⟩:=h
 obtain⟨u,w',rfl,r1,r2⟩:=vals2 r
 obtain rfl:u=Value.ref er:=r1
 have ie:zln er C s.heap:=(I.hok er _ he).1
 have ec:w'=cv:=by
  cases c with
  | ty n=>exact(show w'=_ from r2).trans (show cv=_ from rc).symm
  | ref a=>exact(show w'=_ from r2).trans (show cv=_ from rc).symm
  | non=>exact(show w'=_ from r2).trans (show cv=_ from rc).symm
  | bl b=>exact(show w'=_ from r2).trans (show cv=_ from rc).symm
  | _=>obtain⟨_,rfl⟩:=rc;simp[PySem.W.kitOne,PySem.W.kitCls]at hk
 subst ec
 exact yak (zn5 ok) I.kIn ie hk (by intro z;cases z) fun tk=>⟨.bl b,H,I.tok tk,rfl,q⟩
theorem ziu{K:Fg}{xs:List V}{H:Hp}{Q:VK}(q:zeE K xs H Q):zcU K xs H Q:=.inr q
theorem zjf{K:Fg}{D:Addr}(h:PySem.W.hasDictIn K D=true):(PySem.W.clsIn K D).isSome=true:=by
 obtain⟨cd,e,_⟩:=PySem.W.any_some h
 rw[e];rfl
theorem zi9{K:Fg}{C:Addr}(x:PySem.W.excIn K C [.type "ValueError",.type "Exception",.type "BaseException",.type "object"] "ValueError.__new__" = true)(ga:PySem.W.findIn K (.ref C) "__getattribute__" = some (some (.builtin "BaseException.__getattribute__")))(gn:PySem.W.findIn K (.ref C) "__getattr__" = some none)(be:PySem.W.mroIn K C (.type "BaseException")=some true)(hd:PySem.W.hasDictIn K C=true)
  (fa:PySem.W.findIn K (.ref C) "__class__" = some (some (.builtin "object.__class__"))) (sn:PySem.W.specialIn K (.builtin "object.__class__") "__get__" = some (some (.builtin "getset_descriptor.__get__"))) (tk:PySem.W.takesIn K (.builtin "object.__class__")=some true)
  (mo:PySem.W.mroIn K C (.type "object")=some true):zeC K C=true:=by
 unfold zeC bmV
 rw[x,ga,gn,be,zjf hd,fa,sn,tk,mo];simp
theorem zk4{K:Fg}{t:Value}{D:Addr}{b:Bool}(hd:PySem.W.hasDictIn K D=true)(ht:PySem.W.typeIn K (.ref D)=some (.type "type"))(hs:PySem.W.subIn K t (.ref D)=some b):PySem.W.kitCls K t (.ref D)=some b:=by
 unfold PySem.W.kitCls
 simp only
 rw[zjf hd,ht,if_pos (by simp)];exact hs
theorem zmR{K:Fg}{C D:Addr}{b:Bool}(h:C≠D)(hd:PySem.W.hasDictIn K D=true)(ht:PySem.W.typeIn K (.ref D)=some (.type "type"))(hs:PySem.W.subIn K (.ref C) (.ref D)=some b):PySem.W.kitOne K (.ref C) (.ref D)=some b:=by
 unfold PySem.W.kitOne
 rw[if_neg (by intro z;exact h (Value.ref.inj (beq_iff_eq.mp z)))]
 exact zk4 hd ht hs
theorem zju{K:Fg}{C:Addr}:PySem.W.kitOne K (.ref C) (.ref C)=some true:=by
 unfold PySem.W.kitOne
 rw[if_pos (by simp)]
section
variable {X:Cx}
theorem zfs:zjI X (zeQ X.K):=by
 intro pins s σ H x y v u Q I rx ry h
 obtain⟨p,xs,i,z,rfl,rfl,hq,he,q⟩:=h
 cases rx
 obtain⟨t,rfl⟩:=ry
 obtain⟨its,r,pl,hz⟩:=I.list hq
 obtain⟨j,h1,h2,h3,h4,h5⟩:=zfB he
 obtain⟨w,ew,rw'⟩:=r.get h2
 have hl:=r.length
 have hn:=line63
 have fin:EP X pins σ Q w s:=⟨z,H,I,rw',q⟩
 by_cases h0:0<=i
 ·have hj:i.toNat=j:=by
   rw[seqIndex_of h0 h5]at h1
   exact yn h1
  exact wpAny_getItem_list pl.isList h0 (by omega) (by rw[hj];simpa using ew) fin
 ·have hj:(i+(its.toArray.size:Int)).toNat=j:=by
   rw[seqIndex_neg (by omega) h4]at h1
   rw[yq,<- hl]
   exact yn h1
  exact wpAny_getItem_list_neg pl.isList (by omega) (by rw[yq]<;>omega) (by omega) (by rw[hj];simpa using ew) fin
end
def Src(J:It)(P:Hp->Prop)(n:Nat)(Y:Nat->V->Hp->Prop):Prop:=
 (∀i H,P H->i<n->J.go i H)/\(∀H,P H->J.stop n H)/\∀i H x H',P H->i<n->J.yld i H x H'->Same H H'/\Y i x H'
theorem zO{α:Type}{xs:List α}{i:Nat}(h:i<xs.length):∃x,xs[i]?=some x:=⟨xs[i],by simp[h]⟩
theorem zaP{K:Fg}{a:Addr}{xs:List V}:Src (Itl K a) (fun H=>SqL K H a xs) xs.length (fun i x _=>xs[i]?=some x):=
 ⟨fun i H h hi=>by obtain⟨x,hx⟩:=zO hi;exact⟨xs,x,h,hx⟩,fun H h=>⟨xs,h,yg _⟩,fun i H x H' h hi ⟨q,r⟩=>by subst q;exact⟨Same.refl _,r xs h⟩⟩
theorem zcA{lo:Int}{n:Nat}:Src (Itr lo n) (fun _=>True) n (fun i x _=>x=.int (lo+i)):=
 ⟨fun i H e hi=>hi,fun H e=>yg _,fun i H x H' e hi ⟨q,r⟩=>by subst q;exact⟨Same.refl _,r⟩⟩
theorem za4{K:Fg}{a:Addr}{xs:List V}:Src (Itn K a) (fun H=>SqL K H a xs) xs.length (fun i x H=>∃p v,x=.ref p/\xs[i]?=some v/\H p=some (.tup [.int i,v])):=
 ⟨fun i H h hi=>by obtain⟨x,hx⟩:=zO hi;exact⟨xs,x,h,hx⟩,fun H h=>⟨xs,h,yg _⟩,fun i H x H' h hi ⟨p,v,hp,q,r,z⟩=>by subst z;exact⟨Same.new hp _,p,v,q,r xs h,zaL⟩⟩
theorem zkr{K:Fg}{a b:Addr}{xs ys:List V}:Src (Itz K a b) (fun H=>SqL K H a xs/\SqL K H b ys) (min xs.length ys.length) (fun i x H=>∃p v w,x=.ref p/\xs[i]?=some v/\ys[i]?=some w/\H p=some (.tup [v,w])):=
 ⟨fun i H h hi=>by
  obtain⟨x,hx⟩:=zO (show i<xs.length by omega)
  obtain⟨y,hy⟩:=zO (show i<ys.length by omega)
  exact⟨xs,ys,x,y,h.1,h.2,hx,hy⟩,fun H h=>⟨xs,ys,h.1,h.2,by omega⟩,fun i H x H' h hi ⟨p,v,w,hp,q,r,r',z⟩=>by subst z;exact⟨Same.new hp _,p,v,w,q,r xs h.1,r' ys h.2,zaL⟩⟩
section
variable {σ:St}{H:Hp}{Q:VK}{D:Ends}{ta tb tc te to ti:TE}{t u:TS}{K:Fg}
theorem zdE{J:It}{P:Hp->Prop}{n:Nat}{Y:Nat->V->Hp->Prop}{g:TG}{tb:TS}(S:Src J P n Y)(Pv:Nat->St->Hp->Prop)(h0:Pv 0 σ H)(hk:∀i σ H,Pv i σ H->P H)
  (hs:∀i x σ H H',i<n->Pv i σ H->Same H H'->Y i x H'->g x σ H' fun σ2 H2=>tb { D with nx:=Pv (i+1),ct:=Pv (i+1),bk:=D.nx } σ2 H2) (hd:∀σ H,Pv n σ H->D.nx σ H):zlz J g tb D σ H:=by
 refine⟨fun i m σ H=>m=n-i/\i<=n/\Pv i σ H,⟨n,by simp,yF _,h0⟩,?_⟩
 rintro i m σ H ⟨rfl,hi,p⟩
 by_cases hlt:i<n
 ·refine .inr ⟨S.1 i H (hk i σ H p) hlt,Pv (i+1),fun σ' H' q=>⟨n-(i+1),by omega,rfl,hlt,q⟩,fun x H' y=>?_⟩
  obtain⟨e,y'⟩:=S.2.2 i H x H' (hk i σ H p) hlt y
  exact hs i x σ H H' hlt p e y'
 ·have:i=n:=by omega
  subst this
  exact .inl ⟨S.2.1 H (hk i σ H p),hd σ H p⟩
def zit(J:It)(caps:List (Option Nat))(g:TG)(tf:TT)(te:TE)(σ:St)(Q:VK)(H1:Hp):Prop:=∀D,H1 D=none ->
 ∃W:Nat->Nat->St->Hp->Prop,(∃m,W 0 m (zdu caps σ) (upd H1 D (.lst [])))/\∀i m σ' H',W i m σ' H' ->
  (J.stop i H'/\Q (.ref D) H')\/(J.go i H'/\∃N:St->Hp->Prop,(∀σ2 H2,N σ2 H2->∃m',m'<m/\W (i+1) m' σ2 H2) /\
   ∀x H2,J.yld i H' x H2->g x σ' H2 fun σ1 H3=>tf σ1 H3 fun b H4=>if b=true then te σ1 H4 fun v H5=>zcs (.ref D) [v] H5 fun _ H6=>N σ1 H6 else N σ1 H4)
theorem zp8{wi:TI}{caps:List (Option Nat)}{g:TG}{tf:TT}{te:TE}(q:wi σ H fun J H1=>zit J caps g tf te σ Q H1):ziA wi caps g tf te σ H Q:=q
def zed(H:Hp)(Sv:St->Prop)(Pv:Nat->List V->Hp->Prop)(D:Addr)(i:Nat)(σ':St)(H':Hp):Prop:=Sv σ'/\Same H H'/\∃vs,H' D=some (.lst vs)/\vs.length<=i/\Pv i vs H'
theorem zkK{J:It}{P:Hp->Prop}{n:Nat}{Y:Nat->V->Hp->Prop}{caps:List (Option Nat)}{g:TG}{tf:TT}{te:TE}(S:Src J P n Y)(e0:∀H',Same H H'->P H')(Sv:St->Prop)(Pv:Nat->List V->Hp->Prop)(hc:Sv (zdu caps σ))(h0:∀H',Same H H'->Pv 0 [] H')
  (hs:∀i x D vs σ' H' H2,i<n->H D=none->Sv σ'->Same H H'->H' D=some (.lst vs)->vs.length<=i->Pv i vs H'->Same H' H2->Y i x H2->g x σ' H2 fun σ1 H3=>tf σ1 H3 fun b H4=>if b=true then te σ1 H4 fun v H5=>zcs (.ref D) [v] H5 fun _ H6=>zed H Sv Pv D (i+1) σ1 H6 else zed H Sv Pv D (i+1) σ1 H4)
  (hq:∀D H' vs,H D=none->Same H H'->H' D=some (.lst vs)->vs.length<=n->Pv n vs H'->Q (.ref D) H'):zit J caps g tf te σ Q H:=by
 intro D hD
 refine⟨fun i m σ' H'=>m=n-i/\i<=n/\zed H Sv Pv D i σ' H',⟨n,by simp,yF _,hc,Same.new hD _,[],zaL,yg _,h0 _ (Same.new hD _)⟩,?_⟩
 rintro i m σ' H' ⟨rfl,hi,sv,e,vs,hv,hl,p⟩
 by_cases hlt:i<n
 ·refine .inr ⟨S.1 i H' (e0 _ e) hlt,zed H Sv Pv D (i+1),fun σ2 H2 q=>⟨n-(i+1),by omega,rfl,hlt,q⟩,fun x H2 y=>?_⟩
  obtain⟨e',y'⟩:=S.2.2 i H' x H2 (e0 _ e) hlt y
  exact hs i x D vs σ' H' H2 hlt hD sv e hv hl p e' y'
 ·have:i=n:=by omega
  subst this
  exact .inl ⟨S.2.1 H' (e0 _ e),hq D H' vs hD e hv hl p⟩
theorem zam{J:It}{P:Hp->Prop}{n:Nat}{Y:Nat->V->Hp->Prop}{caps:List (Option Nat)}{g:TG}{tf:TT}{te:TE}{rest:St}(S:Src J P n Y)(e0:∀H',Same H H'->P H')(hc:zdu caps σ=none :: rest)(Pv:Nat->List V->Hp->Prop)(h0:∀H',Same H H'->Pv 0 [] H')
  (hs:∀i x D vs o H' H2,i<n->H D=none->Same H H'->H' D=some (.lst vs)->vs.length<=i->Pv i vs H'->Same H' H2->Y i x H2->g x (o :: rest) H2 fun σ1 H3=>tf σ1 H3 fun b H4=>if b=true then te σ1 H4 fun v H5=>zcs (.ref D) [v] H5 fun _ H6=>zed H (fun σ'=>∃o,σ'=o :: rest) Pv D (i+1) σ1 H6 else zed H (fun σ'=>∃o,σ'=o :: rest) Pv D (i+1) σ1 H4)
  (hq:∀D H' vs,H D=none->Same H H'->H' D=some (.lst vs)->vs.length<=n->Pv n vs H'->Q (.ref D) H'):zit J caps g tf te σ Q H:=
 zkK S e0 (fun σ'=>∃o,σ'=o :: rest) Pv ⟨_,hc⟩ h0 (fun i x D vs σ' H' H2 a1 a2 ⟨o,a3⟩ a4 a5 a6 a7 a8 a9=>by subst a3;exact hs i x D vs o H' H2 a1 a2 a4 a5 a6 a7 a8 a9) hq
theorem zbT{J:It}{P:Hp->Prop}{n:Nat}{Y:Nat->V->Hp->Prop}{caps:List (Option Nat)}{g:TG}{tf:TT}{te:TE}{rest:St}(S:Src J P n Y)(e0:∀H',Same H H'->P H')(hc:zdu caps σ=none :: none :: rest)(Pv:Nat->List V->Hp->Prop)(h0:∀H',Same H H'->Pv 0 [] H')
  (hs:∀i x D vs o o' H' H2,i<n->H D=none->Same H H'->H' D=some (.lst vs)->vs.length<=i->Pv i vs H'->Same H' H2->Y i x H2->g x (o :: o' :: rest) H2 fun σ1 H3=>tf σ1 H3 fun b H4=>if b=true then te σ1 H4 fun v H5=>zcs (.ref D) [v] H5 fun _ H6=>zed H (fun σ'=>∃o o',σ'=o :: o' :: rest) Pv D (i+1) σ1 H6 else zed H (fun σ'=>∃o o',σ'=o :: o' :: rest) Pv D (i+1) σ1 H4)
  (hq:∀D H' vs,H D=none->Same H H'->H' D=some (.lst vs)->vs.length<=n->Pv n vs H'->Q (.ref D) H'):zit J caps g tf te σ Q H:=
 zkK S e0 (fun σ'=>∃o o',σ'=o :: o' :: rest) Pv ⟨_,_,hc⟩ h0 (fun i x D vs σ' H' H2 a1 a2 ⟨o,o',a3⟩ a4 a5 a6 a7 a8 a9=>by subst a3;exact hs i x D vs o o' H' H2 a1 a2 a4 a5 a6 a7 a8 a9) hq
theorem zpA{R:It->Hp->Prop}{a:Addr}{xs:List V}(h:SqL K H a xs)(q:R (Itn K a) H):zk7 K R [.ref a] H:=⟨a,rfl,⟨xs,h⟩,q⟩
theorem zqM{R:It->Hp->Prop}{a b:Addr}{xs ys:List V}(h:SqL K H a xs)(h':SqL K H b ys)(q:R (Itz K a b) H):znh K R [.ref a,.ref b] H:=⟨a,b,rfl,⟨xs,h⟩,⟨ys,h'⟩,q⟩
theorem zqn{a:Addr}{xs:List V}{n:Nat}{t:TGs}{R:St->Hp->Prop}(h:H a=some (.tup xs))(hn:xs.length=n)(q:t xs σ H R):zbx K n t (.ref a) σ H R:=⟨a,xs,rfl,SqT.of h,hn,q⟩
theorem zpn{v:V}{r:List V}{t:TG}{u:TGs}{R:St->Hp->Prop}(q:t v σ H fun σ' H'=>u r σ' H' R):zoM t u (v :: r) σ H R:=⟨v,r,rfl,q⟩
theorem zqW{R:St->Hp->Prop}(q:R σ H):zqs [] σ H R:=⟨rfl,q⟩
theorem zrt{i:Nat}{x:V}{tip:TIp}(e:σ[i]?=some (some x))(q:te σ H fun y H1=>tip x y H1 fun z H2=>D.nx (σ.set i (some z)) H2):zou i te tip D σ H:=⟨x,e,q⟩
theorem zrO{f:Int->Int->Int}{i j:Int}(q:Q (.int (f i j)) H):ipI f (.int i) (.int j) H Q:=⟨i,j,rfl,rfl,q⟩
theorem zqF{tget:V->V->Hp->VK->Prop}{tip:TIp}{tset:zhv}(q:to σ H fun o H1=>ti σ H1 fun i H2=>tget o i H2 fun x H3=>te σ H3 fun y H4=>tip x y H4 fun z H5=>tset o i z H5 fun H6=>D.nx σ H6):zox to ti te tget tip tset D σ H:=q
theorem zmX{a:Addr}{xs:List V}{i:Int}{v:V}(h:SqL K H a xs)(e:atI xs i=some v)(q:Q v H):zeQ K (.ref a) (.int i) H Q:=⟨a,xs,i,v,rfl,rfl,h,e,q⟩
theorem zmD{l:Addr}{x:V}{k:Int}(h:H l=some (.lst [x]))(h0:0<=k)(h1:k<=100000)(q:∀p H',H p=none->Same H H'->H' p=some (.lst (List.replicate k.toNat x))->Q (.ref p) H'):zeK (.ref l) (.int k) H Q:=
 .inr ⟨l,k,[x],rfl,rfl,h,by omega,by omega,by have:=zdr (n:=k.toNat) (by omega);simpa using this,fun p hp=>by
  have e:(List.replicate k.toNat [x]).flatten=List.replicate k.toNat x:=by
   generalize k.toNat=n
   induction n with
   | zero=>rfl
   | succ n ih=>rw[yav,ya1,ih,yav];rfl
  rw[e]
  exact q p _ hp (Same.new hp _) zaL⟩
theorem zq1{l b:Addr}{xs zs:List V}(h:H l=some (.lst xs))(h':H b=some (.lst zs))(hz:xs.length+zs.length<=100000)(q:∀p H',H p=none->Same H H'->H' p=some (.lst (xs++zs))->Q (.ref p) H'):zaE K (.ref l) (.ref b) H Q:=
 .inr (.inl ⟨l,b,xs,zs,rfl,rfl,h,h',zdr hz,fun p hp=>q p _ hp (Same.new hp _) zaL⟩)
theorem zfF{a:Addr}{ns:List Int}(h:SqL K H a (ns.map V.int))(q:Q (.int (zao ns)) H):zeg K [.ref a] H Q:=⟨a,ns,rfl,h,q⟩
end
theorem zqP{p:Prop}[Decidable p]{A B:Prop}(h:p)(a:A):if decide p=true then A else B:=by rw[decide_eq_true h];exact zi1 a
theorem zqT{p:Prop}[Decidable p]{A B:Prop}(h:¬p)(b:B):if decide p=true then A else B:=by rw[decide_eq_false h];exact zgz b
theorem zpz{p:Prop}[Decidable p]{A B:Prop}(h:p)(b:B):if(!decide p)=true then A else B:=by rw[decide_eq_true h];exact zgz b
section
variable {α:Type}{f:α->List V}
def IsTs(f:α->List V)(H:Hp):List V->List α->Prop
 | [],[]=>True
 | v :: vs,x :: xs=>(∃a,v=.ref a/\H a=some (.tup (f x)))/\IsTs f H vs xs
 | _,_=>False
def zn8(H H':Hp):Prop:=∀a xs,H a=some (.tup xs)->H' a=some (.tup xs)
theorem Same.tups{H H':Hp}(e:Same H H'):zn8 H H':=fun a xs h=>e a _ h
theorem LBut.tups{l:Addr}{H H':Hp}(e:LBut l H H'):zn8 H H':=fun a xs h=>e.tup h
theorem IsTs.keep{H H':Hp}(e:zn8 H H'):∀{vs:List V} {xs:List α},IsTs f H vs xs->IsTs f H' vs xs
 | [],[],_=>trivial
 | _ :: _,_ :: _,⟨⟨a,q,h⟩,r⟩=>⟨⟨a,q,e a _ h⟩,r.keep e⟩
theorem IsTs.same{H H':Hp}{vs:List V}{xs:List α}(h:IsTs f H vs xs)(e:Same H H'):IsTs f H' vs xs:=h.keep e.tups
theorem Same.isTs{H H':Hp}{vs:List V}{xs:List α}(e:Same H H')(h:IsTs f H vs xs):IsTs f H' vs xs:=h.keep e.tups
theorem LBut.isTs{l:Addr}{H H':Hp}{vs:List V}{xs:List α}(e:LBut l H H')(h:IsTs f H vs xs):IsTs f H' vs xs:=h.keep e.tups
theorem IsTs.length{H:Hp}:∀{vs:List V} {xs:List α},IsTs f H vs xs->vs.length=xs.length
 | [],[],_=>rfl
 | _ :: _,_ :: _,⟨_,r⟩=>by rw[yaD,yaD,r.length]
theorem IsTs.app{H:Hp}{a:Addr}{x:α}(h:H a=some (.tup (f x))):∀{vs:List V} {xs:List α},IsTs f H vs xs->IsTs f H (vs++[.ref a]) (xs++[x])
 | [],[],_=>⟨⟨a,rfl,h⟩,trivial⟩
 | _ :: _,_ :: _,⟨q,r⟩=>⟨q,r.app h⟩
theorem IsTs.get{H:Hp}:∀{vs:List V} {xs:List α} {i:Nat} {v:V},IsTs f H vs xs->vs[i]?=some v->∃a x,v=.ref a/\xs[i]?=some x/\H a=some (.tup (f x))
 | _ :: _,x :: _,0,_,⟨⟨a,q,h⟩,_⟩,e=>by cases e;exact⟨a,x,q,rfl,h⟩
 | _ :: _,_ :: _,i+1,_,⟨_,r⟩,e=>by obtain⟨a,x,q,e',h⟩:=r.get (i:=i) e;exact⟨a,x,q,e',h⟩
theorem IsTs.getI{H:Hp}{vs:List V}{xs:List α}{i:Nat}{x:α}(h:IsTs f H vs xs)(e:xs[i]?=some x):∃a,vs[i]?=some (.ref a)/\H a=some (.tup (f x)):=by
 have hi:i<vs.length:=by rw[h.length];exact(yk.mp e).1
 obtain⟨v,hv⟩:=zO hi
 obtain⟨a,y,q,e',h'⟩:=h.get hv
 rw[e]at e';cases e'
 exact⟨a,by rw[hv,q],h'⟩
end
def vec(n:Nat)(f:Nat->Int):List Int:=(List.range n).map f
theorem zbo{n:Nat}{f:Nat->Int}:(vec n f).length=n:=by simp[vec]
theorem zbn{n i:Nat}{f:Nat->Int}(h:i<n):(vec n f)[i]?=some (f i):=by simp[vec,h]
theorem zea{n:Nat}{f g:Nat->Int}(h:∀i,i<n->f i=g i):vec n f=vec n g:=by
 unfold vec;exact yE fun i hi=>h i (yU.mp hi)
theorem zpM{n j:Nat}{f:Nat->Int}{v:Int}:(vec n f).set j v=vec n (fun i=>if i=j then v else f i):=by
 refine yaL fun i=>?_
 rw[yaC]
 by_cases hi:i<n
 ·rw[zbn hi,zbn hi,zbo]
  by_cases e:j=i
  ·subst e;simp[hi]
  ·rw[if_neg e,if_neg (ybc e)]
 ·have h1:(vec n f)[i]?=none:=by rw[yaM,zbo];omega
  have h2:∀g,(vec n g)[i]?=none:=fun g=>by rw[yaM,zbo];omega
  rw[h1,h2,zbo]
  by_cases e:j=i
  ·subst e;simp[hi]
  ·rw[if_neg e]
theorem zgr{n:Nat}{f:Nat->Int}:vec (n+1) f=vec n f++[f n]:=by unfold vec;rw[yC,yl];rfl
theorem zpU{n:Nat}{c:Int}:List.replicate n (V.int c)=(vec n fun _=>c).map V.int:=by
 refine yaL fun i=>?_
 rw[ybj,yf]
 by_cases hi:i<n
 ·rw[zbn hi,if_pos hi];rfl
 ·have h2:(vec n fun _=>c)[i]?=none:=by rw[yaM,zbo];omega
  rw[h2,if_neg hi];rfl
theorem zoT{ns:List Int}{k:Int}{v:Int}(h0:0<=k)(h:ns[k.toNat]?=some v):atI (ns.map V.int) k=some (.int v):=zaB h0 (by rw[yf,h];rfl)
theorem zlL{n:Nat}{f:Nat->Int}{k:Int}(h0:0<=k)(h:k<n):atI ((vec n f).map V.int) k=some (.int (f k.toNat)):=zoT h0 (zbn (by omega))
theorem zoa{ns:List Int}{j:Nat}{v:Int}:(ns.map V.int).set j (.int v)=(ns.set j v).map V.int:=by rw[ybN]
theorem zpI{n j:Nat}{f:Nat->Int}{v:Int}:((vec n f).map V.int).set j (.int v)=(vec n (fun i=>if i=j then v else f i)).map V.int:=by rw[zoa,zpM]
theorem zpq{n:Nat}{f:Nat->Int}{k:Int}(h0:0<=k)(h:k<n):ixN ((vec n f).map V.int).length k=some k.toNat:=by
 rw[yh,zbo];exact zcD h0 h
theorem zeR{K:Fg}{H:Hp}:∀ns:List Int,RepAll K H (ns.map V.int) (ns.map PyData.int)
 | []=>.nil
 | n :: ns=>.cons (.int n) (zeR ns)
theorem zeA:∀ns:List Int,PyData.depthAll (ns.map PyData.int)=0
 | []=>by simp[PyData.depthAll]
 | n :: ns=>by rw[yai,PyData.depthAll,zeA ns];simp[PyData.depth]
theorem zjh:∀ns:List Int,PyData.canLayAll0 (ns.map PyData.int)=true
 | []=>by simp[PyData.canLayAll0]
 | n :: ns=>by rw[yai,PyData.canLayAll0,zjh ns];simp[PyData.canLay0]
theorem zeJ{ds:List PyData}:(PyData.list ds).depth=PyData.depthAll ds+1:=by simp[PyData.depth];try omega
section
variable {H:Hp}{Q:VK}{K:Fg}
theorem zmy{ns ms:List Int}(h:ns=ms):PyData.eqv (.list (ns.map PyData.int)) (.list (ms.map PyData.int))=true:=by
 subst h;exact PySem.SeqAt.eqv_refl _ (by rw[PyData.canLay0];exact zjh ns)
theorem ziD{a b:Addr}{ns ms:List Int}(h1:SqL K H a (ns.map V.int))(h2:SqL K H b (ms.map V.int))(e:ns=ms)(q:Q (.bl false) H):zcx K (.ref a) (.ref b) H Q:=
 zoO (.lst h1 (zeR ns)) (.lst h2 (zeR ms)) (by rw[zeJ,zeA];omega) (by rw[zmy e];exact q)
end
section
variable {σ:St}{H:Hp}{Q:VK}{D:Ends}{K:Fg}
theorem znY{l:Addr}{n:Nat}{f:Nat->Int}{k:Int}(h:H l=some (.lst ((vec n f).map V.int)))(h0:0<=k)(h1:k<n)(q:Q (.int (f k.toNat)) H):zeQ K (.ref l) (.int k) H Q:=zmX (.of h) (zlL h0 h1) q
theorem zku{l:Addr}{n:Nat}{f:Nat->Int}{k:Int}(h:H l=some (.lst ((vec n f).map V.int)))(h0:0<=k)(h1:k<n)(q:Q (.int (f k.toNat)) H):rIx K (.ref l) (.int k) H Q:=zgU h (zlL h0 h1) q
theorem zob{l:Addr}{n:Nat}{f:Nat->Int}{k v:Int}{R:Hp->Prop}(h:H l=some (.lst ((vec n f).map V.int)))(h0:0<=k)(h1:k<n)
  (q:∀H',LBut l H H'->H' l=some (.lst ((vec n fun i=>if i=k.toNat then v else f i).map V.int))->R H'):zgD (.ref l) (.int k) (.int v) H R:=by
 refine zcC h (zpq h0 h1) fun H' b e=>q H' b ?_
 rw[e,zpI]
theorem zmm{a:Addr}{xs:List V}{i:Int}{v:V}(h:H a=some (.tup xs))(e:atI xs i=some v)(q:Q v H):rIx K (.ref a) (.int i) H Q:=zrr (.of h) e q
theorem znr{l:Addr}{c k:Int}(h:H l=some (.lst [.int c]))(h0:0<=k)(h1:k<=100000)(q:∀p H',H p=none->Same H H'->H' p=some (.lst ((vec k.toNat fun _=>c).map V.int))->Q (.ref p) H'):zeK (.ref l) (.int k) H Q:=
 zmD h h0 h1 fun p H' a b c=>q p H' a b (by rw[c,zpU])
end
def zrU(H:Hp)(Q:VK)(ns:List Int):Prop:=∀p H',H p=none->Same H H'->H' p=some (.lst (ns.map V.int))->Q (.ref p) H'
set_option genInjectivity false in
set_option genSizeOf false in
structure Due where
 p:Int
 q:Int
 r:Int
 a:Int
def zg2(d:Due):List V:=[.int d.p,.int d.q,.int d.r,.int d.a]
def zM(n:Int)(d:Due):Prop:=0<=d.p/\d.p<n/\0<=d.q/\d.q<n/\d.p≠d.q/\0<=d.r/\d.r<3/\0<=d.a/\d.a<=100000000000000
def IsSh(K:Fg)(H:Hp)(a:Addr)(ds:List Due):Prop:=∃vs,SqL K H a vs/\IsTs zg2 H vs ds
theorem IsSh.same{K:Fg}{H H':Hp}{a:Addr}{ds:List Due}(h:IsSh K H a ds)(e:Same H H'):IsSh K H' a ds:=by
 obtain⟨vs,h1,h2⟩:=h;exact⟨vs,e.seq h1,h2.same e⟩
theorem Same.isSh{K:Fg}{H H':Hp}{a:Addr}{ds:List Due}(e:Same H H')(h:IsSh K H a ds):IsSh K H' a ds:=h.same e
def zch(ds:List Due)(m:Nat):Int:=ds.foldl (fun(s:Int) (d:Due)=>if d.p=(m:Int)then s+d.a else s) 0
def zpc(ds:List Due)(m:Nat):Int:=ds.foldl (fun(s:Int) (d:Due)=>if d.q=(m:Int)then s+d.a else s) 0
def zoG(ds:List Due)(m:Nat):Int:=zpc ds m-zch ds m
theorem zgO(ds:List Due)(d:Due)(m:Nat):zch (ds++[d]) m=if d.p=(m:Int)then zch ds m+d.a else zch ds m:=by unfold zch;rw[yat];rfl
theorem zav{α:Type}{xs:List α}{i:Nat}{x:α}(h:xs[i]?=some x):xs.take (i+1)=xs.take i++[x]:=by
 obtain⟨hi,rfl⟩:=yk.mp h
 exact yaS hi
def zjV(K:Fg):Sp:=fun vs H Q _=>∃n a ds,vs=[.int n,.ref a]/\IsSh K H a ds/\0<=n/\n<=1000/\(∀d∈ds,zM n d)/\zrU H Q (vec n.toNat (zch ds))
section
variable {K:Fg}{H:Hp}{Q:VK}{E:XK}{n:Int}{a:Addr}{ds:List Due}
def zos:=fun h h0 h1 hd q=>@id (zjV K [.int n,.ref a] H Q E) ⟨n,a,ds,rfl,h,h0,h1,hd,q⟩
end
theorem IsTs.drop{α:Type}{f:α->List V}{H:Hp}:∀{vs:List V} {xs:List α} (n:Nat),IsTs f H vs xs->IsTs f H (vs.drop n) (xs.drop n)
 | [],[],_,_=>by simp[IsTs]
 | _ :: _,_ :: _,0,h=>h
 | _ :: _,_ :: _,n+1,⟨_,r⟩=>r.drop n
def Rows(H:Hp)(as:List Addr)(k:Nat)(F:Nat->Nat->Int):Prop:=as.Nodup/\∀i a,as[i]?=some a->H a=some (.lst ((vec k (F i)).map V.int))
section
variable {H H':Hp}{as bs:List Addr}{k:Nat}{F G:Nat->Nat->Int}{K:Fg}{Q:VK}
theorem Rows.same(h:Rows H as k F)(e:Same H H'):Rows H' as k F:=⟨h.1,fun i a q=>e _ _ (h.2 i a q)⟩
theorem Rows.mem(h:Rows H as k F){a:Addr}(m:a∈as):∃i,i<as.length/\as[i]?=some a/\H a=some (.lst ((vec k (F i)).map V.int)):=by
 obtain⟨i,hi,e⟩:=y9 m
 have:as[i]?=some a:=by rw[yk];exact⟨hi,e⟩
 exact⟨i,hi,this,h.2 i a this⟩
theorem Rows.but{l:Addr}(h:Rows H as k F)(g:LBut l H H')(n:l∉as):Rows H' as k F:=
 ⟨h.1,fun i a q=>g.lst (h.2 i a q) fun z=>n (z▸ya q)⟩
theorem zb6{i j:Nat}{a:Addr}(n:as.Nodup)(h:as[i]?=some a)(h':as[j]?=some a):i=j:=by
 obtain⟨hi,e⟩:=yk.mp h
 obtain⟨hj,e'⟩:=yk.mp h'
 exact(List.getElem_inj n).mp (e.trans e'.symm)
theorem Rows.set{j:Nat}{a:Addr}{f:Nat->Int}(h:Rows H as k F)(g:LBut a H H')(ha:as[j]?=some a)(q:H' a=some (.lst ((vec k f).map V.int))):Rows H' as k (fun i=>if i=j then f else F i):=by
 refine⟨h.1,fun i b hb=>?_⟩
 by_cases e:i=j
 ·subst e
  rw[ha]at hb;cases hb
  show H' a=some (.lst ((vec k (if i=i then f else F i)).map V.int))
  rw[if_pos rfl];exact q
 ·show H' b=some (.lst ((vec k (if i=j then f else F i)).map V.int))
  rw[if_neg e]
  refine g.lst (h.2 i b hb) fun z=>e ?_
  subst z
  exact zb6 h.1 hb ha
theorem Rows.congr(h:Rows H as k F)(e:∀i,i<as.length->∀j,j<k->F i j=G i j):Rows H as k G:=by
 refine⟨h.1,fun i a q=>?_⟩
 have hi:i<as.length:=(yk.mp q).1
 rw[h.2 i a q,zea fun j hj=>e i hi j hj]
theorem Rows.app{p:Addr}(h:Rows H as k F)(n:p∉as)(hp:H p=some (.lst ((vec k (F as.length)).map V.int))):Rows H (as++[p]) k F:=by
 refine⟨ya3.mpr ⟨h.1,by simp,fun a ha b hb e=>n (by rw[yw]at hb;subst hb;subst e;exact ha)⟩,fun i a q=>?_⟩
 rw[yaN]at q
 split at q
 ·exact h.2 i a q
 ·rename_i hi
  have hi':i-as.length=0:=by
   cases e:i-as.length with
   | zero=>rfl
   | succ m=>rw[e]at q;cases q
  rw[hi']at q;cases q
  have:i=as.length:=by omega
  subst this;exact hp
theorem Rows.ne{D:Addr}(h:Rows H as k F)(hk:0<k)(hD:H D=some (.lst (as.map V.ref))):D∉as:=fun m=>by
 obtain⟨i,hi,q,e⟩:=h.mem m
 rw[hD]at e
 have e':as.map V.ref=(vec k (F i)).map V.int:=by simpa using e
 cases as with
 | nil=>cases m
 | cons x xs=>
  cases k with
  | zero=>omega
  | succ k=>
   have:=congrArg (·[0]?) e'
   simp[vec]at this
theorem Rows.fresh{p:Addr}(h:Rows H as k F)(hp:H p=none):p∉as:=fun m=>by
 obtain⟨i,_,_,e⟩:=h.mem m
 rw[hp]at e;cases e
theorem zpL{l a:Addr}{p:Int}(h:H l=some (.lst (as.map V.ref)))(h0:0<=p)(e:as[p.toNat]?=some a)(q:Q (.ref a) H):rIx K (.ref l) (.int p) H Q:=zgU h (zaB h0 (by rw[yf,e];rfl)) q
end
def zD(ds:List Due)(m r:Nat):Int:=ds.foldl (fun(s:Int) (d:Due)=>if d.p=(m:Int)/\d.r=(r:Int)then s+d.a else s) 0
theorem zaM(ds:List Due)(d:Due)(m r:Nat):zD (ds++[d]) m r=if d.p=(m:Int)/\d.r=(r:Int)then zD ds m r+d.a else zD ds m r:=by unfold zD;rw[yat];rfl
theorem zh3{ds:List Due}{d:Due}(p0:0<=d.p)(r0:0<=d.r)(m r:Nat):(if m=d.p.toNat then fun i=>if i=d.r.toNat then zD ds d.p.toNat d.r.toNat+d.a else zD ds d.p.toNat i else zD ds m) r=zD (ds++[d]) m r:=by
 rw[zaM]
 by_cases e:m=d.p.toNat
 ·rw[if_pos e]
  by_cases e':r=d.r.toNat
  ·rw[if_pos (show d.p=(m:Int)/\d.r=(r:Int) by omega)]
   show(if r=d.r.toNat then _ else _)=_
   rw[if_pos e',e,e']
  ·rw[if_neg (show ¬(d.p=(m:Int)/\d.r=(r:Int)) by omega)]
   show(if r=d.r.toNat then _ else _)=_
   rw[if_neg e',e]
 ·rw[if_neg e,if_neg (show ¬(d.p=(m:Int)/\d.r=(r:Int)) by omega)]
def zf3(K:Fg):Sp:=fun vs H Q _=>∃n a ds,vs=[.int n,.ref a]/\IsSh K H a ds/\0<=n/\n<=1000/\(∀d∈ds,zM n d) /\
 ∀l H' as,H l=none->Same H H'->H' l=some (.lst (List.map V.ref as))->as.length=n.toNat->Rows H' as 3 (zD ds)->(∀b∈as,H b=none)->Q (.ref l) H'
def zlx:=fun {K:Fg} {n:Int} {a:Addr} {ds:List Due} {H:Hp} {Q:VK} {E:XK} h h0 h1 hd q=>@id (zf3 K [.int n,.ref a] H Q E) ⟨n,a,ds,rfl,h,h0,h1,hd,q⟩
def zgX(ds:List Due)(m:Nat->Int):List Due:=ds.mapIdx fun i d=>⟨d.p,d.q,d.r,m i⟩
end Internal
namespace My
section
variable (ch:Nat->Bool)(x:Nat->Int)(L:Int)
def rest:Nat->Int
 | 0=>L
 | i+1=>if ch i=true/\rest i>0 then rest i-1 else rest i
def more(i:Nat):Int:=if ch i=true/\rest ch L i>0 then x i+1 else x i
variable {ch x L}
end
end My
namespace Internal
open PySem PySem.Spec PyProof.Rows
theorem zkR{k m:Int}(h0:0<=k)(h:k<=m):k*k<=m*m:=Int.mul_le_mul h h h0 (by omega)
def big:Int:=1000000000000000000000000000000000000000000000000000000000000
abbrev TEr:=St->Hp->VK->(Addr->Hp->Prop)->Prop
abbrev TTr:=Ends->(Addr->St->Hp->Prop)->St->Hp->Prop
section
variable {X:Cx}{pos:Pos}
abbrev zr7(te:TEr):TTr:=fun D Eh σ H=>te σ H (fun _ H2=>D.nx σ H2) fun C H2=>Eh C σ H2
abbrev zsf(c:TT)(t u:TTr):TTr:=fun D Eh σ H=>c σ H fun b H1=>if b=true then t D Eh σ H1 else u D Eh σ H1
abbrev zr9:TTr:=fun D _ σ H=>D.nx σ H
end
section
variable {σ:St}{H:Hp}{Q:VK}{D:Ends}{K:Fg}{Eh:Addr->Hp->Prop}{Eg:Addr->St->Hp->Prop}
end
open PySem PySem.W PySem.Calls PyProof.Rows
theorem zgG{n:Nat}:∀(ns:List Int),WData.weightAll (ns.map WData.int)<=n->∀i∈ns,sz i<=n
 | [],_,_,h=>nomatch h
 | j :: r,h,i,hi=>by
  rw[yai,WData.weightAll]at h
  rcases yM.mp hi with rfl | hi
  ·have:WData.weight (.int i)=sz i:=by rw[WData.weight];rfl
   omega
  ·exact zgG r (by omega) i hi
def Light(ns:List Int):Prop:=∀i∈ns,sz i<=1048576
theorem znV{ns:List Int}(h:WData.layableAll [WData.list (ns.map WData.int)]=true):Light ns:=by
 unfold WData.layableAll at h
 rw[ybF,List.all_nil,Bool.and_true]at h
 unfold WData.layable at h
 rw[yah,decide_eq_true_eq]at h
 have h2:=h.2
 rw[WData.weight]at h2
 exact zgG ns (yc h2 (by decide))
theorem zji{l:OpenLaw}{n:Nat}{q:Program}{loose:List Str}{XP:(Str->Option Value)->Heap->Prop}{YP:World->Heap->Prop}{d:DefRec}
  (hn:l.most=some n) (hdf:d.params.defaults=[])
  (call:∀(w:World) (s₀ s₁:Shared) (mg mb:Str->Option Value) (fa:Addr) (a:Addr) (vs:List Value) (ns:List Int),
   Ground q loose [] XP w s₀ mg mb s₁.heap->YP w s₁.heap->mg d.name=some (.ref fa) ->
   s₁.heap.get? a=some { cls:=.type "list",data:=.seq vs.toArray }->IntsAre vs ns->ns.length<=n->Light ns->s₁.gens=#[] ->
   codeAny (model l.prog w) callerA (.call (.ref fa) ⟨[.ref a],[]⟩) (fun r s'=>r=.ok (.ret (.bool true))/\OldK s₁.heap s'.heap/\s'.os=s₁.os/\AllBare s'.gens) s₁) :
  WalkO q loose XP YP l.row.toRowW d [] (fun f vs=>PySem.call f vs):=by
 intro w s₀ s₁ mg mb G Y fa o pm cd doc dV kV ho hd hcd hD hmg hg args vals as hpre hlay hrd hwl hlo
 obtain⟨a,vs,ns,rfl,rfl,hobj,hints,hlen⟩:=Att.script_of hn hpre hwl
 refine enter_call (codeAny_mono (call w s₀ s₁ mg mb fa a vs ns G Y hmg hobj hints hlen (znV hlay) hg) fun r s' hq=>?_)
 obtain⟨rfl,h2,h3,h4⟩:=hq
 exact⟨.inl ⟨.bool true,.bool true,[],rfl,fun _=>rfl,.bool true,Att.post_true l _,fun _=>⟨List.Pairwise.nil,fun _ hm=>(nomatch hm)⟩⟩,h2,h3,h4⟩
open PySem PySem.Spec PyProof.Rows
theorem walk_ofZ{l:PySem.W.OpenLaw}{n k:Nat}{q:Program}{loose:List Str}{XP:(Str->Option Value)->Heap->Prop}{YP:World->Heap->Prop}{d:DefRec}{K:Params->Fg}{CX:World->CXT}{sp:World->Sp}{x:Str}
  (hn:l.most=some n) (hn2:n<=sizeLine) (hdf:d.params.defaults=[]) (hr:Room k callerA)
  (hY:∀(w:World) (h:Heap),YP w h->(K w.params).In h)
  (F:∀(w:World) (mg:Str->Option Value) (fa:Addr) (h:Heap),(K w.params).In h->h.Ns mainGlobals mg->mg d.name=some (.ref fa) ->
   ∃fd:FuncData,(∀(s:Shared) (u:Value),BindsTo s fd ⟨[u],[]⟩ [(x,u)]) /\
    ∀base:Heap,(K w.params).In base->base.Ns mainGlobals mg->FnOk l.prog w (K w.params) mg base (CX w) k fa fd [x] (sp w))
  (hsp:∀(w:World) (H:Hp) (a:Addr) (ns:List Int),ns.length<=n->Light ns->zov H->SqL (K w.params) H a (ns.map V.int)->sp w [.ref a] H (fun v _=>v=.bl true) fun _ _ _=>False)
  (hCX:∀(w:World) (H:Hp) (s:Shared) (e:Value) (s':Shared),CX w [] H s (fun _ _ _=>False) e s'->False) :
  PySem.W.WalkO q loose XP YP l.row.toRowW d [] (fun f vs=>PySem.call f vs):=by
 refine zji hn hdf fun w s₀ s₁ mg mb fa a vs ns G Y hmg hobj hints hlen hz hg=>?_
 have KX:=hY w _ Y
 obtain⟨fd,hb,hF⟩:=F w mg fa _ KX G.T.g hmg
 exact znB KX G.T.g G.T.b G.T.builtins G.T.nolimit hg hobj hints (yc hlen hn2) hr hF hb (fun H hO hS=>hsp w H a ns hlen hz hO hS) fun H e s'=>hCX w H s₁ e s'
theorem Light.cell{ns:List Int}(h:Light ns)(k:Int):sz (cell ns k)<=1048576:=by
 unfold Internal.cell
 rw[ye]
 cases e:ns[k.toNat]? with
 | none=>show sz 0<=_;exact yF _
 | some i=>exact h i (ya e)
theorem zqB{c k:Int}(h:sz c<=1048576)(h0:0<=k)(h1:k<=1000):sz (c*48271+7919*k*k+11)<=1048594:=by
 have hk:=zkR h0 h1
 have hk':=ybi h0 h0
 have a1:sz (c*48271)<=1048592:=zbN (n:=1048576) (m:=16) h (zas (by decide))
 have a2:sz (7919*k*k)<=1048592:=yc (sz200 (by rw[yaK];omega) (by rw[yaK];omega)) (by decide)
 exact zfg (zfg a1 a2) (yc (sz200 (i:=11) (by decide) (by decide)) (by decide))
def zrX(c k:Int):Int:=c*48271+7919*k*k+11
def zrB(ns:List Int)(k p m:Int):Int:=zrX (cell ns k) k%p%m
def zg0(K:Fg):Sp:=fun vs H Q _=>∃(a:Addr) (ns:List Int) (k p m:Int),vs=[.ref a,.int k,.int p,.int m]/\SqL K H a (ns.map V.int)/\Light ns/\0<=k/\k<=1000/\1<=p/\1<=m/\∀x,x=zrB ns k p m->0<=x->x<m->Q (.int x) H
def zl4:=fun {K:Fg} {a:Addr} {ns:List Int} {k p m:Int} {H:Hp} {Q:VK} {E:XK} hS hz h0 h1 p0 m0 q=>@id (zg0 K [.ref a,.int k,.int p,.int m] H Q E) ⟨a,ns,k,p,m,rfl,hS,hz,h0,h1,p0,m0,q⟩
def Within(m:Int)(k:Nat)(f:Nat->Int):Prop:=∀j,j<k->-m<=f j/\f j<=m
theorem Rows.snoc{H:Hp}{as:List Addr}{k:Nat}{F:Nat->Nat->Int}{p:Addr}{f:Nat->Int}(h:Rows H as k F)(n:p∉as)(hp:H p=some (.lst ((vec k f).map V.int))):Rows H (as++[p]) k (fun i=>if i=as.length then f else F i):=by
 refine Rows.app (h.congr fun i hi j _=>?_) n (by show H p=some (HO.lst ((vec k (if as.length=as.length then f else F as.length)).map V.int));rw[if_pos rfl];exact hp)
 show F i j=(if i=as.length then f else F i) j
 rw[if_neg (by omega)]
section
variable {X:Cx}
theorem zfn:∀ns:List Int,(ns.map V.int).all zdO=true
 | []=>rfl
 | n :: ns=>by rw[yai,ybF,zfn ns];rfl
end
section
variable {H:Hp}{Q:VK}{K:Fg}
theorem zfM{i:Int}:∀ns:List Int,inV (.int i) (ns.map V.int)=decide (i∈ns)
 | []=>by simp[inV]
 | n :: ns=>by
  have ih:=zfM (i:=i) ns
  unfold inV at ih ⊢
  rw[yai,ybG,ih]
  show((n == i) || _)=_
  by_cases h:n=i
  ·subst h;simp
  ·have:¬i=n:=fun z=>h z.symm
   simp[h,this]
theorem zrQ{a:Addr}{ns:List Int}{i:Int}(h:SqL K H a (ns.map V.int))(q:Q (.bl (decide (i∈ns))) H):rIn K false (.int i) (.ref a) H Q:=
 ⟨a,_,rfl,.inl h,rfl,zfn ns,by rw[if_neg yt,zfM];exact q⟩
theorem zpd{a:Addr}{ns:List Int}{i:Int}(h:SqL K H a (ns.map V.int))(q:Q (.bl (!decide (i∈ns))) H):rIn K true (.int i) (.ref a) H Q:=
 ⟨a,_,rfl,.inl h,rfl,zfn ns,by rw[if_pos rfl,zfM];exact q⟩
theorem zqr{l b:Addr}{xs zs:List V}(h:H l=some (.lst xs))(h':H b=some (.lst zs))(hz:xs.length+zs.length<=100000)(q:∀H',LBut l H H'->H' l=some (.lst (xs++zs))->Q .non H'):zkw (.ref l) [.ref b] H Q:=
 ⟨l,b,xs,zs,rfl,rfl,h,h',zdr hz,q _ ⟨But.upd,xs,h⟩ zaL⟩
end
def zbb:Option Nat->V
 | none=>.non
 | some i=>.int i
def z9(n:Nat)(w:Nat->Option Nat):List V:=(List.range n).map fun m=>zbb (w m)
theorem zbs{n:Nat}{w:Nat->Option Nat}:(z9 n w).length=n:=by simp[z9]
theorem za3{n i:Nat}{w:Nat->Option Nat}(h:i<n):(z9 n w)[i]?=some (zbb (w i)):=by simp[z9,h]
theorem zkW{n:Nat}{w v:Nat->Option Nat}(h:∀i,i<n->w i=v i):z9 n w=z9 n v:=by
 unfold z9;exact yE fun i hi=>by rw[h i (yU.mp hi)]
theorem zoi{n j:Nat}{w:Nat->Option Nat}{o:Option Nat}:(z9 n w).set j (zbb o)=z9 n fun m=>if m=j then o else w m:=by
 refine yaL fun i=>?_
 rw[yaC]
 by_cases hi:i<n
 ·rw[za3 hi,za3 hi,zbs]
  by_cases e:j=i
  ·subst e;simp[hi]
  ·rw[if_neg e,if_neg (ybc e)]
 ·have h2:∀v,(z9 n v)[i]?=none:=fun v=>by rw[yaM,zbs];omega
  rw[h2,h2,zbs]
  by_cases e:j=i
  ·subst e;simp[hi]
  ·rw[if_neg e]
theorem znv{n:Nat}:List.replicate n V.non=z9 n fun _=>none:=by
 refine yaL fun i=>?_
 rw[ybj]
 by_cases hi:i<n
 ·rw[za3 hi,if_pos hi];rfl
 ·rw[if_neg hi,yae (by rw[zbs];omega)]
def useful(g:Nat->Bool)(m:Nat)(d:Due):Prop:=d.p=(m:Int)/\0<d.a/\g d.p.toNat=true/\g d.q.toNat=true
instance {g:Nat->Bool} {m:Nat} {d:Due}:Decidable (useful g m d):=by unfold useful;infer_instance
def zls(ds:List Due)(g:Nat->Bool):Nat->Nat->Option Nat
 | 0,_=>none
 | i+1,m=>match ds[i]? with
  | some d=>if useful g m d then some i else zls ds g i m
  | none=>zls ds g i m
theorem znk{H:Hp}{Q:VK}{l:Addr}{k:Int}(h:H l=some (.lst [.non]))(h0:0<=k)(h1:k<=100000)(q:∀p H',H p=none->Same H H'->H' p=some (.lst (z9 k.toNat fun _=>none))->Q (.ref p) H'):zeK (.ref l) (.int k) H Q:=
 zmD h h0 h1 fun p H' a b c=>q p H' a b (by rw[c,znv])
theorem znF{A:Prop}(q:A):V.non=V.non/\A:=⟨rfl,q⟩
theorem zgg{o:Option Nat}:decide (zbb o=V.non)=o.isNone:=by cases o with | none=>rfl | some i=>simp[zbb]
def goF(ds:List Due):Nat->Nat->Bool
 | 0,_=>true
 | t+1,m=>(zls ds (goF ds t) ds.length m).isSome
def ziY(ds:List Due):Nat->Nat->Option Nat
 | 0,_=>none
 | t+1,m=>zls ds (goF ds t) ds.length m
set_option genInjectivity false in
set_option genSizeOf false in
structure Lined(n:Nat)(ds:List Due)(ls:List Int):Prop where
 nd:ls.Nodup
 lt:∀x∈ls,0<=x/\x<n
 up:∀d∈ds,0<d.a->∀j:Nat,ls[j]?=some d.q->∃i:Nat,i<j/\ls[i]?=some d.p
def Itd(lo:Int)(n:Nat):It:=⟨fun i _=>i<n,fun i H x H'=>H'=H/\x=.int (lo-i),fun i _=>n<=i⟩
theorem zkh{P:Program}{w:World}{K:Fg}{tg:Expr}(it:Addr)(lo:Int)(n:Nat):Turn P w K tg (Itd lo n) [it] it (fun i h=>IsRangeIter h it (lo+(i:Nat)*(-1)) ((n:Int)-(i:Nat)) (-1)) where
 mem:=by simp
 obj:=fun i h st b hb=>by
  have e:b=it:=by simpa using hb
  subst e
  exact⟨_,st,fun v z=>by
   have z':Data.fields _=Data.cell v:=z
   cases z'⟩
 keep:=fun i h h' st k=>k it (by simp) _ st
 item:=by
  intro X hP hw hK hc i pins s σ H E I hf st hg
  subst hP hw hK
  obtain⟨f0,f1,f2,f3,f4,f5⟩:=hf it (by simp)
  have W:=Walks.range (prog:=X.prog) (w:=X.w) (I.ok.hd hc) it lo (-1) n
  refine W.item i s _ _ hg st fun v h' tk hv st' kk=>?_
  obtain⟨t,rfl⟩:=hv
  have I1:Inv X pins σ H { s with heap:=h',toks:=tk }:=I.turned (fun b o hb e=>kk b o (by simpa using hb) e) f0 f1 f3 f4 f5
  refine⟨_,rfl,zkV (s:={ s with heap:=h',toks:=tk }) (n := "range_iterator") st' rfl rfl (by decide) ⟨.int (lo-i),H,I1,⟨t,?_⟩,⟨rfl,rfl⟩,st',fun b hb=>(hf b hb).1⟩⟩
  rw[show lo+(i:Int)*(-1)=lo-(i:Int) by omega]
 done:=by
  intro X hP hw hK hc i pins s σ H E I hf st hg
  subst hP hw hK
  obtain⟨f0,f1,f2,f3,f4,f5⟩:=hf it (by simp)
  exact wpAny_pyNext_range_end (I.ok.hd hc) st (by have:n<=i:=hg;omega) fun h' eb=>⟨rfl,I.turned (t':=s.toks) (fun b o hb e=>eb b o hb e) f0 f1 f3 f4 f5⟩
 self:=fun _ _ _ _ _ st h=>wpAny_pyIter_rangeiter st h
theorem zeo(a b:Int):Builtin.Range.rangeSize a b (-1)=if b<a then a-b else 0:=by
 unfold Builtin.Range.rangeSize
 rw[if_neg (by decide)]
 show(if b<a then(a-b-1)/1+1 else 0)=_
 rw[Int.ediv_one]
 split<;>omega
theorem zlh{a b:Int}(ha:-(2 ^ 62)<=a)(ha':a<2 ^ 62)(hb:-(2 ^ 62)<=b)(hb':b<2 ^ 62):Builtin.Range.small a b (-1)=true:=by
 unfold Builtin.Range.small
 rw[zeo]
 simp only[Builtin.Range.rangeFitsLong,yah,ybS,decide_eq_true_eq,beq_iff_eq,show ¬((-1:Int)>0) by decide,if_false]
 split<;>omega
section
variable {X:Cx}{tg:Expr}
theorem zmi{pins:List (Addr × Obj)}{σ:St}{H:Hp}{s:Shared}{R:It->Hp->Prop}{E:Value->Shared->Prop}{lo hi:Int}{t u v:Tok}{tk:Nat}(I:Inv X pins σ H s)(h1:-(2 ^ 62)<=hi)(h2:hi<2 ^ 62)(h3:-(2 ^ 62)<=lo)(h4:lo<2 ^ 62)
  (q:R (Itd hi (hi-lo).toNat) H):wpAny (model X.prog X.w) X.A (pyIter (.ref s.heap.objs.size)) (PIE X pins σ tg R) E { s with heap:=s.heap.push { cls:=.type "range",data:=.fields #[.int hi t,.int lo u,.int (-1) v] },toks:=tk }:=by
 refine wpAny_pyIter_range (IsRange.new ..) (zlh h1 h2 h3 h4) ?_
 have I1:Inv X pins σ H { s with heap:=s.heap.push { cls:=.type "range",data:=.fields #[.int hi t,.int lo u,.int (-1) v] },toks:=tk }:=I.kept fun b o e=>Heap.get?_push_of_some _ e
 refine⟨(s.heap.push { cls:=.type "range",data:=.fields #[.int hi t,.int lo u,.int (-1) v] }).objs.size,[(s.heap.push { cls:=.type "range",data:=.fields #[.int hi t,.int lo u,.int (-1) v] }).objs.size],_,_,H,rfl,
  I1.kept (t':=tk) fun b o e=>Heap.get?_push_of_some _ e,zkh _ hi (hi-lo).toNat,?_,fun b hb=>?_,q⟩
 ·have e1:hi+((0:Nat):Int)*(-1)=hi:=by simp
  have e2:(((hi-lo).toNat:Nat):Int)-((0:Nat):Int)=Builtin.Range.rangeSize hi lo (-1):=by rw[zeo];split<;>omega
  show IsRangeIter _ _ (hi+((0:Nat):Int)*(-1)) ((((hi-lo).toNat:Nat):Int)-((0:Nat):Int)) (-1)
  rw[e1,e2]
  exact Heap.get?_push_size _ rfl
 ·have e:b=(s.heap.push { cls:=.type "range",data:=.fields #[.int hi t,.int lo u,.int (-1) v] }).objs.size:=by simpa using hb
  subst e
  exact I1.fpOk (yg _) (I1.hok.fresh (yg _))
def zoJ(ta:TA):TI:=fun σ H R=>ta σ H fun vs H1=>∃i j:Int,vs=[.int i,.int j,.int (-1)]/\(-1000000<=i/\i<1000000/\-1000000<=j/\j<1000000)/\R (Itd i (i-j).toNat) H1
theorem zlH{a b c:Expr}{ta:TA}{p pos:Pos}(hg:Gl X "range")(hm:X.mg "range" = none)(ha:PA X [a,b,c] ta)(hs:autoParam (starEach [a,b,c] X.env=[(false,eval a X.env),(false,eval b X.env),(false,eval c X.env)]) Internal.aut2._auto_1)(hs2:autoParam (starEach [b,c] X.env=[(false,eval b X.env),(false,eval c X.env)]) Internal.aut2._auto_1) :
  PI X tg (.Call (.Name "range" p) [a,b,c] [] pos) (zoJ ta):=by
 intro pins s σ H R I h
 refine Call_ (zcQ I hg hm boot_range (yao (thn (ha pos pins s σ H _ I h) fun us s1 ⟨vs,H1,I1,r1,q1⟩=>?_) (by rw[hs,hs2]) (by rw[hs2];rfl)))
 obtain⟨i,j,e,⟨q1,q2,q3,q4⟩,q⟩:=q1
 subst e
 cases r1 with
 | cons r rr=>
  cases rr with
  | cons r' rr=>
   cases rr with
   | cons r'' rr=>
    cases rr
    obtain⟨t,rfl⟩:=r
    obtain⟨t',rfl⟩:=r'
    obtain⟨t'',rfl⟩:=r''
    exact PySem.call_range_3 (by decide) (zmi I1 (by omega) (by omega) (by omega) (by omega) q) (Or.inl (PyProof.noPylong_small (by omega)))
end
def zk3(R:It->Hp->Prop)(vs:List V)(H:Hp):Prop:=∃i j:Int,vs=[.int i,.int j,.int (-1)]/\(-1000000<=i/\i<1000000/\-1000000<=j/\j<1000000)/\R (Itd i (i-j).toNat) H
theorem zqU{σ:St}{H:Hp}{tr:TA}{R:It->Hp->Prop}(q:tr σ H (zk3 R)):zoJ tr σ H R:=q
theorem zpr{H:Hp}{R:It->Hp->Prop}{i j:Int}(h0:-1000000<=i)(h0':i<1000000)(h1:-1000000<=j)(h2:j<1000000)(q:R (Itd i (i-j).toNat) H):zk3 R [.int i,.int j,.int (-1)] H:=⟨i,j,rfl,⟨h0,h0',h1,h2⟩,q⟩
theorem znU{lo:Int}{n:Nat}:Src (Itd lo n) (fun _=>True) n (fun i x _=>x=.int (lo-i)):=
 ⟨fun i H e hi=>hi,fun H e=>yg _,fun i H x H' e hi ⟨q,r⟩=>by subst q;exact⟨Same.refl _,r⟩⟩
theorem zqJ{K:Fg}{H:Hp}{Q:VK}{a:Addr}{i j k:Int}(h:H a=some (.tup [.int j,.int k]))(q:Q (.bl (decide (i∈[j,k]))) H):rIn K false (.int i) (.ref a) H Q:=
 ⟨a,[.int j,.int k],rfl,.inr (.of h),rfl,rfl,by rw[if_neg yt,show inV (.int i) [.int j,.int k]=inV (.int i) ([j,k].map V.int)from rfl,zfM];exact q⟩
def zgb(K:Fg):Sp:=fun vs H Q _=>∃(a:Addr) (ns:List Int) (k m:Int),vs=[.ref a,.int k,.int m]/\SqL K H a (ns.map V.int)/\Light ns/\0<=k/\k<=1000/\0<=m/\∀x,0<=x->x<=m->Q (.int x) H
def zll:=fun {K:Fg} {a:Addr} {ns:List Int} {k m:Int} {H:Hp} {Q:VK} {E:XK} hS hz h0 h1 m0 q=>@id (zgb K [.ref a,.int k,.int m] H Q E) ⟨a,ns,k,m,rfl,hS,hz,h0,h1,m0,q⟩
def zhq(K:Fg):Sp:=fun vs H Q _=>∃(a:Addr) (ns:List Int),vs=[.ref a]/\SqL K H a (ns.map V.int)/\Light ns/\∀x,1<=x->x<=9->Q (.int x) H
def zlT:=fun {K:Fg} {a:Addr} {ns:List Int} {H:Hp} {Q:VK} {E:XK} hS hz q=>@id (zhq K [.ref a] H Q E) ⟨a,ns,rfl,hS,hz,q⟩
def zga(K:Fg):Sp:=fun vs H Q _=>∃(a:Addr) (ns:List Int) (n:Int),vs=[.ref a,.int n]/\SqL K H a (ns.map V.int)/\Light ns/\1<=n/\n<=9/\∀x,0<=x->x<=57->(n=1->x=0)->Q (.int x) H
def zle:=fun {K:Fg} {a:Addr} {ns:List Int} {n:Int} {H:Hp} {Q:VK} {E:XK} hS hz n0 n1 q=>@id (zga K [.ref a,.int n] H Q E) ⟨a,ns,n,rfl,hS,hz,n0,n1,q⟩
def zhj(K:Fg):Sp:=fun vs H Q _=>∃n a ds,vs=[.ref a,.int n]/\IsSh K H a ds/\0<=n/\n<=1000/\(∀d∈ds,zM n d) /\
 ∀l H' as,H l=none->Same H H'->H' l=some (.lst (List.map V.ref as))->as.length=n.toNat->Rows H' as 3 (zD ds)->(∀b∈as,H b=none)->Q (.ref l) H'
def zlQ:=fun {K:Fg} {n:Int} {a:Addr} {ds:List Due} {H:Hp} {Q:VK} {E:XK} h h0 h1 hd q=>@id (zhj K [.ref a,.int n] H Q E) ⟨n,a,ds,rfl,h,h0,h1,hd,q⟩
def ziG:Sp:=fun vs H Q _=>∃a b:Int,vs=[.int a,.int b]/\0<=a/\0<=b/\Q (.int (My.gc a b)) H
theorem znT{a b:Int}{H:Hp}{Q:VK}{E:XK}(h0:0<=a)(h1:0<=b)(q:Q (.int (My.gc a b)) H):ziG [.int a,.int b] H Q E:=⟨a,b,rfl,h0,h1,q⟩
theorem zci{m r:Nat}:∀(ds:List Due),(∀d∈ds,0<=d.a/\d.a<=1000000000000)->0<=zD ds m r/\zD ds m r<=1000000000000*(ds.length:Int):=by
 intro ds
 suffices h:∀t,t<=ds.length->(∀d∈ds,0<=d.a/\d.a<=1000000000000)->0<=zD (ds.take t) m r/\zD (ds.take t) m r<=1000000000000*(t:Int) by
  intro hd
  have:=h ds.length (yg _) hd
  rwa [yK]at this
 intro t
 induction t with
 | zero=>intro _ _;exact⟨yaG 0,yaG 0⟩
 | succ t ih=>
  intro ht hd
  obtain⟨d,hdt⟩:=zO (show t<ds.length by omega)
  have h1:=ih (by omega) hd
  have h2:=hd d (ya hdt)
  rw[zav hdt,zaM]
  split<;>omega
def zaD(f:Nat->Int):Nat->Int
 | 0=>0
 | r+1=>zaD f r+f r
def za1(f:Nat->Int)(q:Rat)(r:Nat):Prop:=q.num<zaD f (r+1)*(q.den:Int)
instance (f:Nat->Int) (q:Rat) (r:Nat):Decidable (za1 f q r):=inferInstanceAs (Decidable (_<_))
def zar(f:Nat->Int)(q:Rat):Nat->Option Nat
 | 0=>none
 | k+1=>match zar f q k with
  | some r=>some r
  | none=>if za1 f q k then some k else none
theorem zgQ{f:Nat->Int}{q:Rat}{k r:Nat}(h:zar f q k=some r):∀j,zar f q (k+j)=some r
 | 0=>h
 | j+1=>by show(match zar f q (k+j)with | some r=>some r | none=>_)=_;rw[zgQ h j]
def zbl(f:Nat->Int)(q:Rat):Nat->Option Nat
 | 0=>none
 | t+1=>if za1 f q (2-t)then some (2-t)else zbl f q t
theorem zdQ{f:Nat->Int}(hf:∀j,j<3->0<=f j/\f j<=100000000000000):∀i,i<=3->0<=zaD f i/\zaD f i<=100000000000000*(i:Int)
 | 0,_=>⟨yaG 0,yaG 0⟩
 | i+1,h=>by
  have h1:=zdQ hf i (by omega)
  have h2:=hf i (by omega)
  show 0<=zaD f i+f i/\zaD f i+f i<=_
  omega
theorem zcu(f:Nat->Int):∀n,zao (vec n f)=zaD f n
 | 0=>rfl
 | n+1=>by rw[zgr,zh5,zcu f n];rfl
theorem ze1{n:Nat}{w:Nat->Option Nat}:z9 (n+1) w=z9 n w++[zbb (w n)]:=by unfold z9;rw[yC,yl];rfl
theorem zpu{i:Int}(h0:-1000000000000000<=i)(h1:i<=1000000000000000):SzQ ((i:Int):Rat) 60000 60000:=
 ⟨yc (sz200 (by show _<i;omega) (by show i<_;omega)) (by decide),yc (sz200 (i:=1) (by decide) (by decide)) (by decide)⟩
theorem zjk{p t n:Int}(p0:0<=p)(p1:p<n)(t0:0<=t)(t1:t<n-1):0<=(p+1+t)%n/\(p+1+t)%n<n/\p≠(p+1+t)%n:=by
 refine⟨ybe _ (by omega),yaV _ (by omega),?_⟩
 by_cases h:p+1+t<n
 ·rw[Int.emod_eq_of_lt (by omega) h];omega
 ·rw[<- Int.sub_emod_right,Int.emod_eq_of_lt (by omega) (by omega)];omega
theorem zlb(f:Nat->Int)(q:Rat):zbl f q 3=zar f q 3:=by
 unfold zbl zbl zbl zbl zar zar zar zar
 by_cases h0:za1 f q 0
 ·simp[h0]
 ·by_cases h1:za1 f q 1
  ·simp[h0,h1]
  ·simp[h0,h1]
theorem under_int{f:Nat->Int}{q:Rat}{r:Nat}:q<((zaD f (r+1):Int):Rat)↔za1 f q r:=by
 rw[Rat.lt_iff]
 show q.num*1<_↔_
 rw[Int.mul_one]
 exact Iff.rfl
def zge(K:Fg):Sp:=fun vs H Q _=>∃(l y:Addr) (f:Nat->Int) (q:Rat),vs=[.ref l,.ref y]/\H l=some (.lst ((vec 3 f).map V.int))/\(∀j,j<3->0<=f j/\f j<=100000000000000)/\IsQ H y q/\SzQ q 60000 60000/\∀H',Same H H'->Q (zbb (zar f q 3)) H'
def zkZ:=fun {K:Fg} {l y:Addr} {f:Nat->Int} {q:Rat} {H:Hp} {Q:VK} {E:XK} hl hf hy hs k=>@id (zge K [.ref l,.ref y] H Q E) ⟨l,y,f,q,rfl,hl,hf,hy,hs,k⟩
abbrev zmJ(ds:List Due)(qs:List Rat):List V:=z9 qs.length fun m=>zar (zD ds m) (qs.getD m 0) 3
def zfQ(K:Fg):Sp:=fun vs H Q _=>∃(a y:Addr) (ds:List Due) (ws:List V) (qs:List Rat),vs=[.ref a,.ref y]/\IsSh K H a ds/\(∀d∈ds,zM qs.length d/\d.a<=1000000000000)/\ds.length<=64/\H y=some (.lst ws)/\IsQs H ws qs/\qs.length<=9/\(∀q∈qs,SzQ q 60000 60000)/\∀p H',H p=none->Same H H'->H' p=some (.lst (zmJ ds qs))->Q (.ref p) H'
def ze0:=fun {K:Fg} {a y:Addr} {ds:List Due} {ws:List V} {qs:List Rat} {H:Hp} {Q:VK} {E:XK} h hy hq hd hl h9 hs k=>@id (zfQ K [.ref a,.ref y] H Q E) ⟨a,y,ds,ws,qs,rfl,h,hd,hl,hy,hq,h9,hs,k⟩
theorem zqx{K:Fg}{H:Hp}{Q:VK}{a b:Addr}{vs ws:List V}{qs:List Rat}(h1:SqL K H a vs)(h2:SqL K H b ws)(i1:IsQs H vs qs)(i2:IsQs H ws qs)(q:Q (.bl true) H):zaN K (.ref a) (.ref b) H Q:=by
 have hdep:∀(l:List Rat),PyData.depthAll (l.map dQ)<=1:=by
  intro l
  induction l with
  | nil=>exact yF _
  | cons x xs ih=>
   rw[yai,PyData.depthAll]
   have:(dQ x).depth<=1:=by simp[dQ,PyData.depth,PyData.depthAll]
   omega
 have hlay:∀(l:List Rat),PyData.canLayAll0 (l.map dQ)=true:=by
  intro l
  induction l with
  | nil=>rfl
  | cons x xs ih=>rw[yai,PyData.canLayAll0,ih];simp[dQ,PyData.canLay0,PyData.canLayAll0]
 refine zlr (.lst h1 i1.rep) (.lst h2 i2.rep) (by have:=hdep qs;rw[zeJ];omega) ?_
 rw[PySem.SeqAt.eqv_refl _ (by rw[PyData.canLay0];exact hlay qs)]
 exact q
def zaC(f:Nat->Int)(q:Rat):Nat->Rat
 | 0=>q
 | r+1=>zaC f q r-(if((f r:Int):Rat)<zaC f q r then((f r:Int):Rat)else zaC f q r)
def zaa(f:Nat->Int)(q:Rat)(r:Nat):Rat:=if((f r:Int):Rat)<zaC f q r then((f r:Int):Rat)else zaC f q r
def zae(f:Nat->Int)(q:Rat)(r:Nat):Rat:=if 0<f r then zaa f q r/((f r:Int):Rat)else 0
theorem zc4(f:Nat->Int)(q:Rat)(r:Nat):zaC f q (r+1)=zaC f q r-zaa f q r:=rfl
section
variable {f:Nat->Int}{q:Rat}
theorem zaq{i:Int}(h:0<=i):(0:Rat)<=(i:Rat):=by exact_mod_cast h
theorem zbm{i:Int}(h:0<i):(0:Rat)<(i:Rat):=by exact_mod_cast h
theorem zg6(hq:0<=q):∀r,0<=zaC f q r
 | 0=>hq
 | r+1=>by
  have:=zg6 hq r
  rw[zc4];unfold zaa
  split<;>grind
theorem zey(hq:0<=q){r:Nat}(hf:0<=f r):0<=zaa f q r/\zaa f q r<=((f r:Int):Rat):=by
 have h1:=zg6 (f:=f) hq r
 have h2:=zaq hf
 unfold zaa
 split<;>grind
theorem zkn(hq:0<=q)(hf:∀r,r<3->0<=f r):∀(k r:Nat),r+k<=3->zaC f q (r+k)<=zaC f q r
 | 0,r,_=>by show zaC f q r<=zaC f q r;grind
 | k+1,r,h=>by
  have h1:=zkn hq hf k r (by omega)
  have h2:=(zey hq (hf (r+k) (by omega))).1
  show zaC f q (r+k+1)<=_
  rw[zc4];grind
theorem zcI(hq:0<=q){r:Nat}(hf:0<=f r):((f r:Int):Rat)*zae f q r=zaa f q r:=by
 have h:=zey hq hf
 unfold zae
 split
 ·rename_i h0
  have:=zbm h0
  grind
 ·rename_i h0
  have e:f r=0:=by omega
  rw[e]at h ⊢
  have:((0:Int):Rat)=0:=rfl
  grind
theorem zhO(hq:0<=q){r:Nat}(hf:0<=f r):0<=zae f q r/\zae f q r<=1:=by
 have h:=zey hq hf
 have hm:=zcI hq hf
 by_cases h0:0<f r
 ·have hp:=zbm h0
  constructor
  ·refine ybf (c:=((f r:Int):Rat)) ?_ hp
   grind
  ·refine ybf (c:=((f r:Int):Rat)) ?_ hp
   grind
 ·unfold zae
  rw[if_neg h0]
  exact⟨by decide,by decide⟩
theorem zl9(hq:0<=q)(hf:∀r,r<3->0<=f r)(hs:q<=((f 0:Int):Rat)+((f 1:Int):Rat)+((f 2:Int):Rat)):zaa f q 0+zaa f q 1+zaa f q 2=q:=by
 have h0:=zaq (hf 0 (by omega))
 have h1:=zaq (hf 1 (by omega))
 have h2:=zaq (hf 2 (by omega))
 have e1:zaC f q 1=q-zaa f q 0:=rfl
 have e2:zaC f q 2=q-zaa f q 0-zaa f q 1:=rfl
 have l0:zaa f q 0=if((f 0:Int):Rat)<q then((f 0:Int):Rat)else q:=rfl
 have l1:zaa f q 1=if((f 1:Int):Rat)<zaC f q 1 then((f 1:Int):Rat)else zaC f q 1:=rfl
 have l2:zaa f q 2=if((f 2:Int):Rat)<zaC f q 2 then((f 2:Int):Rat)else zaC f q 2:=rfl
 rw[e1]at l1
 rw[e2]at l2
 grind
end
theorem zjT(p:Rat):((p.num:Int):Rat)=p*((p.den:Int):Rat):=by
 have h:p=((p.num:Int):Rat)/((p.den:Int):Rat):=by
  rw[<- ya4,ybh]
 have:((p.den:Int):Rat)≠0:=by
  intro z
  have:(p.den:Int)=0:=by exact_mod_cast z
  have:=p.den_nz
  omega
 grind
theorem zn7(p:Rat):(0:Rat)<((p.den:Int):Rat):=zbm (zap p)
theorem zhJ{i j:Int}(h:(i:Rat)=(j:Rat)):i=j:=by exact_mod_cast h
def zgh(ds:List Due)(m:Nat)(S:Nat->Rat):Rat:=ds.foldl (fun(s:Rat) (d:Due)=>if d.p=(m:Int)then s+((d.a:Int):Rat)*S d.r.toNat else s) 0
theorem zhX(ds:List Due)(d:Due)(m:Nat)(S:Nat->Rat):zgh (ds++[d]) m S=if d.p=(m:Int)then zgh ds m S+((d.a:Int):Rat)*S d.r.toNat else zgh ds m S:=by unfold zgh;rw[yat];rfl
theorem zgI{ds:List Due}{m:Nat}{S:Nat->Rat}(hd:∀d∈ds,0<=d.r/\d.r<3):∀t,t<=ds.length->zgh (ds.take t) m S=((zD (ds.take t) m 0:Int):Rat)*S 0+((zD (ds.take t) m 1:Int):Rat)*S 1+((zD (ds.take t) m 2:Int):Rat)*S 2
 | 0,_=>by
  show(0:Rat)=((0:Int):Rat)*S 0+((0:Int):Rat)*S 1+((0:Int):Rat)*S 2
  have:((0:Int):Rat)=0:=rfl
  grind
 | t+1,ht=>by
  obtain⟨d,hdt⟩:=zO (show t<ds.length by omega)
  have ih:=zgI (m:=m) (S:=S) hd t (by omega)
  obtain⟨r0,r1⟩:=hd d (ya hdt)
  rw[zav hdt,zhX,zaM,zaM,zaM]
  by_cases e:d.p=(m:Int)
  ·rw[if_pos e]
   obtain h | h | h:d.r=0\/d.r=1\/d.r=2:=by omega
   ·rw[if_pos ⟨e,by omega⟩,if_neg (fun z=>by have:=z.2;omega),if_neg (fun z=>by have:=z.2;omega),h,ih,yS]
    show _+_*S 0=_
    grind
   ·rw[if_neg (fun z=>by have:=z.2;omega),if_pos ⟨e,by omega⟩,if_neg (fun z=>by have:=z.2;omega),h,ih,yS]
    show _+_*S 1=_
    grind
   ·rw[if_neg (fun z=>by have:=z.2;omega),if_neg (fun z=>by have:=z.2;omega),if_pos ⟨e,by omega⟩,h,ih,yS]
    show _+_*S 2=_
    grind
  ·rw[if_neg e,if_neg (fun z=>e z.1),if_neg (fun z=>e z.1),if_neg (fun z=>e z.1),ih]
def zY(ds:List Due)(qs:List Rat)(d:Due):Rat:=((d.a:Int):Rat)*zae (zD ds d.p.toNat) (qs.getD d.p.toNat 0) d.r.toNat
theorem zf0{i:Int}(h0:0<=i)(h1:i<=100000000000000):SzQ ((i:Int):Rat) 60 60:=by
 refine⟨zas ?_,zas ?_⟩
 ·show i.natAbs<2 ^ 60
  omega
 ·show(1:Int).natAbs<2 ^ 60
  decide
theorem zmn{n:Nat}{a b:Addr}{q r:Rat}{H:Hp}{Q:VK}{E:XK}(h1:IsQ H a q)(h2:IsQ H b r)(s1:SzQ q n n)(s2:SzQ r n n)(k:∀c,IsQ H c (if r<q then r else q)->Q (.ref c) H):zfR n [.ref a,.ref b] H Q E:=by
 refine zhD h1 h2 s1 s2 ?_
 by_cases h:r<q
 ·rw[if_pos h];exact k b (by rw[if_pos h];exact h2)
 ·rw[if_neg h];exact k a (by rw[if_neg h];exact h1)
def zg1:Sp:=fun vs H Q _=>∃(a b:Addr) (q r:Rat),vs=[.ref a,.ref b]/\IsQ H a q/\IsQ H b r/\OkQ q/\SzQ r 8999 8999/\r.num≠0/\NewQ H Q (q/r)
def zhW:=fun {a b:Addr} {q r:Rat} {H:Hp} {Q:VK} {E:XK} h1 h2 s1 s2 h0 k=>@id (zg1 [.ref a,.ref b] H Q E) ⟨a,b,q,r,rfl,h1,h2,s1,s2,h0,k⟩
theorem zpj(q:Rat):My.gc (if q.num<0 then -q.num else q.num) (q.den:Int)=1:=by
 have h:=My.gc_abs q.num (q.den:Int)
 rw[if_neg (show ¬((q.den:Int)<0) by omega)]at h
 rw[h]
 have:=q.reduced
 unfold My.gc
 show((Nat.gcd q.num.natAbs (q.den:Int).natAbs:Nat):Int)=1
 rw[yac]
 exact congrArg _ this
def zfy:Sp:=fun vs H Q _=>∃(a:Addr) (q:Rat),vs=[.ref a]/\IsQ H a q/\Q (.bl true) H
theorem zkf{a:Addr}{q:Rat}{H:Hp}{Q:VK}{E:XK}(h:IsQ H a q)(k:Q (.bl true) H):zfy [.ref a] H Q E:=⟨a,q,rfl,h,k⟩
def zf9(K:Fg):Sp:=fun vs H Q _=>∃(a:Addr) (ws:List V) (qs:List Rat) (n:Int),vs=[.ref a,.int n]/\H a=some (.lst ws)/\IsQs H ws qs/\(qs.length:Int)=n/\Q (.bl true) H
def zlo:=fun {K:Fg} {a:Addr} {ws:List V} {qs:List Rat} {n:Int} {H:Hp} {Q:VK} {E:XK} h hq hn k=>@id (zf9 K [.ref a,.int n] H Q E) ⟨a,ws,qs,n,rfl,h,hq,hn,k⟩
set_option genInjectivity false in
set_option genSizeOf false in
structure PayOk(ds:List Due)(g:Due->Rat):Prop where
 nn:∀d∈ds,0<=g d
 le:∀d∈ds,g d<=((d.a:Int):Rat)
 sz:∀d∈ds,SzQ (g d) 1000 1000
 am:∀d∈ds,0<=d.a/\d.a<=100000000000000
def zce(ds:List Due)(m:Int)(g:Due->Rat):Rat:=ds.foldl (fun(s:Rat) (d:Due)=>if d.p=m then s+g d else s) 0
theorem zdH(ds:List Due)(d:Due)(m:Int)(g:Due->Rat):zce (ds++[d]) m g=if d.p=m then zce ds m g+g d else zce ds m g:=by unfold zce;rw[yat];rfl
section
variable {ds:List Due}{qs:List Rat}
theorem zpo{m r:Nat}{d:Due}(hd:∀d∈ds,0<=d.a)(h:d∈ds)(hp:d.p=(m:Int))(hr:d.r=(r:Int)):d.a<=zD ds m r:=by
 obtain⟨i,hi,ei⟩:=y9 h
 have hi':ds[i]?=some d:=by rw[yj hi,ei]
 have go:∀t,t<=ds.length->0<=zD (ds.take t) m r/\(i<t->d.a<=zD (ds.take t) m r):=by
  intro t
  induction t with
  | zero=>intro _;exact⟨yaG 0,fun z=>absurd z (by omega)⟩
  | succ t ih=>
   intro ht
   obtain⟨c,hc⟩:=zO (show t<ds.length by omega)
   have h1:=ih (by omega)
   have h2:=hd c (ya hc)
   rw[zav hc,zaM]
   by_cases e:t=i
   ·subst e
    rw[hi']at hc;cases hc
    rw[if_pos ⟨hp,hr⟩]
    exact⟨by omega,fun _=>by omega⟩
   ·split
    ·exact⟨by omega,fun _=>by have:=h1.2 (by omega);omega⟩
    ·exact⟨h1.1,fun _=>h1.2 (by omega)⟩
 have:=(go ds.length (yg _)).2 hi
 rwa [yK]at this
end
theorem ze3{i:Int}{n:Nat}(h0:0<=i)(h1:i<2 ^ n):sz i<=n:=zas (by
 have:(i.natAbs:Int)<((2 ^ n:Nat):Int):=by
  rw[Int.natAbs_of_nonneg h0]
  push_cast
  exact h1
 exact_mod_cast this)
def zrj(q:Rat):Prop:=0<=q/\SzQ q 100 31
section
variable {f:Nat->Int}{q:Rat}
theorem zeP(hq:0<=q)(hf:∀j,j<3->0<=f j):∀r,r<=3->zaC f q r=if((zaD f r:Int):Rat)<q then q-((zaD f r:Int):Rat)else 0
 | 0,_=>by
  show q=if((0:Int):Rat)<q then q-((0:Int):Rat)else 0
  have e:((0:Int):Rat)=0:=rfl
  rw[e]
  split<;>grind
 | r+1,hr=>by
  have ih:=zeP hq hf r (by omega)
  have h0:=zaq (hf r (by omega))
  have e:((zaD f (r+1):Int):Rat)=((zaD f r:Int):Rat)+((f r:Int):Rat):=yS _ _
  rw[zc4,e]
  unfold zaa
  rw[ih]
  split<;>split<;>(try split)<;>grind
end
def zbK(ds:List Due)(g:Due->Rat)(m:Nat):List Rat:=(ds.filter fun d=>decide (d.q=(m:Int))).map g
theorem zgy(ds:List Due)(d:Due)(g:Due->Rat)(m:Nat):zbK (ds++[d]) g m=zbK ds g m++if d.q=(m:Int) then[g d] else[]:=by
 unfold zbK
 rw[ybA,yl]
 congr 1
 by_cases e:d.q=(m:Int)
 ·rw[if_pos e,ybk (p:=fun d:Due=>decide (d.q=(m:Int))) (by simpa using e)];rfl
 ·rw[if_neg e,ybl (p:=fun d:Due=>decide (d.q=(m:Int))) (by simpa using e)];rfl
theorem zfq{ds:List Due}{g:Due->Rat}{m:Nat}:(zbK ds g m).length<=ds.length:=by
 unfold zbK
 rw[yh]
 exact ybp _ _
theorem zlO{ds:List Due}{g:Due->Rat}{m:Nat}{x:Rat}(h:x∈zbK ds g m):∃d∈ds,x=g d:=by
 obtain⟨d,hd,e⟩:=yaz.mp h
 exact⟨d,(yaI.mp hd).1,e.symm⟩
def zV(ds:List Due)(g:Due->Rat)(m:Nat):Rat:=zdf (zbK ds g m)
theorem zaQ(ds:List Due)(d:Due)(g:Due->Rat)(m:Nat):zV (ds++[d]) g m=zV ds g m+if d.q=(m:Int)then g d else 0:=by
 unfold zV
 rw[zgy]
 split
 ·rw[zeY]
 ·rw[yau];grind
def PRows(H:Hp)(as:List Addr)(F:Nat->List Rat):Prop:=as.Nodup/\∀(m:Nat) (a:Addr),as[m]?=some a->∃vs,H a=some (.lst vs)/\IsQs H vs (F m)
section
variable {H H':Hp}{as:List Addr}{F:Nat->List Rat}
theorem PRows.same(h:PRows H as F)(e:Same H H'):PRows H' as F:=⟨h.1,fun m a q=>by obtain⟨vs,h1,h2⟩:=h.2 m a q;exact⟨vs,e.at h1,h2.same e⟩⟩
theorem PRows.but{l:Addr}(h:PRows H as F)(g:LBut l H H')(n:l∉as):PRows H' as F:=
 ⟨h.1,fun m a q=>by
  obtain⟨vs,h1,h2⟩:=h.2 m a q
  exact⟨vs,g.lst h1 fun z=>n (z▸ya q),LBut.isQs g h2⟩⟩
theorem PRows.fresh{p:Addr}(h:PRows H as F)(hp:H p=none):p∉as:=fun m=>by
 obtain⟨i,hi,e⟩:=y9 m
 obtain⟨vs,h1,_⟩:=h.2 i p (by rw[yj hi,e])
 rw[hp]at h1;cases h1
theorem PRows.app{p:Addr}(h:PRows H as F)(n:p∉as)(hp:H p=some (.lst []))(hF:F as.length=[]):PRows H (as++[p]) F:=by
 refine⟨ya3.mpr ⟨h.1,by simp,fun a ha b hb e=>n (by rw[yw]at hb;subst hb;subst e;exact ha)⟩,fun i a q=>?_⟩
 rw[yaN]at q
 split at q
 ·exact h.2 i a q
 ·rename_i hi
  have hi':i-as.length=0:=by
   cases e:i-as.length with
   | zero=>rfl
   | succ m=>rw[e]at q;cases q
  rw[hi']at q;cases q
  have:i=as.length:=by omega
  subst this
  exact⟨[],hp,by rw[hF];trivial⟩
theorem PRows.set{j:Nat}{a p:Addr}{vs:List V}{q:Rat}(h:PRows H as F)(g:LBut a H H')(ha:as[j]?=some a)(hv:H a=some (.lst vs))(hp:IsQ H p q)(h':H' a=some (.lst (vs++[.ref p]))):PRows H' as (fun m=>if m=j then F m++[q]else F m):=by
 refine⟨h.1,fun m b hb=>?_⟩
 by_cases e:m=j
 ·subst e
  rw[ha]at hb;cases hb
  obtain⟨us,u1,u2⟩:=h.2 m a ha
  rw[hv]at u1;cases u1
  show ∃vs,H' a=some (.lst vs)/\IsQs H' vs (if m=m then F m++[q]else F m)
  rw[if_pos rfl]
  exact⟨_,h',IsQs.app (LBut.isQ g hp) (LBut.isQs g u2)⟩
 ·obtain⟨us,u1,u2⟩:=h.2 m b hb
  show ∃vs,H' b=some (.lst vs)/\IsQs H' vs (if m=j then F m++[q]else F m)
  rw[if_neg e]
  exact⟨us,g.lst u1 fun z=>e (zb6 h.1 hb (z▸ha)),LBut.isQs g u2⟩
end
def IsFr(z:Nat)(H:Hp)(vs:List V)(rs:List Rat):Prop:=vs.length=rs.length/\∀(i:Nat) (r:Rat),rs[i]?=some r->∃(a:Addr) (t b:Int),vs[i]?=some (V.ref a)/\H a=some (HO.tup [.int t,.int b])/\0<b/\((t:Int):Rat)=r*((b:Int):Rat)/\sz t<=z/\sz b<=z
theorem IsFr.same{z:Nat}{H H':Hp}{vs:List V}{rs:List Rat}(h:IsFr z H vs rs)(e:Same H H'):IsFr z H' vs rs:=
 ⟨h.1,fun i r hr=>by obtain⟨a,t,b,h1,h2,h3⟩:=h.2 i r hr;exact⟨a,t,b,h1,e.at h2,h3⟩⟩
theorem IsFr.mono{z z':Nat}{H:Hp}{vs:List V}{rs:List Rat}(h:IsFr z H vs rs)(e:z<=z'):IsFr z' H vs rs:=
 ⟨h.1,fun i r hr=>by obtain⟨a,t,b,h1,h2,h3,h4,h5,h6⟩:=h.2 i r hr;exact⟨a,t,b,h1,h2,h3,h4,yc h5 e,yc h6 e⟩⟩
theorem IsQs.fr{H:Hp}{vs:List V}{rs:List Rat}{z:Nat}(h:IsQs H vs rs)(hz:∀r∈rs,SzQ r z z):IsFr z H vs rs:=by
 refine⟨h.length,fun i r hr=>?_⟩
 have hi:i<vs.length:=by rw[h.length];exact(yk.mp hr).1
 obtain⟨v,hv⟩:=zO hi
 obtain⟨a,q,rfl,hq,ha⟩:=h.get hv
 rw[hr]at hq;cases hq
 have:=hz r (ya hr)
 exact⟨a,_,_,hv,ha,zap r,zjT r,this.1,this.2⟩
theorem zrx{r:Rat}{t b t' b':Int}(h:((t:Int):Rat)=r*((b:Int):Rat))(h':((t':Int):Rat)=r*((b':Int):Rat)):t*b'=t'*b:=by
 apply zhJ
 rw[yu,yu,h,h']
 grind
def zg3(K:Fg):Sp:=fun vs H Q _=>∃(a b:Addr) (us ws:List V) (rs:List Rat),vs=[.ref a,.ref b]/\H a=some (.lst us)/\H b=some (.lst ws)/\IsFr 10000000 H us rs/\IsFr 10000000 H ws rs/\rs.length<=1000/\Q (.bl true) H
def zh7:=fun {K:Fg} {a b:Addr} {us ws:List V} {rs:List Rat} {H:Hp} {Q:VK} {E:XK} h1 h2 h3 h4 h5 k=>@id (zg3 K [.ref a,.ref b] H Q E) ⟨a,b,us,ws,rs,rfl,h1,h2,h3,h4,h5,k⟩
theorem IsFr.but{z:Nat}{H H':Hp}{l:Addr}{vs:List V}{rs:List Rat}(h:IsFr z H vs rs)(e:LBut l H H'):IsFr z H' vs rs:=
 ⟨h.1,fun i r hr=>by obtain⟨a,t,b,h1,h2,h3⟩:=h.2 i r hr;exact⟨a,t,b,h1,e.tup h2,h3⟩⟩
theorem IsFr.nil{z:Nat}{H:Hp}:IsFr z H [] []:=⟨rfl,fun i r h=>nomatch h⟩
theorem IsFr.app{z:Nat}{H:Hp}{vs:List V}{rs:List Rat}{p:Addr}{t b:Int}{r:Rat}(h:IsFr z H vs rs)(hp:H p=some (.tup [.int t,.int b]))(hb:0<b)(he:((t:Int):Rat)=r*((b:Int):Rat))(z1:sz t<=z)(z2:sz b<=z):IsFr z H (vs++[.ref p]) (rs++[r]):=by
 refine⟨by rw[yb,yb,h.1];rfl,fun i s hs=>?_⟩
 rw[yaN]at hs
 split at hs
 ·rename_i hi
  obtain⟨a,t',b',h1,h2⟩:=h.2 i s hs
  exact⟨a,t',b',by rw[yW (by rw[h.1];exact hi)];exact h1,h2⟩
 ·rename_i hi
  have e0:i-rs.length=0:=by
   cases e:i-rs.length with
   | zero=>rfl
   | succ m=>rw[e]at hs;cases hs
  rw[e0]at hs;cases hs
  have:i=vs.length:=by have:=h.1;omega
  subst this
  exact⟨p,t,b,by rw[yax (yg _),Nat.sub_self];rfl,hp,hb,he,z1,z2⟩
theorem IsFr.set{z z' n j:Nat}{H:Hp}{vs:List V}{F G:Nat->Rat}{p:Addr}{t b:Int}(h:IsFr z H vs ((List.range n).map F))(hz:z<=z')(hp:H p=some (.tup [.int t,.int b]))(hb:0<b)(he:((t:Int):Rat)=G j*((b:Int):Rat))(z1:sz t<=z')(z2:sz b<=z')(hG:∀m,m≠j->G m=F m):IsFr z' H (vs.set j (.ref p)) ((List.range n).map G):=by
 refine⟨by rw[yan,h.1,yh,yh],fun i s hs=>?_⟩
 have hi:i<n:=by have:=(yk.mp hs).1;rwa [yh,yv]at this
 rw[yf,yL hi]at hs
 have es:s=G i:=(yn hs).symm
 subst es
 have hv:vs.length=n:=by rw[h.1,yh,yv]
 by_cases e:i=j
 ·subst e
  exact⟨p,t,b,by rw[yaZ (by omega)],hp,hb,he,z1,z2⟩
 ·obtain⟨a,t',b',h1,h2,h3,h4,h5,h6⟩:=h.2 i (F i) (by rw[yf,yL hi];rfl)
  exact⟨a,t',b',by rw[ya8 (fun z=>e z.symm)];exact h1,h2,h3,by rw[hG i e];exact h4,yc h5 hz,yc h6 hz⟩
theorem cut3{f:Nat->Int}{r:Int}(h0:0<=r)(h1:r<3):zd3 ((vec 3 f).map V.int) none (some r)=(vec r.toNat f).map V.int:=by
 obtain rfl | rfl | rfl:r=0\/r=1\/r=2:=by omega
 all_goals rfl
theorem zfv{a b c:Rat}(hc:0<c)(h:a*c<b*c):a<b:=by
 rcases yam (a<b)with z | z'
 ·exact z
 ·have:=yH (yaA.mp z') (Rat.le_of_lt hc)
  grind
def zdc(f:Nat->Int)(q:Rat)(r:Nat):Int:=
 if f r*(q.den:Int)<(if 0>q.num-zaD f r*(q.den:Int)then 0 else q.num-zaD f r*(q.den:Int))then f r*(q.den:Int) else(if 0>q.num-zaD f r*(q.den:Int)then 0 else q.num-zaD f r*(q.den:Int))
theorem znb{f:Nat->Int}{q:Rat}{r:Nat}(hq:0<=q)(hf:∀j,j<3->0<=f j)(hr:r<3):0<=zdc f q r/\zdc f q r<=f r*(q.den:Int)/\((zdc f q r:Int):Rat)=zaa f q r*((q.den:Int):Rat):=by
 have hd:=zn7 q
 have hd':=zap q
 have hn:=zjT q
 have h0:=ybi (hf r hr) (yay hd')
 have hm:=zeP hq hf r (by omega)
 obtain⟨x,hx⟩:∃x,x=(if 0>q.num-zaD f r*(q.den:Int)then 0 else q.num-zaD f r*(q.den:Int)):=⟨_,rfl⟩
 have x0:0<=x:=by rw[hx];split<;>omega
 have xe:((x:Int):Rat)=zaC f q r*((q.den:Int):Rat):=by
  have hsub:((q.num-zaD f r*(q.den:Int):Int):Rat)=(q-((zaD f r:Int):Rat))*((q.den:Int):Rat):=by
   rw[ybT,yu,hn];grind
  rw[hm,hx]
  split
  ·rename_i hneg
   have hneg':((q.num-zaD f r*(q.den:Int):Int):Rat)<((0:Int):Rat):=by exact_mod_cast hneg
   rw[hsub]at hneg'
   have:q-((zaD f r:Int):Rat)<0:=zfv hd (by have e:((0:Int):Rat)=0:=rfl;rw[e]at hneg';grind)
   rw[if_neg (by grind)]
   have e:((0:Int):Rat)=0:=rfl
   rw[e];grind
  ·rename_i hneg
   rw[hsub]
   split
   ·rfl
   ·rename_i hle
    have hge:((0:Int):Rat)<=((q.num-zaD f r*(q.den:Int):Int):Rat):=by exact_mod_cast Int.not_lt.mp hneg
    rw[hsub]at hge
    have e:((0:Int):Rat)=0:=rfl
    rw[e]at hge
    have h1:q-((zaD f r:Int):Rat)<=0:=by grind
    have h2:=yH h1 (Rat.le_of_lt hd)
    grind
 unfold zdc
 rw[<- hx]
 have e1:((f r*(q.den:Int):Int):Rat)=((f r:Int):Rat)*((q.den:Int):Rat):=yu _ _
 split
 ·rename_i h
  refine⟨h0,yaG _,?_⟩
  have h':((f r*(q.den:Int):Int):Rat)<((x:Int):Rat):=by exact_mod_cast h
  rw[e1,xe]at h'
  have:=zfv hd h'
  unfold zaa
  rw[if_pos this,e1]
 ·rename_i h
  refine⟨x0,Int.not_lt.mp h,?_⟩
  have h':((x:Int):Rat)<=((f r*(q.den:Int):Int):Rat):=by exact_mod_cast Int.not_lt.mp h
  rw[e1,xe]at h'
  unfold zaa
  rw[if_neg,xe]
  intro hlt
  have:=ybB hlt hd
  grind
def zbc(ds:List Due)(m:Nat):Rat:=((zao (vec 3 (zD ds m)):Int):Rat)
theorem zf8{ds:List Due}{n:Int}(hd:∀d∈ds,zM n d/\d.a<=1000000000000)(hl:ds.length<=64)(m:Nat):0<=zao (vec 3 (zD ds m))/\zao (vec 3 (zD ds m))<=300000000000000:=by
 have hb:∀j,j<3->0<=zD ds m j/\zD ds m j<=100000000000000:=fun j _=>by
  have:=zci (m:=m) (r:=j) ds fun d h=>⟨(hd d h).1.2.2.2.2.2.2.2.1,(hd d h).2⟩
  omega
 rw[zcu]
 have:=zdQ hb 3 (by omega)
 omega
theorem ziL{ds:List Due}{n:Int}(hd:∀d∈ds,zM n d/\d.a<=1000000000000)(hl:ds.length<=64)(m:Nat):zrj (zbc ds m):=by
 have h:=zf8 hd hl m
 exact⟨zaq h.1,ze3 h.1 (yaW h.2 (by decide)),zas (by show(1:Int).natAbs<2 ^ 31;decide)⟩
theorem zaX{i j:Int}(h:i<=j):((i:Int):Rat)<=((j:Int):Rat):=by exact_mod_cast h
def Dv(D:Nat)(x:Rat):Prop:=∃t:Int,x*((D:Int):Rat)=(t:Rat)
section
variable {D E:Nat}{x y:Rat}
theorem Dv.add(h:Dv D x)(h':Dv D y):Dv D (x+y):=by
 obtain⟨t,e⟩:=h
 obtain⟨u,e'⟩:=h'
 exact⟨t+u,by rw[yS,<- e,<- e'];grind⟩
theorem Dv.sub(h:Dv D x)(h':Dv D y):Dv D (x-y):=by
 obtain⟨t,e⟩:=h
 obtain⟨u,e'⟩:=h'
 exact⟨t-u,by rw[ybT,<- e,<- e'];grind⟩
theorem Dv.int(i:Int):Dv D ((i:Int):Rat):=⟨i*(D:Int),by rw[yu]⟩
theorem Dv.mulI(i:Int)(h:Dv D x):Dv D (((i:Int):Rat)*x):=by
 obtain⟨t,e⟩:=h
 exact⟨i*t,by rw[yu,<- e];grind⟩
theorem Dv.dvd(h:Dv D x)(hd:D∣E):Dv E x:=by
 obtain⟨k,rfl⟩:=hd
 obtain⟨t,e⟩:=h
 refine⟨t*(k:Int),?_⟩
 have:(((D*k:Nat):Int):Rat)=((D:Int):Rat)*((k:Int):Rat):=by
  rw[<- yu];congr 1
 rw[this,yu,<- e];grind
theorem Dv.div{f:Nat}(hf:0<f)(h:Dv D x):Dv (D*f) (x/((f:Int):Rat)):=by
 obtain⟨t,e⟩:=h
 refine⟨t,?_⟩
 have:(((D*f:Nat):Int):Rat)=((D:Int):Rat)*((f:Int):Rat):=by
  rw[<- yu];congr 1
 have hp:(0:Rat)<((f:Int):Rat):=zbm (by omega)
 rw[this,<- e]
 grind
theorem Dv.den(hD:0<D)(h:Dv D x):x.den∣D:=by
 obtain⟨t,e⟩:=h
 have e1:x.num*(D:Int)=t*(x.den:Int):=by
  apply zhJ
  rw[yu,yu,zjT x,<- e]
  grind
 have e2:x.den∣x.num.natAbs*D:=by
  have:(x.den:Int)∣x.num*(D:Int):=⟨t,by rw[e1,yaH]⟩
  have:=Int.natAbs_dvd_natAbs.mpr this
  rwa [yac,ybv,yac]at this
 exact Nat.Coprime.dvd_of_dvd_mul_left (Nat.Coprime.symm x.reduced) e2
end
def DvB(D:Nat)(x:Rat):Prop:=0<=x/\x<=((100000000000000000:Int):Rat)/\Dv D x
theorem DvB.sz{D z:Nat}{x:Rat}(h:DvB D x)(hD:0<D)(hz:sz (D:Int)<=z):SzQ x (z+57) z:=by
 have h1:=Nat.le_of_dvd hD (h.2.2.den hD)
 have hz':=sz_le.mp hz
 rw[yac]at hz'
 have hn0:0<=x.num:=Rat.num_nonneg.mpr h.1
 have hn:x.num<=100000000000000000*(x.den:Int):=by
  have:=(Rat.le_iff _ _).mp h.2.1
  have e:((100000000000000000:Int):Rat).den=1:=rfl
  have e2:((100000000000000000:Int):Rat).num=100000000000000000:=rfl
  rw[e,e2]at this
  simpa using this
 refine⟨zas ?_,zas ?_⟩
 ·have h3:x.num.natAbs<=100000000000000000*x.den:=by omega
  have h4:100000000000000000*x.den<=100000000000000000*D:=yar _ h1
  rw[ya0]
  have h5:100000000000000000*D<2 ^ z*2 ^ 57:=by
   have:(2:Nat) ^ 57=144115188075855872:=by decide
   rw[this];omega
  omega
 ·rw[yac];omega
section
variable {f:Nat->Int}{q q':Rat}{D:Nat}
theorem zhh(h:Dv D q):∀r,Dv D (zaC f q r)
 | 0=>h
 | r+1=>by
  have ih:=zhh h r
  rw[zc4];unfold zaa
  split
  ·exact ih.sub (Dv.int _)
  ·exact ih.sub ih
theorem zkv(h:Dv D q)(r:Nat):Dv D (zaa f q r):=by
 unfold zaa
 split
 ·exact Dv.int _
 ·exact zhh h r
def rkN(t:Int):Nat:=if 0<t then t.toNat else 1
theorem zoZ(t:Int):0<rkN t:=by unfold rkN;split<;>omega
theorem ziP(h:Dv D q)(r:Nat):Dv (D*rkN (f r)) (zae f q r):=by
 unfold zae rkN
 split
 ·rename_i h0
  have e:((f r:Int):Rat)=(((f r).toNat:Int):Rat):=by congr 1;omega
  rw[e]
  exact(zkv h r).div (by omega)
 ·exact Dv.int 0
theorem zmI(hq:0<=q)(hf:∀r,r<3->0<=f r){r:Nat}(h:r<=3):zaC f q r<=q:=by
 have:=zkn hq hf r 0 (by omega)
 rw[Nat.zero_add]at this
 exact this
theorem zjR(h:DvB D q)(hf:∀r,r<3->0<=f r){r:Nat}(hr:r<=3):DvB D (zaC f q r):=⟨zg6 h.1 r,by have:=zmI h.1 hf hr;have:=h.2.1;grind,zhh h.2.2 r⟩
theorem zn0(h:DvB D q)(hf:∀r,r<3->0<=f r){r:Nat}(hr:r<3):DvB D (zaa f q r):=by
 have h0:=zey h.1 (hf r hr)
 have h1:=zjR h hf (yaQ hr)
 refine⟨h0.1,?_,zkv h.2.2 r⟩
 have:=h1.2.1
 unfold zaa
 split<;>grind
theorem zm0(h:DvB D q)(hf:∀r,r<3->0<=f r){r:Nat}(hr:r<3):DvB (D*rkN (f r)) (zae f q r):=by
 have h0:=zhO h.1 (hf r hr)
 refine⟨h0.1,?_,ziP h.2.2 r⟩
 have:(1:Rat)<=((100000000000000000:Int):Rat):=by decide
 have:=h0.2
 grind
theorem zmk(h0:0<=q)(h:q<=q')(hf:∀r,r<3->0<=f r){r:Nat}(hr:r<3):zaa f q r<=zaa f q' r:=by
 have e1:=zeP h0 hf r (by omega)
 have e2:=zeP (q:=q') (by grind) hf r (by omega)
 have hc:=zaq (hf r hr)
 unfold zaa
 rw[e1,e2]
 grind
theorem zgv(h0:0<=q)(h:q<=q')(hf:∀r,r<3->0<=f r){r:Nat}(hr:r<3):zae f q r<=zae f q' r:=by
 have e1:=zcI h0 (hf r hr)
 have e2:=zcI (q:=q') (by grind) (hf r hr)
 have hl:=zmk h0 h hf hr
 by_cases hp:0<f r
 ·refine ybf (c:=((f r:Int):Rat)) ?_ (zbm hp)
  rw[e1,e2];exact hl
 ·unfold zae
  rw[if_neg hp,if_neg hp]
  exact yG
end
def zgZ(F:Due->Int):List Due->Nat
 | []=>1
 | d :: ds=>rkN (F d)*zgZ F ds
theorem zid(F:Due->Int):∀ds,0<zgZ F ds
 | []=>Nat.one_pos
 | d :: ds=>Nat.mul_pos (zoZ _) (zid F ds)
theorem zfe{F:Due->Int}:∀{ds:List Due} {d:Due},d∈ds->rkN (F d)∣zgZ F ds
 | e :: ds,d,h=>by
  rcases yM.mp h with rfl | h
  ·exact Nat.dvd_mul_right _ _
  ·exact Nat.dvd_trans (zfe h) (Nat.dvd_mul_left _ _)
theorem ziZ{F:Due->Int}{z:Nat}(hz:1<=z):∀{ds:List Due},(∀d∈ds,sz (F d)<=z)->zgZ F ds<=(2 ^ z) ^ ds.length
 | [],_=>yg _
 | d :: ds,h=>by
  have ih:=ziZ hz (ds:=ds) fun e he=>h e (yX _ he)
  have h1:=sz_le.mp (h d yaj)
  have h2:rkN (F d)<=2 ^ z:=by
   unfold rkN
   split
   ·omega
   ·exact Nat.one_le_two_pow
  rw[yaD,ybr,Nat.mul_comm]
  exact yaP h2 ih
def rkD(ds:List Due)(d:Due):Int:=zD ds d.p.toNat d.r.toNat
def zcV(ds:List Due):Nat:=zgZ (rkD ds) ds
theorem ziU(ds:List Due):0<zcV ds:=zid _ _
theorem zo3{ds:List Due}{qs:List Rat}{D:Nat}(hq:∀q∈qs,DvB D q){d:Due}(hd:d∈ds)(hp:d.p.toNat<qs.length):Dv (D*zcV ds) (zY ds qs d):=by
 obtain⟨q,hqi⟩:=zO hp
 have hqd:qs.getD d.p.toNat 0=q:=by rw[ye,hqi];rfl
 unfold zY
 rw[hqd]
 exact Dv.mulI _ ((ziP (hq q (ya hqi)).2.2 _).dvd (Nat.mul_dvd_mul_left _ (zfe (F:=rkD ds) hd)))
theorem znJ{ds:List Due}{qs:List Rat}{D:Nat}(hq:∀q∈qs,DvB D q){d:Due}(hr:∀r,r<3->0<=zD ds d.p.toNat r)(hp:d.p.toNat<qs.length)(h3:d.r.toNat<3)(ha:0<=d.a):0<=zY ds qs d/\zY ds qs d<=((d.a:Int):Rat):=by
 obtain⟨q,hqi⟩:=zO hp
 have hqd:qs.getD d.p.toNat 0=q:=by rw[ye,hqi];rfl
 unfold zY
 rw[hqd]
 have hs:=zhO (hq q (ya hqi)).1 (hr _ h3)
 have h0:=zaq ha
 constructor
 ·exact yB h0 hs.1
 ·have:=yJ hs.2 h0
  grind
theorem zha{E:Nat}:∀(i:Nat) {qs:List Rat},(∀q∈qs,Dv E q/\0<=q/\q<=((1000000000000:Int):Rat))->i<=qs.length->Dv E (zdf (qs.take i))/\0<=zdf (qs.take i)/\zdf (qs.take i)<=((1000000000000*i:Int):Rat)
 | 0,qs,_,_=>by
  rw[List.take_zero]
  exact⟨Dv.int 0,yG,yG⟩
 | i+1,qs,h,hi=>by
  obtain⟨q,hq⟩:=zO (show i<qs.length by omega)
  obtain⟨h1,h2,h3⟩:=zha i h (by omega)
  obtain⟨a1,a2,a3⟩:=h q (ya hq)
  rw[zav hq,zeY]
  refine⟨h1.add a1,by grind,?_⟩
  have e:((1000000000000*((i+1:Nat):Int):Int):Rat)=((1000000000000*(i:Int):Int):Rat)+((1000000000000:Int):Rat):=by
   rw[<- yS];congr 1
  rw[e];grind
theorem znl{E:Nat}{qs:List Rat}(h:∀q∈qs,Dv E q/\0<=q/\q<=((1000000000000:Int):Rat))(hl:qs.length<=64)(i:Nat):DvB E (zdf (qs.take i)):=by
 have key:∀j,j<=qs.length->DvB E (zdf (qs.take j)):=fun j hj=>by
  obtain⟨h1,h2,h3⟩:=zha j h hj
  refine⟨h2,?_,h1⟩
  have:((1000000000000*(j:Int):Int):Rat)<=((100000000000000000:Int):Rat):=zaX (by omega)
  grind
 by_cases hi:i<=qs.length
 ·exact key i hi
 ·rw[List.take_of_length_le (by omega),<- yK (l:=qs)]
  exact key _ (yg _)
set_option genInjectivity false in
set_option genSizeOf false in
structure Deep(ds:List Due)(qs:List Rat)(D:Nat):Prop where
 pos:0<D
 lay:∀q∈qs,DvB D q
 zs:sz ((D*zcV ds:Nat):Int)<=3000
def zbd(ds:List Due)(ps:List Int)(qs:List Rat)(m:Nat):Rat:=
 if((ps.getD m 0:Int):Rat)+zV ds (zY ds qs) m<zbc ds m then((ps.getD m 0:Int):Rat)+zV ds (zY ds qs) m else zbc ds m
theorem zlu{ds:List Due}{g g':Due->Rat}(h:∀d∈ds,g d<=g' d)(m:Nat):zV ds g m<=zV ds g' m:=by
 have key:∀t,t<=ds.length->zV (ds.take t) g m<=zV (ds.take t) g' m:=by
  intro t
  induction t with
  | zero=>intro _;exact yG
  | succ t ih=>
   intro ht
   obtain⟨d,hd⟩:=zO (show t<ds.length by omega)
   have h1:=ih (by omega)
   have h2:=h d (ya hd)
   rw[zav hd,zaQ,zaQ]
   split<;>grind
 have:=key ds.length (yg _)
 rwa [yK]at this
theorem zkE{ds:List Due}{ps:List Int}{qs:List Rat}(m:Nat):zbd ds ps qs m<=zbc ds m:=by
 unfold zbd
 split<;>grind
theorem znq{F:Nat->Rat}{n m:Nat}:((List.range n).map F).getD m 0=if m<n then F m else 0:=by
 rw[ye,yf]
 by_cases h:m<n
 ·rw[yL h,if_pos h];rfl
 ·rw[yae (by rw[yv];omega),if_neg h];rfl
theorem zdB{m r:Nat}{A:Int}:∀(ds:List Due),(∀d∈ds,0<=d.a/\d.a<=A)->0<=A->0<=zD ds m r/\zD ds m r<=A*(ds.length:Int):=by
 intro ds h hA
 have key:∀t,t<=ds.length->0<=zD (ds.take t) m r/\zD (ds.take t) m r<=A*(t:Int):=by
  intro t
  induction t with
  | zero=>intro _;rw[List.take_zero];exact⟨yaG _,by show(0:Int)<=A*0;omega⟩
  | succ t ih=>
   intro ht
   obtain⟨d,hd⟩:=zO (show t<ds.length by omega)
   have h1:=ih (by omega)
   have h2:=h d (ya hd)
   have e:A*((t+1:Nat):Int)=A*(t:Int)+A:=by push_cast;rw[Int.mul_add,Int.mul_one]
   rw[zav hd,zaM,e]
   split<;>omega
 have:=key ds.length (yg _)
 rwa [yK]at this
theorem zfL{ds:List Due}{z c n:Nat}(hz:1<=z)(hT:∀d∈ds,sz (rkD ds d)<=z)(hc:ds.length<=c)(h:z*c*(n+1)<3000):sz ((zcV ds ^ (n+1):Nat):Int)<=3000:=by
 refine zas ?_
 rw[yac]
 have h1:zcV ds<=2 ^ (z*c):=by
  have:=ziZ hz hT
  rw[<- Nat.pow_mul]at this
  exact yc this (yaO (by decide) (yar _ hc))
 have h2:=Nat.pow_le_pow_left h1 (n+1)
 rw[<- Nat.pow_mul]at h2
 exact yab h2 (yba (by decide) h)
def Drawn(ds:List Due)(c m:Int):Prop:=(m=0->∀d∈ds,d.a<=12)/\(m≠0->c<17)/\ds.length=c.toNat
theorem zof{ds:List Due}{c m n:Int}(h:Drawn ds c m)(hd:∀d∈ds,0<=d.a/\d.a<=1000000000000)(c0:0<=c)(c1:c<=57)(m0:0<=m)(n0:0<=n)(n1:n<=8)(hn:(0<m/\6<c\/16<c)->n<=3):sz ((zcV ds ^ (n.toNat+1):Nat):Int)<=3000:=by
 obtain⟨h1,h2,hl⟩:=h
 by_cases hm:m=0
 ·have ha:∀d∈ds,0<=d.a/\d.a<=12:=fun d h=>⟨(hd d h).1,h1 hm d h⟩
  by_cases hc:16<c
  ·refine zfL (z:=10) (c:=57) (by decide) (fun d _=>?_) (by omega) ?_
   ·have:=zdB (m:=d.p.toNat) (r:=d.r.toNat) ds ha (by decide)
    exact zas (by unfold rkD;have:=(by decide:(2:Nat) ^ 10=1024);omega)
   ·have:=hn (.inr hc)
    have:n.toNat<=3:=by omega
    calc 10*57*(n.toNat+1)<=10*57*4:=yar _ (by omega)
     _<3000:=by decide
  ·refine zfL (z:=8) (c:=16) (by decide) (fun d _=>?_) (by omega) ?_
   ·have:=zdB (m:=d.p.toNat) (r:=d.r.toNat) ds ha (by decide)
    exact zas (by unfold rkD;have:=(by decide:(2:Nat) ^ 8=256);omega)
   ·calc 8*16*(n.toNat+1)<=8*16*9:=yar _ (by omega)
     _<3000:=by decide
 ·have hc16:=h2 hm
  by_cases hc:6<c
  ·refine zfL (z:=44) (c:=16) (by decide) (fun d _=>?_) (by omega) ?_
   ·have:=zdB (m:=d.p.toNat) (r:=d.r.toNat) ds hd (by decide)
    exact zas (by unfold rkD;have:=(by decide:(2:Nat) ^ 44=17592186044416);omega)
   ·have:=hn (.inl ⟨by omega,hc⟩)
    have:n.toNat<=3:=by omega
    calc 44*16*(n.toNat+1)<=44*16*4:=yar _ (by omega)
     _<3000:=by decide
  ·refine zfL (z:=43) (c:=6) (by decide) (fun d _=>?_) (by omega) ?_
   ·have:=zdB (m:=d.p.toNat) (r:=d.r.toNat) ds hd (by decide)
    exact zas (by unfold rkD;have:=(by decide:(2:Nat) ^ 43=8796093022208);omega)
   ·calc 43*6*(n.toNat+1)<=43*6*9:=yar _ (by omega)
     _<3000:=by decide
theorem zgR{ds:List Due}{m:Nat}(hd:∀d∈ds,0<=d.r/\d.r<3):zch ds m=zao (vec 3 (zD ds m)):=by
 have key:∀t,t<=ds.length->zch (ds.take t) m=zD (ds.take t) m 0+zD (ds.take t) m 1+zD (ds.take t) m 2:=by
  intro t
  induction t with
  | zero=>intro _;rfl
  | succ t ih=>
   intro ht
   obtain⟨d,hdt⟩:=zO (show t<ds.length by omega)
   have h1:=ih (by omega)
   obtain⟨r0,r1⟩:=hd d (ya hdt)
   rw[zav hdt,zgO,zaM,zaM,zaM]
   by_cases e:d.p=(m:Int)
   ·rw[if_pos e]
    obtain h | h | h:d.r=0\/d.r=1\/d.r=2:=by omega
    ·rw[if_pos ⟨e,by omega⟩,if_neg (fun z=>by have:=z.2;omega),if_neg (fun z=>by have:=z.2;omega)];omega
    ·rw[if_neg (fun z=>by have:=z.2;omega),if_pos ⟨e,by omega⟩,if_neg (fun z=>by have:=z.2;omega)];omega
    ·rw[if_neg (fun z=>by have:=z.2;omega),if_neg (fun z=>by have:=z.2;omega),if_pos ⟨e,by omega⟩];omega
   ·rw[if_neg e,if_neg (fun z=>e z.1),if_neg (fun z=>e z.1),if_neg (fun z=>e z.1)];exact h1
 have:=key ds.length (yg _)
 rw[yK]at this
 rw[this]
 show _=0+zD ds m 0+zD ds m 1+zD ds m 2
 omega
def zds(ps:List Int):Prop:=∀p∈ps,0<=p/\p<=100000000000000
theorem zoe{ds:List Due}{ps:List Int}{qs:List Rat}{m:Nat}{t b p:Int}(hb:0<b)(he:((t:Int):Rat)=zV ds (zY ds qs) m*((b:Int):Rat))(hp:ps.getD m 0=p):(zao (vec 3 (zD ds m))*b<t+p*b->zbd ds ps qs m=zbc ds m)/\(¬zao (vec 3 (zD ds m))*b<t+p*b->((t+p*b:Int):Rat)=zbd ds ps qs m*((b:Int):Rat)):=by
 have hb':=zbm hb
 have e1:((t+p*b:Int):Rat)=(((p:Int):Rat)+zV ds (zY ds qs) m)*((b:Int):Rat):=by
  rw[yS,yu,he];grind
 have e2:((zao (vec 3 (zD ds m))*b:Int):Rat)=zbc ds m*((b:Int):Rat):=yu _ _
 unfold zbd
 rw[hp]
 constructor
 ·intro h
  have h1:((zao (vec 3 (zD ds m))*b:Int):Rat)<((t+p*b:Int):Rat):=by exact_mod_cast h
  rw[e1,e2]at h1
  have:=zfv hb' h1
  rw[if_neg (by grind)]
 ·intro h
  have h1:((t+p*b:Int):Rat)<=((zao (vec 3 (zD ds m))*b:Int):Rat):=zaX (Int.not_lt.mp h)
  rw[e1,e2]at h1
  rw[e1]
  split
  ·rfl
  ·rename_i hn
   have h2:¬zbc ds m<((p:Int):Rat)+zV ds (zY ds qs) m:=fun z=>by
    have:=ybB z hb'
    grind
   have h3:((p:Int):Rat)+zV ds (zY ds qs) m=zbc ds m:=by grind
   rw[h3]
def zgp(K:Fg):Sp:=fun vs H Q _=>∃(a:Addr) (ns:List Int) (k y m:Int),vs=[.ref a,.int k,.int y,.int m]/\SqL K H a (ns.map V.int)/\Light ns/\0<=k/\k<=900/\0<=m/\m<=1000000000000/\∀x,0<=x->x<=100000000000000->Q (.int x) H
def zlE:=fun {K:Fg} {a:Addr} {ns:List Int} {k y m:Int} {H:Hp} {Q:VK} {E:XK} hS hz h0 h1 m0 m1 q=>@id (zgp K [.ref a,.int k,.int y,.int m] H Q E) ⟨a,ns,k,y,m,rfl,hS,hz,h0,h1,m0,m1,q⟩
def ze2(K:Fg):Sp:=fun vs H Q _=>∃(a:Addr) (ns:List Int) (n m:Int),vs=[.ref a,.int n,.int m]/\SqL K H a (ns.map V.int)/\Light ns/\0<=n/\n<=9/\0<=m/\m<=1000000000000/\∀l H' ps,H l=none->Same H H'->H' l=some (.lst (ps.map V.int))->ps.length=n.toNat->zds ps->Q (.ref l) H'
def zj6:=fun {K:Fg} {a:Addr} {ns:List Int} {n m:Int} {H:Hp} {Q:VK} {E:XK} hS hz n0 n1 m0 m1 q=>@id (ze2 K [.ref a,.int n,.int m] H Q E) ⟨a,ns,n,m,rfl,hS,hz,n0,n1,m0,m1,q⟩
def ze4(K:Fg):Sp:=fun vs H Q _=>∃(a:Addr) (ns:List Int) (k m:Int),vs=[.ref a,.int k,.int m]/\SqL K H a (ns.map V.int)/\Light ns/\0<=k/\k<=1000/\0<=m/\m<=1000000000000/\∀x,0<=x->x<=1000000000000->(m=0->x<=12)->Q (.int x) H
def zj4:=fun {K:Fg} {a:Addr} {ns:List Int} {k m:Int} {H:Hp} {Q:VK} {E:XK} hS hz h0 h1 m0 m1 q=>@id (ze4 K [.ref a,.int k,.int m] H Q E) ⟨a,ns,k,m,rfl,hS,hz,h0,h1,m0,m1,q⟩
def zjs(K:Fg):Sp:=fun vs H Q _=>∃(a:Addr) (ns:List Int) (k n m:Int),vs=[.ref a,.int k,.int n,.int m]/\SqL K H a (ns.map V.int)/\Light ns/\0<=k/\k<=900/\2<=n/\n<=9/\0<=m/\m<=1000000000000/\∀p H' d,H p=none->Same H H'->H' p=some (.tup (zg2 d))->zM n d->d.a<=1000000000000->(m=0->d.a<=12)->Q (.ref p) H'
def znf:=fun {K:Fg} {a:Addr} {ns:List Int} {k n m:Int} {H:Hp} {Q:VK} {E:XK} hS hz h0 h1 n0 n1 m0 m1 q=>@id (zjs K [.ref a,.int k,.int n,.int m] H Q E) ⟨a,ns,k,n,m,rfl,hS,hz,h0,h1,n0,n1,m0,m1,q⟩
def zgd(K:Fg):Sp:=fun vs H Q _=>∃(a:Addr) (ns:List Int) (n c m:Int),vs=[.ref a,.int n,.int c,.int m]/\SqL K H a (ns.map V.int)/\Light ns/\1<=n/\n<=9/\0<=c/\c<=64/\(n=1->c=0)/\0<=m/\m<=1000000000000/\∀l H' vs ds,H l=none->Same H H'->H' l=some (.lst vs)->IsTs zg2 H' vs ds->(∀d∈ds,zM n d/\d.a<=1000000000000)->ds.length=c.toNat->(m=0->∀d∈ds,d.a<=12)->Q (.ref l) H'
def zk9:=fun {K:Fg} {a:Addr} {ns:List Int} {n c m:Int} {H:Hp} {Q:VK} {E:XK} hS hz n0 n1 c0 c1 nc m0 m1 q=>@id (zgd K [.ref a,.int n,.int c,.int m] H Q E) ⟨a,ns,n,c,m,rfl,hS,hz,n0,n1,c0,c1,nc,m0,m1,q⟩
theorem PRows.snoc{H:Hp}{as:List Addr}{F:Nat->List Rat}{p:Addr}{vs:List V}(h:PRows H as F)(n:p∉as)(hp:H p=some (.lst vs))(hv:IsQs H vs (F as.length)):PRows H (as++[p]) F:=by
 refine⟨ya3.mpr ⟨h.1,by simp,fun a ha b hb e=>n (by rw[yw]at hb;subst hb;subst e;exact ha)⟩,fun i a q=>?_⟩
 rw[yaN]at q
 split at q
 ·exact h.2 i a q
 ·rename_i hi
  have hi':i-as.length=0:=by
   cases e:i-as.length with
   | zero=>rfl
   | succ m=>rw[e]at q;cases q
  rw[hi']at q;cases q
  have:i=as.length:=by omega
  subst this
  exact⟨vs,hp,hv⟩
theorem PRows.nil{H:Hp}{F:Nat->List Rat}:PRows H [] F:=⟨yaE,fun _ _ h=>nomatch h⟩
theorem PRows.ne{H:Hp}{as:List Addr}{F:Nat->List Rat}{D:Addr}(h:PRows H as F)(hD:H D=some (.lst (as.map V.ref))):D∉as:=fun z=>by
 obtain⟨i,hi,e⟩:=y9 z
 have hb:as[i]?=some D:=by rw[yj hi,e]
 obtain⟨vs,h1,h2⟩:=h.2 i D hb
 rw[hD]at h1;cases h1
 obtain⟨c0,hc0⟩:=zO (show 0<as.length by omega)
 obtain⟨v,q,ev,_,hv⟩:=h2.get (show(as.map V.ref)[0]?=some (.ref c0) by rw[yf,hc0];rfl)
 obtain⟨ws,w1,_⟩:=h.2 0 c0 hc0
 cases ev
 have hv':H c0=some (.tup [.int q.num,.int (q.den:Int)]):=hv
 rw[w1]at hv';cases hv'
theorem PRows.congr{H:Hp}{as:List Addr}{F G:Nat->List Rat}(h:PRows H as F)(e:∀m,m<as.length->F m=G m):PRows H as G:=
 ⟨h.1,fun m a q=>by obtain⟨vs,h1,h2⟩:=h.2 m a q;exact⟨vs,h1,by rw[<- e m (yk.mp q).1];exact h2⟩⟩
end Internal
namespace Dt
def sm(n:Nat)(f:Nat->Rat):Rat:=match n with
 | 0=>0
 | n+1=>sm n f+f n
theorem sm_congr{f g:Nat->Rat}:∀{n:Nat},(∀i,i<n->f i=g i)->sm n f=sm n g
 | 0,_=>rfl
 | n+1,h=>by unfold sm;rw[sm_congr fun i hi=>h i (by omega),h n (by omega)]
theorem sm_zero:∀{n:Nat} {f:Nat->Rat},(∀i,i<n->f i=0)->sm n f=0
 | 0,_,_=>rfl
 | n+1,f,h=>by unfold sm;rw[sm_zero fun i hi=>h i (by omega),h n (by omega)];grind
theorem sm_add{f g:Nat->Rat}:∀n:Nat,sm n (fun i=>f i+g i)=sm n f+sm n g
 | 0=>by unfold sm;grind
 | n+1=>by unfold sm;rw[sm_add n];grind
theorem sm_mul{f:Nat->Rat}(a:Rat):∀n:Nat,sm n (fun i=>a*f i)=a*sm n f
 | 0=>by unfold sm;grind
 | n+1=>by unfold sm;rw[sm_mul a n];grind
theorem sm_neg{f:Nat->Rat}(n:Nat):sm n (fun i=>-f i)=-sm n f:=by
 have:=sm_mul (f:=f) (-1) n
 rw[sm_congr (g:=fun i=>-1*f i) (fun i _=>by grind),this];grind
theorem sm_lin{f g:Nat->Rat}(a b:Rat)(n:Nat):sm n (fun i=>a*f i+b*g i)=a*sm n f+b*sm n g:=by
 rw[sm_add,sm_mul,sm_mul]
theorem sm_swap{F:Nat->Nat->Rat}(m:Nat):∀n:Nat,sm n (fun i=>sm m (F i))=sm m (fun j=>sm n fun i=>F i j)
 | 0=>by
  show(0:Rat)=sm m fun _=>0
  rw[sm_zero fun _ _=>rfl]
 | n+1=>by
  show sm n (fun i=>sm m (F i))+sm m (F n)=sm m fun j=>sm n (fun i=>F i j)+F n j
  rw[sm_swap m n,sm_add]
theorem sm_one{n i:Nat}{f:Nat->Rat}(hi:i<n)(h:∀j,j<n->j≠i->f j=0):sm n f=f i:=by
 induction n with
 | zero=>omega
 | succ n ih=>
  unfold sm
  by_cases e:i=n
  ·subst e
   rw[sm_zero fun j hj=>h j (by omega) (by omega)];grind
  ·rw[ih (by omega) fun j hj hne=>h j (by omega) hne,h n (by omega) (fun z=>e z.symm)];grind
def skip(i:Nat)(f:Nat->Rat):Nat->Rat:=fun r=>if r<i then f r else f (r+1)
def up(i k:Nat):Nat:=if k<i then k else k+1
theorem zel(i:Nat)(f:Nat->Rat)(k:Nat):skip i f k=f (up i k):=by unfold skip up;split<;>rfl
theorem zly{h:Nat->Rat}{i:Nat}:∀{n:Nat},i<n+1->sm n (fun k=>h (up i k))=sm (n+1) (fun j=>if j=i then 0 else h j)
 | 0,hi=>by
  have:i=0:=by omega
  subst this
  unfold sm;unfold sm
  rw[if_pos rfl];grind
 | n+1,hi=>by
  by_cases e:i=n+1
  ·subst e
   rw[show sm (n+1+1) (fun j=>if j=n+1 then 0 else h j)=sm (n+1) (fun j=>if j=n+1 then 0 else h j)+(if n+1=n+1 then 0 else h (n+1))from rfl,if_pos rfl]
   rw[sm_congr (f:=fun k=>h (up (n+1) k)) (g:=fun j=>if j=n+1 then 0 else h j) fun k hk=>by
    show h (up (n+1) k)=if k=n+1 then 0 else h k
    rw[if_neg (by omega)]
    unfold up
    rw[if_pos (by omega)]]
   grind
  ·have ih:=zly (h:=h) (i:=i) (n:=n) (by omega)
   rw[show sm (n+1) (fun k=>h (up i k))=sm n (fun k=>h (up i k))+h (up i n)from rfl,ih]
   rw[show sm (n+1+1) (fun j=>if j=i then 0 else h j)=sm (n+1) (fun j=>if j=i then 0 else h j)+(if n+1=i then 0 else h (n+1))from rfl,if_neg (fun z=>e z.symm)]
   unfold up
   rw[if_neg (by omega)]
def sgn:Nat->Rat
 | 0=>1
 | n+1=>-sgn n
def det:Nat->(Nat->Nat->Rat)->Rat
 | 0,_=>1
 | n+1,c=>sm (n+1) fun i=>sgn (n+i)*c n i*det n (fun j=>skip i (c j))
theorem det_congr:∀{n:Nat} {c c':Nat->Nat->Rat},(∀j r,j<n->r<n->c j r=c' j r)->det n c=det n c'
 | 0,_,_,_=>rfl
 | n+1,c,c',h=>by
  unfold det
  refine sm_congr fun i hi=>?_
  rw[h n i (by omega) hi,det_congr fun j r hj hr=>?_]
  unfold skip
  split
  ·exact h j r (by omega) (by omega)
  ·exact h j (r+1) (by omega) (by omega)
def setc(c:Nat->Nat->Rat)(m:Nat)(u:Nat->Rat):Nat->Nat->Rat:=fun j=>if j=m then u else c j
theorem zeZ{c:Nat->Nat->Rat}{m:Nat}{u:Nat->Rat}{i:Nat}:(fun j=>skip i (setc c m u j))=setc (fun j=>skip i (c j)) m (skip i u):=by
 funext j
 unfold setc
 split<;>rfl
theorem zcr{m:Nat}(a b:Rat):∀{n:Nat} {c:Nat->Nat->Rat} {u v:Nat->Rat},m<n->det n (setc c m fun r=>a*u r+b*v r)=a*det n (setc c m u)+b*det n (setc c m v)
 | 0,_,_,_,h=>by omega
 | n+1,c,u,v,h=>by
  unfold det
  rw[<- sm_lin]
  refine sm_congr fun i hi=>?_
  by_cases e:m=n
  ·subst e
   have e1:∀w:Nat->Rat,setc c m w m=w:=fun w=>by unfold setc;rw[if_pos rfl]
   have e2:∀w:Nat->Rat,det m (fun j=>skip i (setc c m w j))=det m (fun j=>skip i (c j)):=fun w=>det_congr fun j r hj hr=>by
    unfold setc;rw[if_neg (by omega)]
   rw[e1,e1,e1,e2,e2,e2]
   grind
  ·have e1:∀w:Nat->Rat,setc c m w n=c n:=fun w=>by unfold setc;rw[if_neg (fun z=>e z.symm)]
   rw[e1,e1,e1,zeZ,zeZ,zeZ]
   have e3:skip i (fun r=>a*u r+b*v r)=fun r=>a*skip i u r+b*skip i v r:=by
    funext r;unfold skip;split<;>rfl
   rw[e3,zcr a b (by omega)]
   grind
theorem zdI{c:Nat->Nat->Rat}{m:Nat}:setc c m (c m)=c:=by
 funext j;unfold setc;split
 ·rename_i h;rw[h]
 ·rfl
def ziz(n:Nat)(c:Nat->Nat->Rat)(p q:Nat):Prop:=∀r,r<n->c p r=c q r
def swapc(c:Nat->Nat->Rat)(p q:Nat):Nat->Nat->Rat:=fun j=>if j=p then c q else if j=q then c p else c j
theorem zjZ{n p q:Nat}(hz:∀c:Nat->Nat->Rat,ziz n c p q->det n c=0)(hp:p<n)(hq:q<n)(hpq:p≠q)(c:Nat->Nat->Rat):det n (swapc c p q)=-det n c:=by
 have two:∀u v:Nat->Rat,det n (setc (setc c p u) q v)=-det n (setc (setc c p v) q u):=fun u v=>by
  have z0:=hz (setc (setc c p fun r=>1*u r+1*v r) q fun r=>1*u r+1*v r) fun r _=>by
   unfold setc;rw[if_neg hpq,if_pos rfl,if_pos rfl]
  have zu:=hz (setc (setc c p u) q u) fun r _=>by unfold setc;rw[if_neg hpq,if_pos rfl,if_pos rfl]
  have zv:=hz (setc (setc c p v) q v) fun r _=>by unfold setc;rw[if_neg hpq,if_pos rfl,if_pos rfl]
  have comm:∀a b:Nat->Rat,setc (setc c p a) q b=setc (setc c q b) p a:=fun a b=>by
   funext j;unfold setc
   by_cases h1:j=q
   ·rw[if_pos h1,if_neg (fun z=>hpq (z.symm.trans h1)),if_pos h1]
   ·rw[if_neg h1]
    by_cases h2:j=p
    ·rw[if_pos h2,if_pos h2]
    ·rw[if_neg h2,if_neg h2,if_neg h1]
  rw[zcr 1 1 hq,comm,zcr 1 1 hp,comm,zcr 1 1 hp,<- comm,<- comm,<- comm,<- comm]at z0
  grind
 have h:=two (c q) (c p)
 have e1:setc (setc c p (c q)) q (c p)=swapc c p q:=by
  funext j;unfold setc swapc
  by_cases h1:j=q
  ·rw[if_pos h1,if_neg (fun z=>hpq (z.symm.trans h1)),if_pos h1]
  ·rw[if_neg h1]
   by_cases h2:j=p
   ·rw[if_pos h2,if_pos h2]
   ·rw[if_neg h2,if_neg h2,if_neg h1]
 have e2:setc (setc c p (c p)) q (c q)=c:=by rw[zdI];exact zdI
 rw[e1,e2]at h
 exact h
theorem skip2{f:Nat->Rat}{i k r:Nat}(h:i<=k):skip k (skip i f) r=skip i (skip (k+1) f) r:=by
 unfold skip
 by_cases h1:r<i
 ·rw[if_pos (by omega),if_pos h1,if_pos h1,if_pos (by omega)]
 ·by_cases h2:r<k
  ·rw[if_pos h2,if_neg h1,if_neg h1,if_pos (by omega)]
  ·rw[if_neg h2,if_neg (by omega),if_neg h1,if_neg (by omega)]
theorem zjp{n:Nat}{c:Nat->Nat->Rat}(h:ziz (n+2) c n (n+1)):det (n+2) c=0:=by
 -- what two rows i,j bring
 let M:Nat->Nat->Rat:=fun i k=>det n (fun j=>skip k (skip i (c j)))
 let G:Nat->Nat->Rat:=fun i j=>if j<i then sgn (n+1+i)*c (n+1) i*(sgn (n+j)*c (n+1) j*M i j)else sgn (n+1+i)*c (n+1) i*(sgn (n+(j-1))*c (n+1) j*M i (j-1))
 have e1:det (n+2) c=sm (n+2) fun i=>sm (n+2) fun j=>if j=i then 0 else G i j:=by
  show sm (n+2) (fun i=>sgn (n+1+i)*c (n+1) i*det (n+1) (fun j=>skip i (c j)))=_
  refine sm_congr fun i hi=>?_
  show sgn (n+1+i)*c (n+1) i*sm (n+1) (fun k=>sgn (n+k)*skip i (c n) k*det n (fun j=>skip k (skip i (c j))))=_
  rw[<- sm_mul,<- zly (n:=n+1) hi]
  refine sm_congr fun k hk=>?_
  show sgn (n+1+i)*c (n+1) i*(sgn (n+k)*skip i (c n) k*M i k)=G i (up i k)
  show _=if up i k<i then sgn (n+1+i)*c (n+1) i*(sgn (n+up i k)*c (n+1) (up i k)*M i (up i k))else sgn (n+1+i)*c (n+1) i*(sgn (n+(up i k-1))*c (n+1) (up i k)*M i (up i k-1))
  rw[zel]
  have hu:up i k<n+2:=by unfold up;split<;>omega
  rw[h _ hu]
  by_cases hk':k<i
  ·have:up i k=k:=by unfold up;rw[if_pos hk']
   rw[this,if_pos hk']
  ·have:up i k=k+1:=by unfold up;rw[if_neg hk']
   rw[this,if_neg (by omega),Nat.add_sub_cancel]
 have anti:∀i j,i<n+2->j<n+2->i<j->G i j=-G j i:=fun i j hi hj hij=>by
  show(if j<i then _ else _)=-(if i<j then _ else _)
  rw[if_neg (by omega),if_pos hij]
  have hM:M i (j-1)=M j i:=det_congr fun l r hl hr=>by
   have:=skip2 (f:=c l) (i:=i) (k:=j-1) (r:=r) (by omega)
   rw[show j-1+1=j by omega]at this
   exact this
  rw[hM]
  have s1:sgn (n+1+i)=-sgn (n+i):=by rw[show n+1+i=n+i+1 by omega];rfl
  have s2:sgn (n+1+j)=sgn (n+(j-1)):=by
   rw[show n+1+j=n+(j-1)+1+1 by omega]
   show - -sgn (n+(j-1))=_
   grind
  rw[s1,s2]
  grind
 have tot:sm (n+2) (fun i=>sm (n+2) fun j=>if j=i then 0 else G i j)=-sm (n+2) (fun i=>sm (n+2) fun j=>if j=i then 0 else G i j):=by
  rw[<- sm_neg]
  rw[sm_swap]
  refine sm_congr fun i hi=>?_
  rw[<- sm_neg]
  refine sm_congr fun j hj=>?_
  by_cases e:i=j
  ·rw[if_pos e,if_pos e.symm];grind
  ·rw[if_neg e,if_neg (fun z=>e z.symm)]
   by_cases hlt:i<j
   ·have:=anti i j hi hj hlt;grind
   ·have:=anti j i hj hi (by omega);grind
 rw[e1]
 grind
theorem zef:∀{n:Nat} {c:Nat->Nat->Rat} {p q:Nat},p<q->q<n->ziz n c p q->det n c=0
 | 0,_,_,_,_,h,_=>by omega
 | n+1,c,p,q,hpq,hq,h=>by
  by_cases e:q=n
  ·subst e
   obtain⟨m,rfl⟩:∃m,q=m+1:=⟨q-1,by omega⟩
   by_cases ep:p=m
   ·subst ep;exact zjp h
   ·-- swap p and m among the first columns
    have sw:det (m+2) (swapc c p m)=-det (m+2) c:=by
     show sm (m+2) _=-sm (m+2) _
     rw[<- sm_neg]
     refine sm_congr fun i hi=>?_
     have e1:swapc c p m (m+1)=c (m+1):=by unfold swapc;rw[if_neg (by omega),if_neg (by omega)]
     have e2:(fun j=>skip i (swapc c p m j))=swapc (fun j=>skip i (c j)) p m:=by
      funext j;unfold swapc;split
      ·rfl
      ·split<;>rfl
     have e3:=zjZ (n:=m+1) (p:=p) (q:=m) (fun c' h'=>zef (by omega) (by omega) h') (by omega) (by omega) ep (fun j=>skip i (c j))
     rw[e1,e2,e3]
     grind
    have z:det (m+2) (swapc c p m)=0:=zjp fun r hr=>by
     have:=h r hr
     unfold swapc
     rw[if_neg (fun z=>ep z.symm),if_pos rfl,if_neg (by omega),if_neg (by omega)]
     exact this
    grind
  ·unfold det
   refine sm_zero fun i hi=>?_
   rw[zef (n:=n) (p:=p) (q:=q) hpq (by omega) fun r hr=>?_]
   ·grind
   ·show skip i (c p) r=skip i (c q) r
    unfold skip
    split
    ·exact h r (by omega)
    ·exact h (r+1) (by omega)
theorem zjW{n:Nat}{c:Nat->Nat->Rat}{p q:Nat}(hp:p<n)(hq:q<n)(hne:p≠q)(h:ziz n c p q):det n c=0:=by
 rcases ybC hne with z | z
 ·exact zef z hq h
 ·exact zef z hp fun r hr=>(h r hr).symm
theorem zom{n:Nat}{c:Nat->Nat->Rat}(h:∀r,r<n->c n r=0)(h1:c n n=1):det (n+1) c=det n c:=by
 show sm (n+1) (fun i=>sgn (n+i)*c n i*det n (fun j=>skip i (c j)))=_
 rw[sm_one (i:=n) (by omega) fun j hj hne=>by rw[h j (by omega)];grind,h1]
 have:det n (fun j=>skip n (c j))=det n c:=det_congr fun j r hj hr=>by unfold skip;rw[if_pos hr]
 rw[this]
 have s:∀k,sgn (k+k)=1:=fun k=>by
  induction k with
  | zero=>rfl
  | succ k ih=>
   rw[show k+1+(k+1)=k+k+1+1 by omega]
   show - -sgn (k+k)=1
   rw[ih];grind
 rw[s];grind
theorem zmw{f:Nat->Rat}{a:Nat}:∀{n:Nat},a+1<n->sm n (fun i=>if i=a then f (a+1)else if i=a+1 then f a else f i)=sm n f
 | 0,h=>by omega
 | n+1,h=>by
  by_cases e:a+1=n
  ·subst e
   show sm a _+_+_=sm a f+f a+f (a+1)
   dsimp only
   rw[if_pos rfl,if_neg (by omega),if_pos rfl,sm_congr (g:=f) fun i hi=>by rw[if_neg (by omega),if_neg (by omega)]]
   grind
  ·show sm n _+_=sm n f+f n
   rw[zmw (by omega)]
   dsimp only
   rw[if_neg (by omega),if_neg (by omega)]
def swapa(c:Nat->Nat->Rat)(a:Nat):Nat->Nat->Rat:=fun j i=>if i=a then c j (a+1)else if i=a+1 then c j a else c j i
theorem zeb:∀{n:Nat} {c:Nat->Nat->Rat} {a:Nat},a+1<n->det n (swapa c a)=-det n c
 | 0,_,_,h=>by omega
 | n+1,c,a,h=>by
  show sm (n+1) (fun i=>sgn (n+i)*swapa c a n i*det n (fun j=>skip i (swapa c a j)))=-sm (n+1) fun i=>sgn (n+i)*c n i*det n (fun j=>skip i (c j))
  rw[<- sm_neg,<- zmw (f:=fun i=>-(sgn (n+i)*c n i*det n (fun j=>skip i (c j)))) h]
  refine sm_congr fun i hi=>?_
  by_cases e1:i=a
  ·subst e1
   rw[if_pos rfl]
   have h1:swapa c i n i=c n (i+1):=by unfold swapa;rw[if_pos rfl]
   have h2:det n (fun j=>skip i (swapa c i j))=det n (fun j=>skip (i+1) (c j)):=det_congr fun j r hj hr=>by
    unfold swapa skip
    (dsimp only;(repeat' split)<;>first | rfl | (exfalso;omega) | (congr 1;omega))
   rw[h1,h2,show n+(i+1)=n+i+1 by omega]
   show _=-(-sgn (n+i)*_*_)
   grind
  ·rw[if_neg e1]
   by_cases e2:i=a+1
   ·subst e2
    rw[if_pos rfl]
    have h1:swapa c a n (a+1)=c n a:=by unfold swapa;rw[if_neg (by omega),if_pos rfl]
    have h2:det n (fun j=>skip (a+1) (swapa c a j))=det n (fun j=>skip a (c j)):=det_congr fun j r hj hr=>by
     unfold swapa skip
     (dsimp only;(repeat' split)<;>first | rfl | (exfalso;omega) | (congr 1;omega))
    rw[h1,h2,show n+(a+1)=n+a+1 by omega]
    show -sgn (n+a)*_*_=_
    grind
   ·rw[if_neg e2]
    have h1:swapa c a n i=c n i:=by unfold swapa;rw[if_neg e1,if_neg e2]
    rw[h1]
    by_cases lt:i<a
    ·obtain⟨b,rfl⟩:∃b,a=b+1:=⟨a-1,by omega⟩
     have h2:(det n fun j=>skip i (swapa c (b+1) j))=det n (swapa (fun j=>skip i (c j)) b):=det_congr fun j r hj hr=>by
      unfold swapa skip
      (dsimp only;(repeat' split)<;>first | rfl | (exfalso;omega) | (congr 1;omega))
     rw[h2,zeb (by omega)]
     grind
    ·have h2:(det n fun j=>skip i (swapa c a j))=det n (swapa (fun j=>skip i (c j)) a):=det_congr fun j r hj hr=>by
      unfold swapa skip
      (dsimp only;(repeat' split)<;>first | rfl | (exfalso;omega) | (congr 1;omega))
     rw[h2,zeb (by omega)]
     grind
theorem zgc:∀(g:Nat) {n:Nat} {c:Nat->Nat->Rat} {p q:Nat},q=p+1+g->q<n->(∀j,j<n->c j p=c j q)->det n c=0
 | 0,n,c,p,q,e,hq,h=>by
  subst e
  have:=zeb (n:=n) (c:=c) (a:=p) (by omega)
  have e2:det n (swapa c p)=det n c:=det_congr fun j r hj hr=>by
   unfold swapa
   by_cases h1:r=p
   ·rw[if_pos h1,h1];exact(h j hj).symm
   ·rw[if_neg h1]
    by_cases h2:r=p+1
    ·rw[if_pos h2,h2];exact h j hj
    ·rw[if_neg h2]
  grind
 | g+1,n,c,p,q,e,hq,h=>by
  have h1:=zeb (n:=n) (c:=c) (a:=q-1) (by omega)
  have h2:=zgc g (n:=n) (c:=swapa c (q-1)) (p:=p) (q:=q-1) (by omega) (by omega) fun j hj=>by
   unfold swapa
   rw[if_neg (by omega),if_neg (by omega),if_pos rfl,show q-1+1=q by omega]
   exact h j hj
  grind
theorem zeL{n:Nat}{c:Nat->Nat->Rat}{p q:Nat}(hp:p<n)(hq:q<n)(hne:p≠q)(h:∀j,j<n->c j p=c j q):det n c=0:=by
 rcases ybC hne with z | z
 ·exact zgc (q-p-1) (by omega) hq h
 ·exact zgc (p-q-1) (by omega) hp fun j hj=>(h j hj).symm
def setr(c:Nat->Nat->Rat)(r:Nat)(w:Nat->Rat):Nat->Nat->Rat:=fun j i=>if i=r then w j else c j i
theorem zd1(a b:Rat):∀{n:Nat} {c:Nat->Nat->Rat} {r:Nat} {u v:Nat->Rat},r<n->det n (setr c r fun j=>a*u j+b*v j)=a*det n (setr c r u)+b*det n (setr c r v)
 | 0,_,_,_,_,h=>by omega
 | n+1,c,r,u,v,h=>by
  unfold det
  rw[<- sm_lin]
  refine sm_congr fun i hi=>?_
  by_cases e:i=r
  ·subst e
   have e1:∀w:Nat->Rat,setr c i w n i=w n:=fun w=>by unfold setr;rw[if_pos rfl]
   have e2:∀w:Nat->Rat,det n (fun j=>skip i (setr c i w j))=det n (fun j=>skip i (c j)):=fun w=>det_congr fun j r hj hr=>by
    unfold setr skip
    (dsimp only;(repeat' split)<;>first | rfl | (exfalso;omega) | (congr 1;omega))
   rw[e1,e1,e1,e2,e2,e2]
   grind
  ·have e1:∀w:Nat->Rat,setr c r w n i=c n i:=fun w=>by unfold setr;rw[if_neg e]
   have e2:∀w:Nat->Rat,det n (fun j=>skip i (setr c r w j))=det n (setr (fun j=>skip i (c j)) (if r<i then r else r-1) w):=fun w=>det_congr fun j k hj hk=>by
    unfold setr skip
    (dsimp only;(repeat' split)<;>first | rfl | (exfalso;omega) | (congr 1;omega))
   rw[e1,e1,e1,e2,e2,e2,zd1 a b (by split<;>omega)]
   grind
def IsI(x:Rat):Prop:=∃z:Int,x=(z:Rat)
theorem IsI.add{x y:Rat}(h:IsI x)(h':IsI y):IsI (x+y):=by
 obtain⟨a,rfl⟩:=h;obtain⟨b,rfl⟩:=h';exact⟨a+b,by rw[yS]⟩
theorem IsI.mul{x y:Rat}(h:IsI x)(h':IsI y):IsI (x*y):=by
 obtain⟨a,rfl⟩:=h;obtain⟨b,rfl⟩:=h';exact⟨a*b,by rw[yu]⟩
theorem IsI.sm{f:Nat->Rat}:∀{n:Nat},(∀i,i<n->IsI (f i))->IsI (sm n f)
 | 0,_=>⟨0,rfl⟩
 | n+1,h=>(IsI.sm fun i hi=>h i (by omega)).add (h n (by omega))
theorem IsI.sgn:∀n,IsI (sgn n)
 | 0=>⟨1,rfl⟩
 | n+1=>by
  obtain⟨z,e⟩:=IsI.sgn n
  exact⟨-z,by show -Dt.sgn n=_;rw[e,yaJ]⟩
theorem IsI.det:∀{n:Nat} {c:Nat->Nat->Rat},(∀j r,j<n->r<n->IsI (c j r))->IsI (det n c)
 | 0,_,_=>⟨1,rfl⟩
 | n+1,c,h=>by
  refine IsI.sm fun i hi=>((IsI.sgn _).mul (h n i (by omega) hi)).mul (IsI.det fun j r hj hr=>?_)
  unfold skip
  split
  ·exact h j r (by omega) (by omega)
  ·exact h j (r+1) (by omega) (by omega)
end Dt
namespace Dt
theorem zfG{n i:Nat}{c:Nat->Nat->Rat}(hi:i<n){a:Nat->Rat}{u:Nat->Nat->Rat}:∀K:Nat,det n (setc c i fun r=>sm K fun m=>a m*u m r)=sm K fun m=>a m*det n (setc c i (u m))
 | 0=>by
  have:=zcr (n:=n) (m:=i) (c:=c) (u:=fun _=>0) (v:=fun _=>0) 0 0 hi
  have e:(fun r:Nat=>(0:Rat)*0+0*0)=fun r=>sm 0 fun m=>a m*u m r:=by funext r;show _=(0:Rat);grind
  rw[e]at this
  rw[this]
  show _=(0:Rat)
  grind
 | K+1=>by
  have e:(fun r=>sm (K+1) fun m=>a m*u m r)=fun r=>1*(sm K fun m=>a m*u m r)+a K*u K r:=by
   funext r
   show sm K (fun m=>a m*u m r)+a K*u K r=_
   grind
  rw[e,zcr 1 (a K) hi,zfG hi K]
  show _=sm K (fun m=>a m*det n (setc c i (u m)))+a K*det n (setc c i (u K))
  grind
theorem zgL{n i:Nat}{c:Nat->Nat->Rat}(hi:i<n){a:Nat->Rat}:det n (setc c i fun r=>sm n fun m=>a m*c m r)=a i*det n c:=by
 rw[zfG hi,sm_one hi fun m hm hne=>?_]
 ·rw[zdI]
 ·rw[zjW hm hi hne fun r _=>?_]
  ·grind
  ·unfold setc;rw[if_neg hne,if_pos rfl]
def cl(A:Nat->Nat->Rat):Nat->Nat->Rat:=fun j r=>A r j
set_option genInjectivity false in
set_option genSizeOf false in
structure Bar(n k:Nat)(A T:Nat->Nat->Rat)(d:Rat):Prop where
 d0:d≠0
 dd:d=det k (cl A)
 id1:∀i m,i<k->m<k->T i m=if i=m then d else 0
 id2:∀i m,k<=i->i<n->m<k->T i m=0
 rel:∀l j,l<n->j<=n->d*A l j=sm k (fun m=>A l m*T m j)+(if k<=l then T l j else 0)
section
variable {n k:Nat}{A T:Nat->Nat->Rat}{d:Rat}
theorem bar_start:Bar n 0 A A 1:=⟨by decide,rfl,fun i m h=>by omega,fun i m _ _ h=>by omega,fun l j _ _=>by
 rw[if_pos (yF _)]
 show _=(0:Rat)+A l j
 grind⟩
theorem Bar.top(b:Bar n k A T d)(hk:k<=n){i j:Nat}(hi:i<k)(hj:j<=n):T i j=det k (setc (cl A) i fun r=>A r j):=by
 have h1:=zgL (n:=k) (i:=i) (c:=cl A) hi (a:=fun m=>T m j)
 have h2:det k (setc (cl A) i fun r=>sm k fun m=>T m j*cl A m r)=det k (setc (cl A) i fun r=>d*A r j+0*A r j):=det_congr fun q r hq hr=>by
  unfold setc
  split
  ·have:=b.rel r j (by omega) hj
   rw[if_neg (by omega)]at this
   have e:sm k (fun m=>T m j*cl A m r)=sm k (fun m=>A r m*T m j):=sm_congr fun m _=>by unfold cl;grind
   dsimp only
   rw[e];grind
  ·rfl
 rw[h1,<- b.dd,zcr d 0 hi]at h2
 have:=b.d0
 grind
def bor(A:Nat->Nat->Rat)(k i j:Nat):Nat->Nat->Rat:=fun q r=>A (if r<k then r else i) (if q<k then q else j)
theorem Bar.bot(b:Bar n k A T d){i j:Nat}(hi:k<=i)(hin:i<n)(hj:j<=n):T i j=det (k+1) (bor A k i j):=by
 let C:=bor A k i j
 let e:Nat->Rat:=fun r=>if r=k then 1 else 0
 have hcol:∀r,r<k+1->d*C k r=(sm k fun m=>T m j*C m r)+T i j*e r:=fun r hr=>by
  show d*A (if r<k then r else i) (if k<k then k else j)=(sm k fun m=>T m j*A (if r<k then r else i) (if m<k then m else j))+T i j*(if r=k then 1 else 0)
  rw[if_neg (show ¬k<k by omega),sm_congr (g:=fun m=>A (if r<k then r else i) m*T m j) fun m hm=>by rw[if_pos hm];grind]
  by_cases h:r<k
  ·rw[if_pos h,if_neg (by omega)]
   have:=b.rel r j (by omega) hj
   rw[if_neg (by omega)]at this
   grind
  ·rw[if_neg h,if_pos (by omega)]
   have:=b.rel i j hin hj
   rw[if_pos hi]at this
   grind
 have h1:d*det (k+1) C=det (k+1) (setc C k fun r=>d*C k r+0*C k r):=by
  rw[zcr d 0 (by omega),zdI];grind
 have h2:det (k+1) (setc C k fun r=>d*C k r+0*C k r)=det (k+1) (setc C k fun r=>1*(sm k fun m=>T m j*C m r)+T i j*e r):=det_congr fun q r hq hr=>by
  unfold setc
  split
  ·have:=hcol r hr
   grind
  ·rfl
 have h3:det (k+1) (setc C k fun r=>sm k fun m=>T m j*C m r)=0:=by
  rw[zfG (by omega)]
  refine sm_zero fun m hm=>?_
  rw[zjW (p:=m) (q:=k) (by omega) (by omega) (by omega) fun r _=>by unfold setc;rw[if_neg (by omega),if_pos rfl]]
  grind
 have h4:det (k+1) (setc C k e)=d:=by
  have u1:∀r,r<k->setc C k e k r=0:=fun r hr=>by unfold setc;rw[if_pos rfl];show(if r=k then(1:Rat)else 0)=0;rw[if_neg (by omega)]
  have u2:setc C k e k k=1:=by unfold setc;rw[if_pos rfl];show(if k=k then(1:Rat)else 0)=1;rw[if_pos rfl]
  rw[zom u1 u2,b.dd]
  refine det_congr fun q r hq hr=>?_
  unfold setc
  rw[if_neg (by omega)]
  show A (if r<k then r else i) (if q<k then q else j)=cl A q r
  rw[if_pos hr,if_pos hq];rfl
 rw[h2,zcr 1 (T i j) (by omega),h3,h4]at h1
 have:=b.d0
 show T i j=det (k+1) C
 grind
theorem Bar.whole(b:Bar n k A T d)(hk:k<=n)(hA:∀l j,l<n->j<=n->IsI (A l j)){i j:Nat}(hi:i<n)(hj:j<=n):IsI (T i j):=by
 by_cases h:i<k
 ·rw[b.top hk h hj]
  refine IsI.det fun q r hq hr=>?_
  unfold setc
  split
  ·exact hA r j (by omega) hj
  ·exact hA r q (by omega) (by omega)
 ·rw[b.bot (by omega) hi hj]
  refine IsI.det fun q r hq hr=>?_
  show IsI (A (if r<k then r else i) (if q<k then q else j))
  exact hA _ _ (by split<;>omega) (by split<;>omega)
def nxt(T:Nat->Nat->Rat)(k:Nat)(d:Rat):Nat->Nat->Rat:=fun i j=>if i=k then T k j else(T k k*T i j-T i k*T k j)/d
theorem Bar.step(b:Bar n k A T d)(hk:k<n)(hp:T k k≠0):Bar n (k+1) A (nxt T k d) (T k k):=by
 have hd:=b.d0
 refine⟨hp,?_,fun i m hi hm=>?_,fun i m hi hin hm=>?_,fun l j hl hj=>?_⟩
 ·rw[b.bot (yg k) hk (yaQ hk)]
  refine det_congr fun q r hq hr=>?_
  show A (if r<k then r else k) (if q<k then q else k)=A r q
  congr 1
  ·split<;>omega
  ·split<;>omega
 ·unfold nxt
  by_cases e:i=k
  ·rw[if_pos e]
   by_cases e2:m=k
   ·rw[e2,if_pos e]
   ·rw[if_neg (fun z=>e2 (z.symm.trans e)),b.id2 k m (yg _) hk (by omega)]
  ·rw[if_neg e]
   by_cases e2:m=k
   ·rw[e2,if_neg e];grind
   ·rw[b.id1 i m (by omega) (by omega),b.id2 k m (yg _) hk (by omega)]
    split<;>grind
 ·unfold nxt
  rw[if_neg (by omega)]
  by_cases e2:m=k
  ·rw[e2];grind
  ·rw[b.id2 i m (by omega) hin (by omega),b.id2 k m (yg _) hk (by omega)];grind
 ·have r1:=b.rel l j hl hj
  have r2:=b.rel l k hl (by omega)
  have e1:sm (k+1) (fun m=>A l m*nxt T k d m j)=sm k (fun m=>(T k k/d)*(A l m*T m j)+(-(T k j/d))*(A l m*T m k))+A l k*T k j:=by
   show sm k (fun m=>A l m*nxt T k d m j)+A l k*nxt T k d k j=_
   congr 1
   ·refine sm_congr fun m hm=>?_
    unfold nxt
    rw[if_neg (by omega)]
    grind
   ·unfold nxt;rw[if_pos rfl]
  rw[e1,sm_lin]
  by_cases hlk:l<k
  ·rw[if_neg (by omega)]at r1 r2 ⊢
   grind
  ·rw[if_pos (by omega)]at r1 r2
   by_cases e:l=k
   ·subst e
    rw[if_neg (by omega)]
    grind
   ·rw[if_pos (by omega)]
    unfold nxt
    rw[if_neg e]
    grind
def swp{α:Type}(T:Nat->α)(a b:Nat):Nat->α:=fun i=>if i=a then T b else if i=b then T a else T i
theorem Bar.swap(b:Bar n k A T d){p q:Nat}(hp:k<=p)(hq:k<=q)(hpn:p<n)(hqn:q<n):Bar n k (swp A p q) (swp T p q) d:=by
 have low:∀{α:Type} (F:Nat->α) i,i<k->swp F p q i=F i:=fun F i hi=>by unfold swp;rw[if_neg (by omega),if_neg (by omega)]
 have at':∀i,∃i',(i'<n↔i<n)/\(k<=i'↔k<=i)/\swp A p q i=A i'/\swp T p q i=T i':=fun i=>by
  by_cases e:i=p
  ·exact⟨q,by omega,by omega,by unfold swp;rw[if_pos e],by unfold swp;rw[if_pos e]⟩
  ·by_cases e2:i=q
   ·exact⟨p,by omega,by omega,by unfold swp;rw[if_neg e,if_pos e2],by unfold swp;rw[if_neg e,if_pos e2]⟩
   ·exact⟨i,Iff.rfl,Iff.rfl,by unfold swp;rw[if_neg e,if_neg e2],by unfold swp;rw[if_neg e,if_neg e2]⟩
 refine⟨b.d0,?_,fun i m hi hm=>?_,fun i m hi hin hm=>?_,fun l j hl hj=>?_⟩
 ·rw[b.dd]
  refine det_congr fun j r hj hr=>?_
  show A r j=swp A p q r j
  rw[low A r hr]
 ·rw[low T i hi];exact b.id1 i m hi hm
 ·obtain⟨i',h1,h2,_,h4⟩:=at' i
  rw[h4];exact b.id2 i' m (h2.mpr hi) (h1.mpr hin) hm
 ·obtain⟨l',h1,h2,h3,h4⟩:=at' l
  rw[h3,h4,b.rel l' j (h1.mpr hl) hj,sm_congr (g:=fun m=>A l' m*swp T p q m j) fun m hm=>by rw[low T m hm]]
  congr 1
  by_cases z:k<=l
  ·rw[if_pos z,if_pos (h2.mpr z)]
  ·rw[if_neg z,if_neg (fun y=>z (h2.mp y))]
theorem Bar.stuck(b:Bar n k A T d)(hk:k<n)(h:∀i,k<=i->i<n->T i k=0):det n (cl A)=0:=by
 have h1:d*det n (cl A)=det n (setc (cl A) k fun r=>d*cl A k r+0*cl A k r):=by
  rw[zcr d 0 hk,zdI];grind
 have h2:det n (setc (cl A) k fun r=>d*cl A k r+0*cl A k r)=det n (setc (cl A) k fun r=>sm k fun m=>T m k*cl A m r):=det_congr fun q r hq hr=>by
  unfold setc
  split
  ·have:=b.rel r k hr (by omega)
   have e:(if k<=r then T r k else 0)=0:=by
    split
    ·rename_i z;exact h r z hr
    ·rfl
   rw[e]at this
   have e2:sm k (fun m=>T m k*cl A m r)=sm k (fun m=>A r m*T m k):=sm_congr fun m _=>by unfold cl;grind
   dsimp only
   rw[e2]
   show d*A r k+0*A r k=_
   grind
  ·rfl
 have h3:det n (setc (cl A) k fun r=>sm k fun m=>T m k*cl A m r)=0:=by
  rw[zfG hk]
  refine sm_zero fun m hm=>?_
  rw[zjW (p:=m) (q:=k) (by omega) hk (by omega) fun r _=>by unfold setc;rw[if_neg (by omega),if_pos rfl]]
  grind
 have:=b.d0
 rw[h2,h3]at h1
 grind
theorem Bar.meets(b:Bar n n A T d){l:Nat}(hl:l<n):sm n (fun m=>A l m*(T m n/d))=A l n:=by
 have h:=b.rel l n hl (yg _)
 rw[if_neg (by omega)]at h
 have hd:=b.d0
 have e:sm n (fun m=>A l m*(T m n/d))=(1/d)*sm n (fun m=>A l m*T m n):=by
  rw[<- sm_mul]
  exact sm_congr fun m _=>by grind
 rw[e]
 grind
end
theorem zmq{n p q:Nat}(hp:p<n)(hq:q<n)(hpq:p≠q)(A:Nat->Nat->Rat):det n (cl (swp A p q))=-det n (cl A):=by
 have two:∀u v:Nat->Rat,det n (setr (setr (cl A) p u) q v)=-det n (setr (setr (cl A) p v) q u):=fun u v=>by
  have z0:=zeL (c:=setr (setr (cl A) p fun r=>1*u r+1*v r) q fun r=>1*u r+1*v r) hp hq hpq fun j _=>by
   unfold setr;rw[if_neg hpq,if_pos rfl,if_pos rfl]
  have zu:=zeL (c:=setr (setr (cl A) p u) q u) hp hq hpq fun j _=>by unfold setr;rw[if_neg hpq,if_pos rfl,if_pos rfl]
  have zv:=zeL (c:=setr (setr (cl A) p v) q v) hp hq hpq fun j _=>by unfold setr;rw[if_neg hpq,if_pos rfl,if_pos rfl]
  have comm:∀a b:Nat->Rat,setr (setr (cl A) p a) q b=setr (setr (cl A) q b) p a:=fun a b=>by
   funext j i;unfold setr
   by_cases h1:i=q
   ·rw[if_pos h1,if_neg (fun z=>hpq (z.symm.trans h1)),if_pos h1]
   ·rw[if_neg h1]
    by_cases h2:i=p
    ·rw[if_pos h2,if_pos h2]
    ·rw[if_neg h2,if_neg h2,if_neg h1]
  rw[zd1 1 1 hq,comm,zd1 1 1 hp,comm,zd1 1 1 hp,<- comm,<- comm,<- comm,<- comm]at z0
  grind
 have h:=two (A q) (A p)
 have e1:setr (setr (cl A) p (A q)) q (A p)=cl (swp A p q):=by
  funext j i;unfold setr cl swp
  by_cases h1:i=q
  ·rw[if_pos h1,if_neg (fun z=>hpq (z.symm.trans h1)),if_pos h1]
  ·rw[if_neg h1]
   by_cases h2:i=p
   ·rw[if_pos h2,if_pos h2]
   ·rw[if_neg h2,if_neg h2,if_neg h1]
 have e2:setr (setr (cl A) p (A p)) q (A q)=cl A:=by
  funext j i;unfold setr cl
  by_cases h1:i=q
  ·rw[if_pos h1,h1]
  ·rw[if_neg h1]
   by_cases h2:i=p
   ·rw[if_pos h2,h2]
   ·rw[if_neg h2]
 rw[e1,e2]at h
 exact h
end Dt
namespace Dt
def Bd(b x:Rat):Prop:=-b<=x/\x<=b
theorem Bd.nn{b x:Rat}(h:Bd b x):0<=b:=by have:=h.1;have:=h.2;grind
theorem Bd.mul{a b x y:Rat}(h:Bd a x)(h':Bd b y):Bd (a*b) (x*y):=by
 have p1:0<=(a-x)*(b+y):=yB (by have:=h.2;grind) (by have:=h'.1;grind)
 have p2:0<=(a+x)*(b-y):=yB (by have:=h.1;grind) (by have:=h'.2;grind)
 have p3:0<=(a-x)*(b-y):=yB (by have:=h.2;grind) (by have:=h'.2;grind)
 have p4:0<=(a+x)*(b+y):=yB (by have:=h.1;grind) (by have:=h'.1;grind)
 constructor<;>grind
theorem Bd.add{a b x y:Rat}(h:Bd a x)(h':Bd b y):Bd (a+b) (x+y):=by
 have:=h.1;have:=h.2;have:=h'.1;have:=h'.2
 constructor<;>grind
theorem Bd.sm{b:Rat}{f:Nat->Rat}:∀{n:Nat},(∀i,i<n->Bd b (f i))->Bd ((n:Nat)*b) (sm n f)
 | 0,_=>by
  show Bd _ (0:Rat)
  have:((0:Nat):Rat)=0:=rfl
  rw[this]
  constructor<;>grind
 | n+1,h=>by
  have h1:=(Bd.sm (n:=n) fun i hi=>h i (by omega)).add (h n (by omega))
  have e:(((n+1:Nat):Rat))*b=(n:Nat)*b+b:=by
   have:((n+1:Nat):Rat)=(n:Nat)+1:=by push_cast;rfl
   rw[this];grind
  rw[e]
  exact h1
theorem Bd.sgn:∀n,Bd 1 (sgn n)
 | 0=>by unfold Dt.sgn;constructor<;>grind
 | n+1=>by
  have:=Bd.sgn n
  have:=this.1;have:=(Bd.sgn n).2
  unfold Dt.sgn;constructor<;>grind
def dN(M:Nat):Nat->Nat
 | 0=>1
 | n+1=>(n+1)*(M*dN M n)
theorem Bd.det{M:Nat}:∀{n:Nat} {c:Nat->Nat->Rat},(∀j r,j<n->r<n->Bd (M:Nat) (c j r))->Bd ((dN M n:Nat):Rat) (det n c)
 | 0,_,_=>by
  unfold Dt.det dN
  have:((1:Nat):Rat)=1:=rfl
  rw[this]
  constructor<;>grind
 | n+1,c,h=>by
  have key:Bd ((n+1:Nat)*((M:Nat)*((dN M n:Nat):Rat))) (Dt.det (n+1) c):=by
   unfold Dt.det
   refine Bd.sm fun i hi=>?_
   have h1:=((Bd.sgn (n+i)).mul (h n i (by omega) hi)).mul (Bd.det (M:=M) (n:=n) (c:=fun j=>skip i (c j)) fun j r hj hr=>?_)
   ·have e:1*(M:Rat)*((dN M n:Nat):Rat)=(M:Rat)*((dN M n:Nat):Rat):=by grind
    rw[e]at h1
    exact h1
   ·unfold skip
    split
    ·exact h j r (by omega) (by omega)
    ·exact h j (r+1) (by omega) (by omega)
  have e:((dN M (n+1):Nat):Rat)=(n+1:Nat)*((M:Nat)*((dN M n:Nat):Rat)):=by
   show(((n+1)*(M*dN M n):Nat):Rat)=_
   push_cast
   rfl
  rw[e]
  exact key
theorem zl8{z:Nat}:∀n,n<=15->dN (2 ^ z) n<=2 ^ (n*(z+4))
 | 0,_=>by show 1<=2 ^ (0*(z+4));rw[Nat.zero_mul];exact yg _
 | n+1,h=>by
  have ih:=zl8 (z:=z) n (by omega)
  show(n+1)*(2 ^ z*dN (2 ^ z) n)<=_
  have h1:(n+1)<=2 ^ 4:=by omega
  have h2:2 ^ z*dN (2 ^ z) n<=2 ^ z*2 ^ (n*(z+4)):=yar _ ih
  have h3:=yaP h1 h2
  have e:2 ^ 4*(2 ^ z*2 ^ (n*(z+4)))=2 ^ ((n+1)*(z+4)):=by
   rw[<- ya0,<- ya0]
   congr 1
   rw[Nat.add_mul];omega
  rw[e]at h3
  exact h3
theorem Bd.mono{a b:Nat}{x:Rat}(h:Bd (a:Nat) x)(hab:a<=b):Bd (b:Nat) x:=by
 have h1:((a:Nat):Rat)<=((b:Nat):Rat):=by exact_mod_cast hab
 have:=h.1;have:=h.2
 constructor<;>grind
theorem Bar.sz{n k z:Nat}{A T:Nat->Nat->Rat}{d:Rat}(b:Bar n k A T d)(hk:k<=n)(hn:n<=15)(hA:∀l j,l<n->j<=n->Bd ((2 ^ z:Nat):Rat) (A l j)){i j:Nat}(hi:i<n)(hj:j<=n):Bd ((2 ^ (n*(z+4)):Nat):Rat) (T i j):=by
 have up:∀s,s<=n->dN (2 ^ z) s<=2 ^ (n*(z+4)):=fun s hs=>yc (zl8 s (by omega)) (yaO (by decide) (Nat.mul_le_mul_right _ hs))
 by_cases h:i<k
 ·rw[b.top hk h hj]
  refine(Bd.det fun q r hq hr=>?_).mono (up k hk)
  unfold setc
  split
  ·exact hA r j (by omega) hj
  ·exact hA r q (by omega) (by omega)
 ·rw[b.bot (by omega) hi hj]
  refine(Bd.det fun q r hq hr=>?_).mono (up (k+1) (by omega))
  show Bd _ (A (if r<k then r else i) (if q<k then q else j))
  exact hA _ _ (by split<;>omega) (by split<;>omega)
theorem Bar.congr{n k:Nat}{A T T':Nat->Nat->Rat}{d:Rat}(b:Bar n k A T d)(hk:k<=n)(h:∀i j,i<n->j<=n->T' i j=T i j):Bar n k A T' d:=
 ⟨b.d0,b.dd,fun i m hi hm=>by rw[h i m (by omega) (by omega)];exact b.id1 i m hi hm,fun i m hi hin hm=>by rw[h i m hin (by omega)];exact b.id2 i m hi hin hm,fun l j hl hj=>by
  rw[b.rel l j hl hj,sm_congr (g:=fun m=>A l m*T' m j) fun m hm=>by rw[h m j (by omega) hj]]
  congr 1
  split
  ·rw[h l j hl hj]
  ·rfl⟩
def castM(F:Nat->Nat->Int):Nat->Nat->Rat:=fun i j=>((F i j:Int):Rat)
def nxtI(T:Nat->Nat->Int)(k:Nat)(d:Int):Nat->Nat->Int:=fun i j=>if i=k then T k j else(T k k*T i j-T i k*T k j).fdiv d
theorem Bar.stepI{n k:Nat}{A T:Nat->Nat->Int}{d:Int}(b:Bar n k (castM A) (castM T) ((d:Int):Rat))(hk:k<n)(hp:T k k≠0):Bar n (k+1) (castM A) (castM (nxtI T k d)) ((T k k:Int):Rat)/\∀i j,i<n->j<=n->i≠k->nxtI T k d i j*d=T k k*T i j-T i k*T k j:=by
 have hp':castM T k k≠0:=fun z=>hp (by have:((T k k:Int):Rat)=((0:Int):Rat):=z;exact_mod_cast this)
 have s:=b.step hk hp'
 have hd0:d≠0:=fun z=>b.d0 (by rw[z];rfl)
 have ev:∀i j,i<n->j<=n->i≠k->nxtI T k d i j*d=T k k*T i j-T i k*T k j/\((nxtI T k d i j:Int):Rat)=nxt (castM T) k d i j:=fun i j hi hj hne=>by
  obtain⟨z,hz⟩:=s.whole (by omega) (fun l j _ _=>⟨A l j,rfl⟩) hi hj
  have e1:nxt (castM T) k ((d:Int):Rat) i j=(castM T k k*castM T i j-castM T i k*castM T k j)/((d:Int):Rat):=by unfold nxt;rw[if_neg hne]
  have e2:T k k*T i j-T i k*T k j=z*d:=by
   have h1:castM T k k*castM T i j-castM T i k*castM T k j=((z:Int):Rat)*((d:Int):Rat):=by
    rw[e1]at hz
    have:=b.d0
    grind
   have h2:((T k k*T i j-T i k*T k j:Int):Rat)=((z*d:Int):Rat):=by
    rw[ybT,yu,yu,yu]
    exact h1
   exact_mod_cast h2
  have e3:nxtI T k d i j=z:=by
   unfold nxtI
   rw[if_neg hne,e2,Int.mul_fdiv_cancel _ hd0]
  exact⟨by rw[e3,e2],by rw[e3,hz]⟩
 refine⟨s.congr (by omega) fun i j hi hj=>?_,fun i j hi hj hne=>(ev i j hi hj hne).1⟩
 by_cases e:i=k
 ·show((nxtI T k d i j:Int):Rat)=_
  unfold nxtI nxt
  rw[if_pos e,if_pos e];rfl
 ·exact(ev i j hi hj e).2
set_option genInjectivity false in
set_option genSizeOf false in
structure Eqv(n:Nat)(A B:Nat->Nat->Rat):Prop where
 dt:det n (cl A)=0↔det n (cl B)=0
 an:∀x:Nat->Rat,(∀l,l<n->sm n (fun m=>A l m*x m)=A l n)↔∀l,l<n->sm n (fun m=>B l m*x m)=B l n
theorem Eqv.refl(n:Nat)(A:Nat->Nat->Rat):Eqv n A A:=⟨Iff.rfl,fun _=>Iff.rfl⟩
theorem Eqv.trans{n:Nat}{A B C:Nat->Nat->Rat}(h:Eqv n A B)(h':Eqv n B C):Eqv n A C:=⟨h.dt.trans h'.dt,fun x=>(h.an x).trans (h'.an x)⟩
theorem swp_at{α:Type}{n p q:Nat}(hp:p<n)(hq:q<n)(F:Nat->α)(l:Nat)(hl:l<n):∃l',l'<n/\swp F p q l=F l':=by
 unfold swp
 by_cases e:l=p
 ·exact⟨q,hq,by rw[if_pos e]⟩
 ·by_cases e2:l=q
  ·exact⟨p,hp,by rw[if_neg e,if_pos e2]⟩
  ·exact⟨l,hl,by rw[if_neg e,if_neg e2]⟩
theorem zow{α:Type}{n p q:Nat}(hp:p<n)(hq:q<n)(F:Nat->α)(l:Nat)(hl:l<n):∃l',l'<n/\swp F p q l'=F l:=by
 unfold swp
 by_cases e:l=p
 ·refine⟨q,hq,?_⟩
  by_cases e2:q=p
  ·rw[if_pos e2,e,e2]
  ·rw[if_neg e2,if_pos rfl,e]
 ·by_cases e2:l=q
  ·exact⟨p,hp,by rw[if_pos rfl,e2]⟩
  ·exact⟨l,hl,by rw[if_neg e,if_neg e2]⟩
theorem Eqv.swap{n p q:Nat}(hp:p<n)(hq:q<n)(A:Nat->Nat->Rat):Eqv n A (swp A p q):=by
 refine⟨?_,fun x=>⟨fun h l hl=>?_,fun h l hl=>?_⟩⟩
 ·by_cases e:p=q
  ·subst e
   have:swp A p p=A:=by
    funext i;unfold swp
    by_cases h:i=p
    ·rw[if_pos h,h]
    ·rw[if_neg h,if_neg h]
   rw[this]
  ·rw[zmq hp hq e A]
   constructor<;>intro h<;>grind
 ·obtain⟨l',h1,h2⟩:=swp_at hp hq A l hl
  rw[h2];exact h l' h1
 ·obtain⟨l',h1,h2⟩:=zow hp hq A l hl
  have:=h l' h1
  rw[h2]at this;exact this
theorem det_scale{n:Nat}{R:Nat->Nat->Rat}{L:Nat->Rat}(hL:∀l,l<n->L l≠0):det n (cl R)=0↔det n (cl fun l j=>L l*R l j)=0:=by
 have key:∀k,k<=n->(det n (cl R)=0↔det n (cl fun l j=>(if l<k then L l else 1)*R l j)=0):=by
  intro k
  induction k with
  | zero=>
   intro _
   have:det n (cl fun l j=>(if l<0 then L l else 1)*R l j)=det n (cl R):=det_congr fun j r _ _=>by
    show(if r<0 then L r else 1)*R r j=R r j
    rw[if_neg (by omega)];grind
   rw[this]
  | succ k ih=>
   intro hk
   rw[ih (by omega)]
   have e:det n (cl fun l j=>(if l<k+1 then L l else 1)*R l j)=det n (setr (cl fun l j=>(if l<k then L l else 1)*R l j) k fun j=>L k*(R k j)+0*R k j):=det_congr fun j r _ _=>by
    unfold setr
    show(if r<k+1 then L r else 1)*R r j=if r=k then _ else(if r<k then L r else 1)*R r j
    by_cases h:r=k
    ·rw[if_pos h,if_pos (by omega),h];grind
    ·rw[if_neg h]
     by_cases h2:r<k
     ·rw[if_pos h2,if_pos (by omega)]
     ·rw[if_neg h2,if_neg (by omega)]
   have e2:det n (setr (cl fun l j=>(if l<k then L l else 1)*R l j) k fun j=>R k j)=det n (cl fun l j=>(if l<k then L l else 1)*R l j):=det_congr fun j r _ _=>by
    unfold setr
    by_cases h:r=k
    ·rw[if_pos h]
     show R k j=(if r<k then L r else 1)*R r j
     rw[if_neg (by omega),h];grind
    ·rw[if_neg h]
   rw[e,zd1 (L k) 0 (by omega),e2]
   have:=hL k (by omega)
   constructor<;>intro h<;>grind
 have h:=key n (yg _)
 have e:det n (cl fun l j=>(if l<n then L l else 1)*R l j)=det n (cl fun l j=>L l*R l j):=det_congr fun j r _ hr=>by
  show(if r<n then L r else 1)*R r j=L r*R r j
  rw[if_pos hr]
 rw[e]at h
 exact h
theorem meets_scale{n:Nat}{R:Nat->Nat->Rat}{L:Nat->Rat}(hL:∀l,l<n->L l≠0)(x:Nat->Rat):(∀l,l<n->sm n (fun m=>R l m*x m)=R l n)↔∀l,l<n->sm n (fun m=>(L l*R l m)*x m)=L l*R l n:=by
 constructor
 ·intro h l hl
  rw[<- h l hl,<- sm_mul]
  exact sm_congr fun m _=>by grind
 ·intro h l hl
  have h1:=h l hl
  have e:sm n (fun m=>L l*R l m*x m)=L l*sm n (fun m=>R l m*x m):=by rw[<- sm_mul];exact sm_congr fun m _=>by grind
  rw[e]at h1
  have:=hL l hl
  grind
end Dt
namespace Dt
theorem zmE{f:Nat->Rat}{k:Nat}:∀{n:Nat},k<=n->(∀m,k<=m->m<n->f m=0)->sm n f=sm k f
 | 0,h,_=>by rw[show k=0 by omega]
 | n+1,h,hz=>by
  rcases yI h with g | g
  ·show sm n f+f n=sm k f
   rw[zmE (n:=n) (by omega) fun m h1 h2=>hz m h1 (by omega),hz n (by omega) (by omega)];grind
  ·rw[g]
theorem zlg{n k:Nat}{A T:Nat->Nat->Rat}{d:Rat}(b:Bar n k A T d)(hk:k<n)(h:∀i,k<=i->i<n->T i k=0):∃x:Nat->Rat,(∃m,m<n/\x m≠0)/\∀l,l<n->sm n (fun m=>A l m*x m)=0:=by
 refine⟨fun m=>if m<k then -T m k else if m=k then d else 0,⟨k,hk,by dsimp only;rw[if_neg (by omega),if_pos rfl];exact b.d0⟩,fun l hl=>?_⟩
 rw[zmE (k:=k+1) (by omega) fun m h1 h2=>by dsimp only;rw[if_neg (by omega),if_neg (by omega)];grind]
 show sm k (fun m=>A l m*if m<k then -T m k else if m=k then d else 0)+A l k*(if k<k then -T k k else if k=k then d else 0)=0
 rw[if_neg (yaa _),if_pos rfl]
 have e:sm k (fun m=>A l m*if m<k then -T m k else if m=k then d else 0)=-sm k (fun m=>A l m*T m k):=by
  rw[<- sm_neg]
  exact sm_congr fun m hm=>by rw[if_pos hm];grind
 have r:=b.rel l k hl (by omega)
 have z:(if k<=l then T l k else 0)=0:=by
  split
  ·rename_i g;exact h l g hl
  ·rfl
 rw[z]at r
 rw[e]
 grind
theorem null_of_det{n:Nat}{A:Nat->Nat->Rat}(h:det n (cl A)=0):∃x:Nat->Rat,(∃m,m<n/\x m≠0)/\∀l,l<n->sm n (fun m=>A l m*x m)=0:=by
 obtain⟨A0,hA0⟩:∃A0:Nat->Nat->Rat,A0=fun l j=>if j<n then A l j else 0:=⟨_,rfl⟩
 have hd:det n (cl A0)=0:=by
  rw[<- h]
  exact det_congr fun j r hj _=>by show A0 r j=A r j;rw[hA0];exact if_pos hj
 have hc:∀l,A0 l n=0:=fun l=>by rw[hA0];exact if_neg (yaa _)
 have hm:∀(x:Nat->Rat) (l:Nat),sm n (fun m=>A0 l m*x m)=sm n (fun m=>A l m*x m):=fun x l=>sm_congr fun m hm=>by
  rw[show A0 l m=A l m by rw[hA0];exact if_pos hm]
 have back:∀{B:Nat->Nat->Rat},Eqv n A0 B->(∀l,B l n=0)->(∃x:Nat->Rat,(∃m,m<n/\x m≠0)/\∀l,l<n->sm n (fun m=>B l m*x m)=0)->∃x:Nat->Rat,(∃m,m<n/\x m≠0)/\∀l,l<n->sm n (fun m=>A l m*x m)=0:=fun {B} hE hB ⟨x,hx,hl⟩=>⟨x,hx,fun l hl'=>by
  have:=(hE.an x).mpr (fun l hl'=>by rw[hl l hl',hB l]) l hl'
  rw[hc,hm]at this
  exact this⟩
 have go:∀k,k<=n->(∃x:Nat->Rat,(∃m,m<n/\x m≠0)/\∀l,l<n->sm n (fun m=>A l m*x m)=0)\/∃(B M:Nat->Nat->Rat) (d:Rat),Bar n k B M d/\Eqv n A0 B/\∀l,B l n=0:=by
  intro k
  induction k with
  | zero=>exact fun _=>.inr ⟨A0,A0,1,bar_start,Eqv.refl _ _,hc⟩
  | succ k ih=>
   intro hk
   rcases ih (by omega)with g | ⟨B,M,d,hb,hE,hB⟩
   ·exact .inl g
   rcases yam (∃i,k<=i/\i<n/\M i k≠0) with⟨i,h1,h2,h3⟩ | z
   ·have hb':=hb.swap (p:=k) (q:=i) (yg _) h1 (by omega) h2
    have hp:swp M k i k k≠0:=by unfold swp;rw[if_pos rfl];exact h3
    exact .inr ⟨_,_,_,hb'.step (by omega) hp,hE.trans (Eqv.swap (by omega) h2 B),fun l=>by
     unfold swp
     split
     ·exact hB i
     ·split
      ·exact hB k
      ·exact hB l⟩
   ·refine .inl (back hE hB (zlg hb (by omega) fun i h1 h2=>?_))
    rcases yam (M i k=0)with q | q
    ·exact q
    ·exact absurd ⟨i,h1,h2,q⟩ z
 rcases go n (yg _)with g | ⟨B,M,d,hb,hE,_⟩
 ·exact g
 ·exact absurd (by rw[hb.dd];exact hE.dt.mp hd) hb.d0
theorem zml{f:Nat->Rat}:∀{n:Nat},(∀i,i<n->f i<=0)->sm n f<=0
 | 0,_=>by show(0:Rat)<=0;decide
 | n+1,h=>by
  have h1:=zml (n:=n) fun i hi=>h i (by omega)
  have h2:=h n (by omega)
  show sm n f+f n<=0
  grind
theorem zmB{f:Nat->Rat}{j:Nat}:∀{n:Nat},j<n->(∀i,i<n->f i<=0)->f j<0->sm n f<0
 | n+1,hj,h,hf=>by
  have h2:=h n (by omega)
  show sm n f+f n<0
  rcases yI (yQ hj)with g | g
  ·have:=zmB (n:=n) g (fun i hi=>h i (by omega)) hf
   grind
  ·have:=zml (n:=n) fun i hi=>h i (by omega)
   rw[g]at hf
   grind
theorem sm_ge0{f:Nat->Rat}:∀{n:Nat},(∀i,i<n->0<=f i)->0<=sm n f
 | 0,_=>by show(0:Rat)<=0;decide
 | n+1,h=>by
  have h1:=sm_ge0 (n:=n) fun i hi=>h i (by omega)
  have h2:=h n (by omega)
  show 0<=sm n f+f n
  grind
theorem sm_mono{f g:Nat->Rat}:∀{n:Nat},(∀i,i<n->f i<=g i)->sm n f<=sm n g
 | 0,_=>by show(0:Rat)<=0;decide
 | n+1,h=>by
  have h1:=sm_mono (n:=n) fun i hi=>h i (by omega)
  have h2:=h n (by omega)
  show sm n f+f n<=sm n g+g n
  grind
set_option genInjectivity false in
set_option genSizeOf false in
structure Leak(n:Nat)(f:Nat->Nat->Rat)(r:Nat->Rat):Prop where
 nn:∀j i,j<n->i<n->0<=f j i
 own:∀i,i<n->f i i=0
 le:∀j,j<n->sm n (f j)<=r j
 leak:∀S:Nat->Bool,(∃j,j<n/\S j=true)->∃j,j<n/\S j=true/\sm n (fun i=>if S i then f j i else 0)<r j
theorem Leak.nonneg{n:Nat}{f:Nat->Nat->Rat}{r s:Nat->Rat}(h:Leak n f r)(he:∀i,i<n->0<=r i*s i-sm n (fun j=>f j i*s j)):∀i,i<n->0<=s i:=by
 intro i0 hi0
 rcases yam (0<=s i0)with z | z
 ·exact z
 exfalso
 obtain⟨S,hS⟩:∃S:Nat->Bool,S=fun i=>decide (s i<0):=⟨_,rfl⟩
 have St:∀i,S i=true↔s i<0:=fun i=>by rw[hS];exact decide_eq_true_iff
 obtain⟨j0,hj0,hS0,hl0⟩:=h.leak S ⟨i0,hi0,(St i0).mpr (Rat.not_le.mp z)⟩
 obtain⟨c,hc⟩:∃c:Nat->Rat,c=fun j=>sm n (fun i=>if S i then f j i else 0):=⟨_,rfl⟩
 have c0:∀j,j<n->0<=c j:=fun j hj=>by
  rw[hc]
  refine sm_ge0 fun i hi=>?_
  split
  ·exact h.nn j i hj hi
  ·exact yG
 have c1:∀j,j<n->c j<=r j:=fun j hj=>by
  refine yP ?_ (h.le j hj)
  rw[hc]
  refine sm_mono fun i hi=>?_
  split
  ·exact yG
  ·exact h.nn j i hj hi
 have tot:sm n (fun j=>(if S j then r j*s j else 0)-c j*s j)=sm n (fun i=>if S i then r i*s i-sm n (fun j=>f j i*s j)else 0):=by
  have a1:sm n (fun j=>(if S j then r j*s j else 0)-c j*s j)=sm n (fun j=>1*(if S j then r j*s j else 0)+(-1)*(c j*s j)):=sm_congr fun j _=>by grind
  have a2:sm n (fun i=>if S i then r i*s i-sm n (fun j=>f j i*s j)else 0)=sm n (fun i=>1*(if S i then r i*s i else 0)+(-1)*(if S i then sm n (fun j=>f j i*s j)else 0)):=sm_congr fun i _=>by split<;>grind
  have a3:sm n (fun j=>c j*s j)=sm n (fun i=>if S i then sm n (fun j=>f j i*s j)else 0):=by
   have b1:sm n (fun j=>c j*s j)=sm n (fun j=>sm n fun i=>(if S i then f j i else 0)*s j):=sm_congr fun j _=>by
    rw[hc]
    dsimp only
    rw[show sm n (fun i=>if S i then f j i else 0)*s j=s j*sm n (fun i=>if S i then f j i else 0) by grind,<- sm_mul]
    exact sm_congr fun i _=>by grind
   rw[b1,sm_swap]
   refine sm_congr fun i _=>?_
   by_cases g:S i
   ·rw[if_pos g]
    exact sm_congr fun j _=>by rw[if_pos g]
   ·rw[if_neg g]
    exact sm_zero fun j _=>by rw[if_neg g];grind
  rw[a1,a2,sm_lin,sm_lin,a3]
 have ge:0<=sm n (fun i=>if S i then r i*s i-sm n (fun j=>f j i*s j)else 0):=sm_ge0 fun i hi=>by
  split
  ·exact he i hi
  ·exact yG
 have lt:sm n (fun j=>(if S j then r j*s j else 0)-c j*s j)<0:=by
  refine zmB hj0 (fun j hj=>?_) ?_
  ·have h0:=c0 j hj
   have h1:=c1 j hj
   by_cases g:S j
   ·rw[if_pos g]
    have hs:=(St j).mp g
    have h3:0<=(r j-c j)*(-s j):=yB (by grind) (by grind)
    grind
   ·rw[if_neg g]
    have hs:0<=s j:=yaA.mp fun z=>g ((St j).mpr z)
    have h3:0<=c j*s j:=yB h0 hs
    grind
  ·rw[if_pos hS0]
   have hs:=(St j0).mp hS0
   have h2:c j0<r j0:=by rw[hc];exact hl0
   have h3:0<(r j0-c j0)*(-s j0):=ybm (by grind) (by grind)
   grind
 rw[tot]at lt
 exact absurd ge (Rat.not_le.mpr lt)
def bal(f:Nat->Nat->Rat)(r:Nat->Rat):Nat->Nat->Rat:=fun i j=>if i=j then r i else -f j i
theorem bal_row{n:Nat}{f:Nat->Nat->Rat}{r s:Nat->Rat}{i:Nat}(hi:i<n)(ho:f i i=0):sm n (fun m=>bal f r i m*s m)=r i*s i-sm n (fun j=>f j i*s j):=by
 have e1:sm n (fun m=>bal f r i m*s m)=sm n (fun m=>1*(if m=i then r i*s i else 0)+(-1)*(f m i*s m)):=sm_congr fun m _=>by
  unfold bal
  by_cases g:i=m
  ·rw[if_pos g,if_pos g.symm,<- g,ho];grind
  ·rw[if_neg g,if_neg fun z=>g z.symm];grind
 rw[e1,sm_lin,sm_one hi fun j _ hj=>if_neg hj,if_pos rfl]
 grind
theorem Leak.det{n:Nat}{f:Nat->Nat->Rat}{r:Nat->Rat}(h:Leak n f r):det n (cl (bal f r))≠0:=fun z=>by
 obtain⟨x,⟨m,hm,hx⟩,hn⟩:=null_of_det z
 have e:∀i,i<n->r i*x i-sm n (fun j=>f j i*x j)=0:=fun i hi=>by rw[<- bal_row hi (h.own i hi)];exact hn i hi
 have p1:=h.nonneg (s:=x) (fun i hi=>by rw[e i hi];exact yG) m hm
 have p2:=h.nonneg (s:=fun j=>-x j) (fun i hi=>by
  have e2:sm n (fun j=>f j i * -x j)=-sm n (fun j=>f j i*x j):=by
   rw[<- sm_neg]
   exact sm_congr fun j _=>by grind
  rw[e2]
  have:=e i hi
  grind) m hm
 exact hx (by grind)
end Dt
namespace Dt
def prodN(B:Nat->Rat):Nat->Rat
 | 0=>1
 | n+1=>prodN B n*B n
theorem prodN_nn{B:Nat->Rat}:∀{n:Nat},(∀j,j<n->0<=B j)->0<=prodN B n
 | 0,_=>by show(0:Rat)<=1;decide
 | n+1,h=>yB (prodN_nn fun j hj=>h j (by omega)) (h n (by omega))
theorem Bd.sums{g f:Nat->Rat}:∀{n:Nat},(∀i,i<n->Bd (g i) (f i))->Bd (Dt.sm n g) (Dt.sm n f)
 | 0,_=>⟨by show -(0:Rat)<=0;decide,by show(0:Rat)<=0;decide⟩
 | n+1,h=>Bd.add (Bd.sums fun i hi=>h i (by omega)) (h n (by omega))
theorem Bd.wide{a b x:Rat}(h:Bd a x)(hab:a<=b):Bd b x:=by
 obtain⟨h1,h2⟩:=h
 exact⟨by grind,by grind⟩
theorem zpw{f:Nat->Rat}{n i:Nat}(hi:i<n+1)(hf:∀j,j<n+1->0<=f j):Dt.sm n (skip i f)<=Dt.sm (n+1) f:=by
 have e:Dt.sm n (skip i f)=Dt.sm (n+1) (fun j=>if j=i then 0 else f j):=by
  rw[<- zly hi]
  exact sm_congr fun k _=>zel i f k
 rw[e]
 refine sm_mono fun j hj=>?_
 split
 ·exact hf j hj
 ·exact yG
theorem Bd.det_col{B:Nat->Rat}:∀{n:Nat} {c b:Nat->Nat->Rat},(∀j r,j<n->r<n->Bd (b j r) (c j r))->(∀j,j<n->Dt.sm n (b j)<=B j)->Bd (prodN B n) (Dt.det n c)
 | 0,_,_,_,_=>⟨by show -(1:Rat)<=1;decide,by show(1:Rat)<=1;decide⟩
 | n+1,c,b,hb,hB=>by
  have b0:∀j r,j<n+1->r<n+1->0<=b j r:=fun j r hj hr=>(hb j r hj hr).nn
  have B0:∀j,j<n+1->0<=B j:=fun j hj=>yP (sm_ge0 fun r hr=>b0 j r hj hr) (hB j hj)
  have P0:0<=prodN B n:=prodN_nn fun j hj=>B0 j (by omega)
  have minor:∀i,i<n+1->Bd (prodN B n) (Dt.det n fun j=>skip i (c j)):=fun i hi=>by
   refine Bd.det_col (b:=fun j=>skip i (b j)) (fun j r hj hr=>?_) fun j hj=>?_
   ·rw[zel,zel]
    exact hb j _ (by omega) (by unfold up;split<;>omega)
   ·exact yP (zpw hi fun r hr=>b0 j r (by omega) hr) (hB j (by omega))
  have whole:Bd (Dt.sm (n+1) fun i=>b n i*prodN B n) (Dt.det (n+1) c):=by
   unfold Dt.det
   refine Bd.sums fun i hi=>?_
   have h1:=((Bd.sgn (n+i)).mul (hb n i (by omega) hi)).mul (minor i hi)
   exact h1.wide (by grind)
  refine whole.wide ?_
  have e:(Dt.sm (n+1) fun i=>b n i*prodN B n)=prodN B n*Dt.sm (n+1) (b n):=by
   rw[<- sm_mul]
   exact sm_congr fun i _=>by grind
  rw[e]
  exact yJ (hB n (by omega)) P0
end Dt
namespace Internal
open PySem PySem.Spec PyProof.Rows
section
variable {f:Nat->Int}{q q':Rat}
def zab(f:Nat->Int)(r:Nat):Rat:=((zaD f r:Int):Rat)
theorem zb8(f:Nat->Int)(r:Nat):zab f (r+1)=zab f r+((f r:Int):Rat):=by
 unfold zab
 show((zaD f r+f r:Int):Rat)=_
 rw[yS]
theorem zhP(hf:∀r,r<3->0<=f r):∀(k r:Nat),r+k<=3->zab f r<=zab f (r+k)
 | 0,r,_=>by show zab f r<=zab f r;grind
 | k+1,r,h=>by
  have h1:=zhP hf k r (by omega)
  have h2:=zaq (hf (r+k) (by omega))
  show zab f r<=zab f (r+k+1)
  rw[zb8];grind
theorem zet(hf:∀r,r<3->0<=f r){a b:Nat}(h:a<=b)(hb:b<=3):zab f a<=zab f b:=by
 have:=zhP hf (b-a) a (by omega)
 rwa [show a+(b-a)=b by omega]at this
theorem zkO(hq:0<=q)(hf:∀r,r<3->0<=f r):∀r,r<=3->zaC f q r=if q<=zab f r then 0 else q-zab f r
 | 0,_=>by
  have e:zab f 0=0:=rfl
  show q=_
  rw[e]
  split<;>grind
 | r+1,h=>by
  have ih:=zkO hq hf r (by omega)
  have h1:=zaq (hf r (by omega))
  have h2:=zb8 f r
  rw[zc4]
  unfold zaa
  rw[ih]
  split<;>split<;>split<;>grind
theorem zg8(hq:0<=q)(hf:∀r,r<3->0<=f r){r:Nat}(hr:r<3):zaa f q r=if q<=zab f r then 0 else if zab f (r+1)<=q then((f r:Int):Rat)else q-zab f r:=by
 have ih:=zkO hq hf r (by omega)
 have h1:=zaq (hf r hr)
 have h2:=zb8 f r
 unfold zaa
 rw[ih]
 split<;>split<;>(try split)<;>grind
theorem zbM:∀{k ρ:Nat},zar f q k=some ρ->ρ < k/\q<zab f (ρ+1)/\∀r,r < ρ->zab f (r+1)<=q
 | 0,_,h=>by cases h
 | k+1,ρ,h=>by
  have h':(match zar f q k with | some r=>some r | none=>if za1 f q k then some k else none)=some ρ:=h
  have nn:∀{k:Nat},zar f q k=none->∀r,r<k->zab f (r+1)<=q:=by
   intro k
   induction k with
   | zero=>intro _ r hr;omega
   | succ k ih=>
    intro hk r hr
    have hk':(match zar f q k with | some r=>some r | none=>if za1 f q k then some k else none)=none:=hk
    cases e:zar f q k with
    | some x=>rw[e]at hk';cases hk'
    | none=>
     rw[e]at hk'
     dsimp only at hk'
     rcases yI (yQ hr)with g | g
     ·exact ih e r g
     ·subst g
      have:¬za1 f q r:=fun z=>by rw[if_pos z]at hk';cases hk'
      exact yaA.mp fun z=>this (under_int.mp z)
  cases e:zar f q k with
  | some x=>
   rw[e]at h'
   cases h'
   have:=zbM (k:=k) e
   exact⟨by omega,this.2⟩
  | none=>
   rw[e]at h'
   dsimp only at h'
   by_cases g:za1 f q k
   ·rw[if_pos g]at h'
    cases h'
    exact⟨by omega,under_int.mpr g,nn e⟩
   ·rw[if_neg g]at h';cases h'
theorem zdz:∀{k:Nat},zar f q k=none->∀r,r<k->zab f (r+1)<=q
 | 0,_,r,hr=>by omega
 | k+1,hk,r,hr=>by
  have hk':(match zar f q k with | some r=>some r | none=>if za1 f q k then some k else none)=none:=hk
  cases e:zar f q k with
  | some x=>rw[e]at hk';cases hk'
  | none=>
   rw[e]at hk'
   dsimp only at hk'
   rcases yI (yQ hr)with g | g
   ·exact zdz e r g
   ·subst g
    have:¬za1 f q r:=fun z=>by rw[if_pos z]at hk';cases hk'
    exact yaA.mp fun z=>this (under_int.mp z)
theorem zjg(hq:0<=q){ρ:Nat}(h:zar f q 3=some ρ):zab f ρ<=q:=by
 obtain⟨h1,h2,h3⟩:=zbM h
 rcases yaX ρ with g | g
 ·rw[g];exact hq
 ·have:=h3 (ρ - 1) (by omega)
  rwa [show ρ - 1+1=ρ by omega]at this
theorem zcW(hq:0<=q){ρ:Nat}(h:zar f q 3=some ρ):0<f ρ:=by
 have h1:=zjg hq h
 have h2:=(zbM h).2.1
 have h3:=zb8 f ρ
 have:(0:Rat)<((f ρ:Int):Rat):=by grind
 exact_mod_cast this
theorem zgu(hq:0<=q)(hf:∀r,r<3->0<=f r){ρ:Nat}(h:zar f q 3=some ρ)(h1:q<=q')(h2:q'<=zab f (ρ+1)){r:Nat}(hr:r<3):zae f q' r=zae f q r+if r=ρ then(q'-q)/((f ρ:Int):Rat)else 0:=by
 have lo:=zjg hq h
 obtain⟨hρ,up,_⟩:=zbM h
 have pos:=zbm (zcW hq h)
 have hq':0<=q':=yP hq h1
 have l1:=zg8 hq hf hr
 have l2:=zg8 hq' hf hr
 have cs:=zb8 f r
 have fr:=zaq (hf r hr)
 unfold zae
 by_cases e:r=ρ
 ·subst e
  rw[if_pos rfl,if_pos (zcW hq h),if_pos (zcW hq h)]
  have e1:zaa f q r=q-zab f r:=by
   rw[l1]
   split
   ·grind
   ·rw[if_neg (Rat.not_le.mpr up)]
  have e2:zaa f q' r=q'-zab f r:=by
   rw[l2]
   split
   ·grind
   ·split<;>grind
  rw[e1,e2]
  generalize ((f r:Int):Rat)=x at *
  grind
 ·rw[if_neg e]
  have same:zaa f q' r=zaa f q r:=by
   rcases ybC e with g | g
   ·have:=zet hf (show r+1<=ρ by omega) (by omega)
    rw[l1,l2]
    split<;>split<;>(try split)<;>(try split)<;>grind
   ·have:=zet hf (show ρ+1<=r by omega) (by omega)
    rw[l1,l2,if_pos (by grind),if_pos (by grind)]
  rw[same]
  split<;>grind
end
def zat(ρ:Nat->Option Nat)(ds:List Due)(i j:Nat):Int:=ds.foldl (fun(s:Int) (d:Due)=>if d.p=(i:Int)/\d.q=(j:Int)/\ρ i=some d.r.toNat then s+d.a else s) 0
theorem zbh(ρ:Nat->Option Nat)(ds:List Due)(d:Due)(i j:Nat):zat ρ (ds++[d]) i j=zat ρ ds i j+if d.p=(i:Int)/\d.q=(j:Int)/\ρ i=some d.r.toNat then d.a else 0:=by
 have e:zat ρ (ds++[d]) i j=if d.p=(i:Int)/\d.q=(j:Int)/\ρ i=some d.r.toNat then zat ρ ds i j+d.a else zat ρ ds i j:=by
  unfold zat
  rw[yat];rfl
 rw[e]
 split
 ·rfl
 ·exact(Int.add_zero _).symm
theorem zaY{P:List Due->Prop}(h0:P [])(hs:∀(es:List Due) (d:Due),P es->P (es++[d]))(ds:List Due):P ds:=by
 have:∀i,i<=ds.length->P (ds.take i):=by
  intro i
  induction i with
  | zero=>intro _;rw[List.take_zero];exact h0
  | succ i ih=>
   intro hi
   rw[List.take_succ,yj (by omega)]
   exact hs _ _ (ih (by omega))
 have h:=this ds.length (yg _)
 rwa [yK]at h
theorem zfJ{ρ:Nat->Option Nat}{i j:Nat}(ds:List Due):(∀d∈ds,0<=d.a)->0<=zat ρ ds i j:=
 zaY (P:=fun ds=>(∀d∈ds,0<=d.a)->0<=zat ρ ds i j) (fun _=>yaG 0) (fun es d ih h=>by
  have h1:=ih fun e he=>h e (yr _ he)
  have h2:=h d (ym _ (.head _))
  rw[zbh]
  split<;>omega) ds
theorem znR{ρ:Nat->Option Nat}{i:Nat}(ds:List Due):(∀d∈ds,d.p≠d.q)->zat ρ ds i i=0:=
 zaY (P:=fun ds=>(∀d∈ds,d.p≠d.q)->zat ρ ds i i=0) (fun _=>rfl) (fun es d ih h=>by
  have h1:=ih fun e he=>h e (yr _ he)
  have h2:=h d (ym _ (.head _))
  rw[zbh,h1,if_neg (fun z=>h2 (z.1.trans z.2.1.symm))];rfl) ds
theorem zh0{ρ:Nat->Option Nat}{i j:Nat}(hi:ρ i=none)(ds:List Due):zat ρ ds i j=0:=
 zaY (P:=fun ds=>zat ρ ds i j=0) rfl (fun es d ih=>by
  rw[zbh,ih,if_neg (fun z=>by rw[hi]at z;cases z.2.2)];rfl) ds
theorem ziN{ρ:Nat->Option Nat}{i r n:Nat}(hi:ρ i=some r)(ds:List Due):(∀d∈ds,0<=d.q/\d.q<n/\0<=d.r)->Dt.sm n (fun j=>((zat ρ ds i j:Int):Rat))=((zD ds i r:Int):Rat):=
 zaY (P:=fun ds=>(∀d∈ds,0<=d.q/\d.q<n/\0<=d.r)->Dt.sm n (fun j=>((zat ρ ds i j:Int):Rat))=((zD ds i r:Int):Rat)) (fun _=>Dt.sm_zero fun _ _=>rfl) (fun es d ih h=>by
  have h1:=ih fun e he=>h e (yr _ he)
  obtain⟨q0,q1,r0⟩:=h d (ym _ (.head _))
  rw[zaM]
  have e:Dt.sm n (fun j=>((zat ρ (es++[d]) i j:Int):Rat))=Dt.sm n (fun j=>((zat ρ es i j:Int):Rat)+(if j=d.q.toNat then(if d.p=(i:Int)/\d.r=(r:Int) then((d.a:Int):Rat)else 0)else 0)):=Dt.sm_congr fun j _=>by
   rw[zbh,yS]
   congr 1
   by_cases g:j=d.q.toNat
   ·rw[if_pos g]
    by_cases c:d.p=(i:Int)/\d.r=(r:Int)
    ·rw[if_pos c,if_pos ⟨c.1,by omega,by rw[hi,c.2,yx]⟩]
    ·rw[if_neg c,if_neg (fun z=>c ⟨z.1,by
      have:=z.2.2
      rw[hi]at this
      have:=yn this
      omega⟩)];rfl
   ·rw[if_neg g,if_neg (fun z=>g (by have:=z.2.1;omega))];rfl
  rw[e,Dt.sm_add,h1,Dt.sm_one (i:=d.q.toNat) (by omega) fun j _ hj=>if_neg hj,if_pos rfl]
  split
  ·rw[yS]
  ·grind) ds
theorem zn3{ρ:Nat->Option Nat}{s:Nat->Rat}{g:Due->Rat}{m n:Nat}(ds:List Due):(∀d∈ds,0<=d.p/\d.p<n)->zV ds (fun d=>g d+if ρ d.p.toNat=some d.r.toNat then((d.a:Int):Rat)*s d.p.toNat else 0) m=zV ds g m+Dt.sm n (fun i=>((zat ρ ds i m:Int):Rat)*s i):=
 zaY (P:=fun ds=>(∀d∈ds,0<=d.p/\d.p<n)->zV ds (fun d=>g d+if ρ d.p.toNat=some d.r.toNat then((d.a:Int):Rat)*s d.p.toNat else 0) m=zV ds g m+Dt.sm n (fun i=>((zat ρ ds i m:Int):Rat)*s i)) (fun _=>by
  have z:Dt.sm n (fun i=>((zat ρ [] i m:Int):Rat)*s i)=0:=Dt.sm_zero fun i _=>by
   show((0:Int):Rat)*s i=0
   rw[show((0:Int):Rat)=0 from rfl];grind
  rw[z]
  show zV [] _ m=zV [] g m+0
  have:∀h:Due->Rat,zV [] h m=0:=fun _=>rfl
  rw[this,this];grind) (fun es d ih h=>by
  have h1:=ih fun e he=>h e (yr _ he)
  obtain⟨p0,p1⟩:=h d (ym _ (.head _))
  rw[zaQ,zaQ,h1]
  have e:Dt.sm n (fun i=>((zat ρ (es++[d]) i m:Int):Rat)*s i)=Dt.sm n (fun i=>((zat ρ es i m:Int):Rat)*s i+(if i=d.p.toNat then(if d.q=(m:Int)/\ρ d.p.toNat=some d.r.toNat then((d.a:Int):Rat)*s d.p.toNat else 0)else 0)):=Dt.sm_congr fun i _=>by
   rw[zbh,yS,Rat.add_mul]
   congr 1
   by_cases g':i=d.p.toNat
   ·rw[if_pos g']
    subst g'
    by_cases c:d.q=(m:Int)/\ρ d.p.toNat=some d.r.toNat
    ·rw[if_pos c,if_pos ⟨by omega,c⟩]
    ·rw[if_neg c,if_neg (fun z=>c z.2)]
     show((0:Int):Rat)*_=0
     rw[show((0:Int):Rat)=0 from rfl];grind
   ·rw[if_neg g',if_neg (fun z=>g' (by have:=z.1;omega))]
    show((0:Int):Rat)*_=0
    rw[show((0:Int):Rat)=0 from rfl];grind
  rw[e,Dt.sm_add,Dt.sm_one (i:=d.p.toNat) (by omega) fun j _ hj=>if_neg hj,if_pos rfl]
  by_cases c1:d.q=(m:Int)
  ·by_cases c2:ρ d.p.toNat=some d.r.toNat
   ·rw[if_pos c1,if_pos c1,if_pos c2,if_pos ⟨c1,c2⟩];grind
   ·rw[if_pos c1,if_pos c1,if_neg c2,if_neg (fun z=>c2 z.2)];grind
  ·rw[if_neg c1,if_neg c1,if_neg (fun z=>c1 z.1)];grind) ds
end Internal
namespace Rc
section
variable {n:Nat}{g:Nat->Nat->Bool}{i:Nat}
def zgH(n:Nat)(g:Nat->Nat->Bool)(j:Nat)(l:List Nat):List Nat:=(List.range n).filter fun k=>g j k&&!decide (k∈l)
theorem mem_next{j k:Nat}{l:List Nat}:k∈zgH n g j l↔k<n/\g j k=true/\k∉l:=by
 unfold zgH
 rw[yaI,yU,yah,ybK,decide_eq_false_iff_not]
theorem zli{j:Nat}{l:List Nat}:(zgH n g j l).Nodup:=ybO.filter _
def seqL(n:Nat)(g:Nat->Nat->Bool)(i:Nat):Nat->List Nat
 | 0=>[i]
 | k+1=>if k<(seqL n g i k).length then seqL n g i k++zgH n g ((seqL n g i k).getD k 0) (seqL n g i k)else seqL n g i k
theorem seq_succ{k:Nat}(h:k<(seqL n g i k).length):seqL n g i (k+1)=seqL n g i k++zgH n g ((seqL n g i k).getD k 0) (seqL n g i k):=if_pos h
theorem zcY{k:Nat}(h:¬k<(seqL n g i k).length):seqL n g i (k+1)=seqL n g i k:=if_neg h
theorem zfx:∀k,(seqL n g i k).Nodup
 | 0=>by show[i].Nodup;simp
 | k+1=>by
  have ih:=zfx k
  by_cases h:k<(seqL n g i k).length
  ·rw[seq_succ h]
   exact ya3.mpr ⟨ih,zli,fun a ha b hb e=>(mem_next.mp hb).2.2 (e▸ha)⟩
  ·rw[zcY h];exact ih
theorem seq_lt(hi:i<n):∀k x,x∈seqL n g i k->x<n
 | 0,x,h=>by rw[yw.mp h];exact hi
 | k+1,x,hx=>by
  have ih:=seq_lt hi k
  by_cases h:k<(seqL n g i k).length
  ·rw[seq_succ h]at hx
   rcases yR.mp hx with hx | hx
   ·exact ih x hx
   ·exact(mem_next.mp hx).1
  ·rw[zcY h]at hx;exact ih x hx
theorem ze9:∀k,i∈seqL n g i k
 | 0=>yw.mpr rfl
 | k+1=>by
  by_cases h:k<(seqL n g i k).length
  ·rw[seq_succ h];exact yr _ (ze9 k)
  ·rw[zcY h];exact ze9 k
theorem zmV{S:Nat->Prop}(h0:S i)(hS:∀j k,S j->k<n->g j k=true->S k):∀k x,x∈seqL n g i k->S x
 | 0,x,h=>by rw[yw.mp h];exact h0
 | k+1,x,hx=>by
  have ih:=zmV h0 hS k
  by_cases h:k<(seqL n g i k).length
  ·rw[seq_succ h]at hx
   rcases yR.mp hx with hx | hx
   ·exact ih x hx
   ·obtain⟨h1,h2,_⟩:=mem_next.mp hx
    refine hS _ x (ih _ ?_) h1 h2
    rw[ye,yj h]
    exact ybP h
  ·rw[zcY h]at hx;exact ih x hx
theorem zo7{x:Nat}{k:Nat}(hx:x∈seqL n g i k):x∈seqL n g i (k+1):=by
 by_cases h:k<(seqL n g i k).length
 ·rw[seq_succ h];exact yr _ hx
 ·rw[zcY h];exact hx
theorem zgo:∀(k p x y:Nat),p<k->(seqL n g i k)[p]?=some x->y<n->g x y=true->y∈seqL n g i k
 | 0,_,_,_,h,_,_,_=>absurd h (yaB _)
 | k+1,p,x,y,hp,hx,hy,hg=>by
  by_cases h:k<(seqL n g i k).length
  ·rcases yI (yQ hp)with e | e
   ·have hx':(seqL n g i k)[p]?=some x:=by
     rw[seq_succ h,yW (by omega)]at hx;exact hx
    exact zo7 (zgo k p x y e hx' hy hg)
   ·subst e
    have hx':(seqL n g i p)[p]?=some x:=by
     rw[seq_succ h,yW h]at hx;exact hx
    have hd:(seqL n g i p).getD p 0=x:=by rw[ye,hx'];rfl
    rw[seq_succ h,hd]
    rcases yam (y∈seqL n g i p)with q | q
    ·exact yr _ q
    ·exact ym _ (mem_next.mpr ⟨hy,hg,q⟩)
  ·rw[zcY h]at hx ⊢
   have hl:=(yk.mp hx).1
   exact zgo k p x y (by omega) hx hy hg
theorem len_le{l:List Nat}(nd:l.Nodup)(h:∀x∈l,x<n):l.length<=n:=by
 have h2:l.length<=(List.range n).length:=ybs nd fun x hx=>yU.mpr (h x hx)
 rwa [yv]at h2
def reach(n:Nat)(g:Nat->Nat->Bool)(i:Nat):List Nat:=seqL n g i n
theorem zfY:(reach n g i).Nodup:=zfx n
theorem reach_lt(hi:i<n){x:Nat}(hx:x∈reach n g i):x<n:=seq_lt hi n x hx
theorem zki:i∈reach n g i:=ze9 n
theorem ziO{S:Nat->Prop}(h0:S i)(hS:∀j k,S j->k<n->g j k=true->S k){x:Nat}(hx:x∈reach n g i):S x:=zmV h0 hS n x hx
theorem seq_len(hi:i<n)(k:Nat):(seqL n g i k).length<=n:=len_le (zfx k) (seq_lt hi k)
theorem zjS(hi:i<n){x y:Nat}(hx:x∈reach n g i)(hy:y<n)(hg:g x y=true):y∈reach n g i:=by
 obtain⟨p,hp,e⟩:=y9 hx
 exact zgo n p x y (yz hp (seq_len hi n)) (by rw[<- e];exact yj hp) hy hg
theorem zhG{k:Nat}(h:¬k<(seqL n g i k).length):∀m,seqL n g i (k+m)=seqL n g i k
 | 0=>rfl
 | m+1=>by
  have ih:=zhG h m
  show seqL n g i (k+m+1)=_
  rw[zcY (by rw[ih];omega),ih]
theorem seq_end(hi:i<n){k:Nat}(hk:k<=(seqL n g i k).length)(h:¬k<(seqL n g i k).length):seqL n g i k=reach n g i:=by
 have hn:=seq_len (g:=g) hi k
 have:=zhG h (n-k)
 rw[show k+(n-k)=n by omega]at this
 exact this.symm
def minL:List (List Nat)->List Nat
 | []=>[]
 | l :: ls=>ls.foldl (fun b c=>if c.length<b.length then c else b) l
theorem zhN:∀(ls:List (List Nat)) (l:List Nat),(ls.foldl (fun b c=>if c.length<b.length then c else b) l∈l :: ls)/\∀c∈l :: ls,(ls.foldl (fun b c=>if c.length<b.length then c else b) l).length<=c.length
 | [],l=>⟨yaj,fun c hc=>by rw[yw.mp hc];exact yg _⟩
 | d :: ls,l=>by
  show(ls.foldl _ (if d.length<l.length then d else l)∈l :: d :: ls)/\_
  have ih:=zhN ls (if d.length<l.length then d else l)
  refine⟨?_,fun c hc=>?_⟩
  ·rcases yM.mp ih.1 with h | h
   ·rw[h];split
    ·exact yX _ yaj
    ·exact yaj
   ·exact yX _ (yX _ h)
  ·have hb:=ih.2 _ yaj
   show(ls.foldl _ (if d.length<l.length then d else l)).length<=c.length
   rcases yM.mp hc with rfl | hc
   ·refine yc hb ?_
    split<;>omega
   ·rcases yM.mp hc with rfl | hc
    ·refine yc hb ?_
     split<;>omega
    ·exact ih.2 c (yX _ hc)
theorem zjU{ls:List (List Nat)}(h:ls≠[]):minL ls∈ls/\∀c∈ls,(minL ls).length<=c.length:=by
 cases ls with
 | nil=>exact absurd rfl h
 | cons l ls=>exact zhN ls l
def circles(n:Nat)(g:Nat->Nat->Bool)(sh:Nat->Bool):List (List Nat):=((List.range n).map (reach n g)).filter fun l=>l.all sh
def circle(n:Nat)(g:Nat->Nat->Bool)(sh:Nat->Bool):List Nat:=minL (circles n g sh)
variable {sh:Nat->Bool}
theorem mem_circles{c:List Nat}:c∈circles n g sh↔∃i,i<n/\c=reach n g i/\∀x∈c,sh x=true:=by
 unfold circles
 rw[yaI,yaz,ya9]
 constructor
 ·rintro⟨⟨i,hi,e⟩,h⟩;exact⟨i,yU.mp hi,e.symm,h⟩
 ·rintro⟨i,hi,e,h⟩;exact⟨⟨i,yU.mpr hi,e.symm⟩,h⟩
set_option genInjectivity false in
set_option genSizeOf false in
structure Cir(n:Nat)(g:Nat->Nat->Bool)(sh:Nat->Bool)(c:List Nat):Prop where
 nd:c.Nodup
 lt:∀x∈c,x<n
 sh:∀x∈c,sh x=true
 cl:∀x y,x∈c->y<n->g x y=true->y∈c
 ne:c≠[]
 small:∀S:Nat->Prop,(∀x,S x->x∈c)->(∀j k,S j->k<n->g j k=true->S k)->(∃j,S j)->∀x∈c,S x
theorem zlC(h:circle n g sh=[]):circles n g sh=[]:=by
 cases e:circles n g sh with
 | nil=>rfl
 | cons l ls=>
  have hm:=zjU (ls:=circles n g sh) (by rw[e];exact List.cons_ne_nil _ _)
  have:circle n g sh∈circles n g sh:=hm.1
  rw[h]at this
  obtain⟨i,hi,e2,_⟩:=mem_circles.mp this
  have:=zki (n:=n) (g:=g) (i:=i)
  rw[<- e2]at this
  exact nomatch this
theorem circle_ok(h:circle n g sh≠[]):Cir n g sh (circle n g sh):=by
 have hne:circles n g sh≠[]:=fun z=>h (by unfold circle;rw[z];rfl)
 obtain⟨hm,hl⟩:=zjU hne
 obtain⟨i,hi,e,hs⟩:=mem_circles.mp hm
 have ec:circle n g sh=reach n g i:=e
 refine⟨by rw[ec];exact zfY,fun x hx=>by rw[ec]at hx;exact reach_lt hi hx,fun x hx=>hs x hx,fun x y hx hy hg=>?_,h,fun S h1 h2 h3 x hx=>?_⟩
 ·rw[ec]at hx ⊢;exact zjS hi hx hy hg
 ·obtain⟨j,hj⟩:=h3
  have hjn:j<n:=by have:=h1 j hj;rw[ec]at this;exact reach_lt hi this
  have sub:∀y∈reach n g j,S y:=fun y hy=>ziO hj h2 hy
  have hc:reach n g j∈circles n g sh:=mem_circles.mpr ⟨j,hjn,rfl,fun y hy=>hs y (h1 y (sub y hy))⟩
  have hlen:(circle n g sh).length<=(reach n g j).length:=hl _ hc
  rcases yam (x∈reach n g j)with q | q
  ·exact sub x q
  ·exfalso
   have hx2:(x :: reach n g j).Nodup:=yaU.mpr ⟨q,zfY⟩
   have:=ybs hx2 (l₂:=circle n g sh) (fun y hy=>by
    rcases yM.mp hy with rfl | hy
    ·exact hx
    ·exact h1 y (sub y hy))
   rw[yaD]at this
   omega
theorem no_circle(h:circle n g sh=[]){S:Nat->Prop}(h1:∀x,S x->x<n/\sh x=true)(h2:∀j k,S j->k<n->g j k=true->S k){j:Nat}(hj:S j):False:=by
 have hc:=zlC h
 have:reach n g j∈circles n g sh:=mem_circles.mpr ⟨j,(h1 j hj).1,rfl,fun y hy=>(h1 y (ziO hj h2 hy)).2⟩
 rw[hc]at this
 exact nomatch this
end
end Rc
namespace Dt
theorem zkL{n k:Nat}{h:Nat->Rat}(hk:k<n):sm n h=sm n (fun x=>if x=k then 0 else h x)+h k:=by
 have e:sm n h=sm n (fun x=>(if x=k then 0 else h x)+(if x=k then h k else 0)):=sm_congr fun x _=>by
  by_cases g:x=k
  ·rw[if_pos g,if_pos g,g];grind
  ·rw[if_neg g,if_neg g];grind
 rw[e,sm_add,sm_one hk fun j _ hj=>if_neg hj,if_pos rfl]
theorem sm_some{n:Nat}{s:Nat->Nat}:∀(m:Nat) {h:Nat->Rat},(∀x,x<n->0<=h x)->(∀a,a<m->s a<n)->(∀a b,a<m->b<m->s a=s b->a=b)->sm m (fun a=>h (s a))<=sm n h
 | 0,h,h0,_,_=>sm_ge0 h0
 | m+1,h,h0,h1,h2=>by
  have hm:=h1 m (by omega)
  have ih:=sm_some (n:=n) (s:=s) m (h:=fun x=>if x=s m then 0 else h x) (fun x hx=>by
   (try dsimp only)
   split
   ·exact yG
   ·exact h0 x hx) (fun a ha=>h1 a (by omega)) fun a b ha hb e=>h2 a b (by omega) (by omega) e
  have e:sm m (fun a=>if s a=s m then 0 else h (s a))=sm m (fun a=>h (s a)):=sm_congr fun a ha=>if_neg fun z=>by have:=h2 a m (by omega) (by omega) z;omega
  rw[e]at ih
  show sm m (fun a=>h (s a))+h (s m)<=sm n h
  rw[zkL (h:=h) hm]
  grind
theorem leak_of{n m:Nat}{s:Nat->Nat}{f:Nat->Nat->Rat}(h0:∀i j,i<n->j<n->0<=f i j)(ho:∀i,i<n->f i i=0)(h1:∀a,a<m->s a<n)(h2:∀a b,a<m->b<m->s a=s b->a=b)
  (h3:∀S:Nat->Prop,(∀x,S x->∃a,a<m/\x=s a)->(∃x,S x)->(∀x y,S x->y<n->0<f x y->S y)->False):Leak m (fun a b=>f (s a) (s b)) (fun a=>sm n (f (s a))) where
 nn:=fun a b ha hb=>h0 _ _ (h1 a ha) (h1 b hb)
 own:=fun a ha=>ho _ (h1 a ha)
 le:=fun a ha=>sm_some m (fun x hx=>h0 _ x (h1 a ha) hx) h1 h2
 leak:=fun T ⟨a0,ha0,hT0⟩=>by
  rcases yam (∃j,j<m/\T j=true/\sm m (fun b=>if T b then f (s j) (s b)else 0)<sm n (f (s j)))with q | q
  ·exact q
  exfalso
  refine h3 (fun x=>∃a,a<m/\T a=true/\x=s a) (fun x ⟨a,ha,_,e⟩=>⟨a,ha,e⟩) ⟨s a0,a0,ha0,hT0,rfl⟩ fun x y ⟨a,ha,hT,e⟩ hy hp=>?_
  subst e
  rcases yam (∃b,b<m/\T b=true/\y=s b)with z | z
  ·exact z
  exfalso
  refine q ⟨a,ha,hT,?_⟩
  have b1:sm m (fun b=>if T b then f (s a) (s b)else 0)<=sm m (fun b=>(fun x=>if x=y then 0 else f (s a) x) (s b)):=sm_mono fun b hb=>by
   dsimp only
   by_cases hTb:T b=true
   ·rw[if_pos hTb,if_neg fun w=>z ⟨b,hb,hTb,w.symm⟩];exact yG
   ·rw[if_neg hTb]
    split
    ·exact yG
    ·exact h0 _ _ (h1 a ha) (h1 b hb)
  have b2:sm m (fun b=>(fun x=>if x=y then 0 else f (s a) x) (s b))<=sm n (fun x=>if x=y then 0 else f (s a) x):=sm_some m (h:=fun x=>if x=y then 0 else f (s a) x) (fun x hx=>by
   (try dsimp only)
   split
   ·exact yG
   ·exact h0 _ x (h1 a ha) hx) h1 h2
  have b3:=zkL (h:=f (s a)) hy
  grind
end Dt
namespace Internal
open PySem PySem.Spec PyProof.Rows
def zaK(ds:List Due)(l:Nat->Rat)(d:Due):Rat:=((d.a:Int):Rat)*zae (zD ds d.p.toNat) (l d.p.toNat) d.r.toNat
def stp(ds:List Due)(l:Nat->Rat)(i:Nat):Option Nat:=zar (zD ds i) (l i) 3
def flR(ds:List Due)(l:Nat->Rat)(i j:Nat):Rat:=((zat (stp ds l) ds i j:Int):Rat)
def zan(n:Nat)(ds:List Due)(l:Nat->Rat)(i:Nat):Rat:=Dt.sm n (flR ds l i)
theorem zfP{g g':Due->Rat}{m:Nat}(ds:List Due):(∀d∈ds,g d=g' d)->zV ds g m=zV ds g' m:=
 zaY (P:=fun ds=>(∀d∈ds,g d=g' d)->zV ds g m=zV ds g' m) (fun _=>rfl) (fun es d ih h=>by
  rw[zaQ,zaQ,ih fun e he=>h e (yr _ he),h d (ym _ (.head _))]) ds
theorem zdT{m r:Nat}(ds:List Due):(∀d∈ds,0<=d.a)->0<=zD ds m r:=
 zaY (P:=fun ds=>(∀d∈ds,0<=d.a)->0<=zD ds m r) (fun _=>yaG 0) (fun es d ih h=>by
  have h1:=ih fun e he=>h e (yr _ he)
  have h2:=h d (ym _ (.head _))
  rw[zaM]
  split<;>omega) ds
set_option genInjectivity false in
set_option genSizeOf false in
structure CInv(n:Nat)(ds:List Due)(p:Nat->Rat)(l:Nat->Rat)(t:Rat):Prop where
 lo:∀i,i<n->0<=l i
 hi:∀i,i<n->l i<=zab (zD ds i) 3
 sh:∀i,i<n->stp ds l i≠none->l i=t*p i+zV ds (zaK ds l) i
 fu:∀i,i<n->stp ds l i=none->zab (zD ds i) 3<=t*p i+zV ds (zaK ds l) i
section
variable {n:Nat}{ds:List Due}{p l s:Nat->Rat}{t x e:Rat}
theorem zdY(hd:∀d∈ds,zM n d){i ρ:Nat}(h:stp ds l i=some ρ):zan n ds l i=((zD ds i ρ:Int):Rat):=
 ziN h ds fun d hm=>⟨(hd d hm).2.2.1,(hd d hm).2.2.2.1,(hd d hm).2.2.2.2.2.1⟩
theorem zfK(hd:∀d∈ds,zM n d){i ρ:Nat}(h0:0<=l i)(h:stp ds l i=some ρ):0<zan n ds l i:=by
 rw[zdY hd h]
 exact zbm (zcW h0 h)
theorem zjb{i:Nat}(h:stp ds l i=none):zan n ds l i=0:=Dt.sm_zero fun j _=>by
 unfold flR
 rw[zh0 h];rfl
theorem turn(hd:∀d∈ds,zM n d)(I:CInv n ds p l t)(s0:∀i,i<n->0<=s i)(x0:0<=x)(e0:0<=e)(p0:∀i,i<n->0<=p i)
  (hb:∀i,i<n->stp ds l i≠none->zan n ds l i*s i-Dt.sm n (fun j=>flR ds l j i*s j)=e*p i)
  (hr:∀i,i<n->∀ρ,stp ds l i=some ρ->l i+x*(s i*zan n ds l i)<=zab (zD ds i) (ρ+1)) :
  CInv n ds p (fun i=>l i+x*(s i*zan n ds l i)) (t+x*e):=by
 have ha:∀d∈ds,0<=d.a:=fun d hm=>(hd d hm).2.2.2.2.2.2.2.1
 have hf:∀i r,r<3->0<=zD ds i r:=fun i r _=>zdT ds ha
 obtain⟨l',hl'⟩:∃l':Nat->Rat,l'=fun i=>l i+x*(s i*zan n ds l i):=⟨_,rfl⟩
 rw[<- hl']
 have rown:∀i,i<n->0<=zan n ds l i:=fun i hi=>Dt.sm_ge0 fun j _=>by
  unfold flR
  exact zaq (zfJ ds ha)
 have grow:∀i,i<n->l i<=l' i:=fun i hi=>by
  rw[hl']
  have h1:=yB x0 (yB (s0 i hi) (rown i hi))
  grind
 have still:∀i,stp ds l i=none->l' i=l i:=fun i h=>by
  rw[hl']
  dsimp only
  rw[zjb h];grind
 have pays:∀d∈ds,zaK ds l' d=zaK ds l d+if stp ds l d.p.toNat=some d.r.toNat then((d.a:Int):Rat)*(x*s d.p.toNat)else 0:=fun d hm=>by
  obtain⟨p0',p1',_,_,_,r0',r1',_,_⟩:=hd d hm
  have hi:d.p.toNat<n:=by omega
  have hr3:d.r.toNat<3:=by omega
  unfold zaK
  cases hs:stp ds l d.p.toNat with
  | none=>
   rw[still _ hs,if_neg (by intro z;cases z)];grind
  | some ρ=>
   have up:=hr _ hi ρ hs
   have g:=zgu (I.lo _ hi) (hf d.p.toNat) hs (grow _ hi) (by rw[hl'];exact up) hr3
   rw[g]
   have pos:=zfK hd (I.lo _ hi) hs
   rw[zdY hd hs]at pos
   have ed:(l' d.p.toNat-l d.p.toNat)/((zD ds d.p.toNat ρ:Int):Rat)=x*s d.p.toNat:=by
    rw[hl']
    dsimp only
    rw[zdY hd hs]
    generalize ((zD ds d.p.toNat ρ:Int):Rat)=R at *
    have hR:R≠0:=fun z=>by rw[z]at pos;exact absurd pos (by decide)
    have:l d.p.toNat+x*(s d.p.toNat*R)-l d.p.toNat=(x*s d.p.toNat)*R:=by grind
    rw[this,ybx,Rat.mul_assoc,Rat.mul_inv_cancel R hR,Rat.mul_one]
   rw[ed]
   by_cases er:d.r.toNat=ρ
   ·rw[if_pos er,if_pos (by rw[er])];grind
   ·rw[if_neg er,if_neg (fun z=>er (yn z).symm)];grind
 have gets:∀i,zV ds (zaK ds l') i=zV ds (zaK ds l) i+x*Dt.sm n (fun j=>flR ds l j i*s j):=fun i=>by
  rw[zfP ds pays,zn3 (ρ:=stp ds l) (s:=fun j=>x*s j) (n:=n) ds fun d hm=>⟨(hd d hm).1,(hd d hm).2.1⟩]
  congr 1
  rw[<- Dt.sm_mul]
  exact Dt.sm_congr fun j _=>by unfold flR;grind
 have more:∀i,i<n->0<=Dt.sm n (fun j=>flR ds l j i*s j):=fun i _=>Dt.sm_ge0 fun j hj=>yB (by unfold flR;exact zaq (zfJ ds ha)) (s0 j hj)
 have key:∀i,i<n->stp ds l i≠none->l' i=(t+x*e)*p i+zV ds (zaK ds l') i:=fun i hi hs=>by
  rw[gets i]
  have h1:=I.sh i hi hs
  have h2:=hb i hi hs
  rw[hl']
  dsimp only
  grind
 refine⟨fun i hi=>yP (I.lo i hi) (grow i hi),fun i hi=>?_,fun i hi hs'=>?_,fun i hi hs'=>?_⟩
 ·cases hs:stp ds l i with
  | none=>rw[still i hs];exact I.hi i hi
  | some ρ=>
   have h1:=hr i hi ρ hs
   have h2:=zet (hf i) (show ρ+1<=3 by have:=(zbM hs).1;omega) (yg 3)
   rw[hl']
   exact yP h1 h2
 ·cases hs:stp ds l i with
  | none=>exact absurd (show stp ds l' i=none by unfold stp;rw[still i hs];exact hs) hs'
  | some ρ=>exact key i hi (by rw[hs];intro z;cases z)
 ·cases hs:stp ds l i with
  | none=>
   have h1:=I.fu i hi hs
   rw[gets i]
   have h2:=yB x0 (more i hi)
   have h3:=yB (yB x0 e0) (p0 i hi)
   grind
  | some ρ=>
   rw[<- key i hi (by rw[hs];intro z;cases z)]
   exact zdz hs' 2 (by decide)
end
open Dt (sm Leak bal)
def sF(m:Nat)(s:Nat->Nat)(x:Nat->Rat)(i:Nat):Rat:=sm m (fun a=>if s a=i then x a else 0)
section
variable {n m:Nat}{s:Nat->Nat}{x:Nat->Rat}
theorem zfC(inj:∀a b,a<m->b<m->s a=s b->a=b){a:Nat}(ha:a<m):sF m s x (s a)=x a:=by
 unfold sF
 rw[Dt.sm_one (i:=a) ha fun b hb hne=>if_neg fun e=>hne (inj b a hb ha e),if_pos rfl]
theorem zgM{i:Nat}(h:∀a,a<m->s a≠i):sF m s x i=0:=Dt.sm_zero fun a ha=>if_neg (h a ha)
theorem zkX(h1:∀a,a<m->s a<n)(F:Nat->Rat):sm n (fun j=>F j*sF m s x j)=sm m (fun a=>F (s a)*x a):=by
 have e1:sm n (fun j=>F j*sF m s x j)=sm n (fun j=>sm m fun a=>if s a=j then F j*x a else 0):=Dt.sm_congr fun j _=>by
  unfold sF
  rw[<- Dt.sm_mul]
  exact Dt.sm_congr fun a _=>by split<;>grind
 rw[e1,Dt.sm_swap]
 refine Dt.sm_congr fun a ha=>?_
 rw[Dt.sm_one (i:=s a) (h1 a ha) fun j _ hne=>if_neg fun e=>hne e.symm,if_pos rfl]
theorem zoB(h:∀a,a<m->0<=x a)(i:Nat):0<=sF m s x i:=Dt.sm_ge0 fun a ha=>by
 split
 ·exact h a ha
 ·exact yG
end
section
variable {n:Nat}{ds:List Due}{p l:Nat->Rat}
def gB(ds:List Due)(l:Nat->Rat)(i j:Nat):Bool:=decide (0<zat (stp ds l) ds i j)
def shB(ds:List Due)(l:Nat->Rat)(i:Nat):Bool:=(stp ds l i).isSome
theorem gB_iff{i j:Nat}:gB ds l i j=true↔0<flR ds l i j:=by
 unfold gB flR
 rw[decide_eq_true_iff]
 constructor
 ·exact fun h=>zbm h
 ·exact fun h=>by exact_mod_cast h
theorem zdb(hd:∀d∈ds,zM n d)(i j:Nat):0<=flR ds l i j:=zaq (zfJ ds fun d hm=>(hd d hm).2.2.2.2.2.2.2.1)
theorem zdS(hd:∀d∈ds,zM n d)(i:Nat):flR ds l i i=0:=by
 unfold flR
 rw[znR ds fun d hm=>(hd d hm).2.2.2.2.1];rfl
theorem zec(hd:∀d∈ds,zM n d)(hc:Rc.circle n (gB ds l) (shB ds l)=[]){m:Nat}{s:Nat->Nat}(h1:∀a,a<m->s a<n/\shB ds l (s a)=true)(inj:∀a b,a<m->b<m->s a=s b->a=b):Leak m (fun a b=>flR ds l (s a) (s b)) (fun a=>zan n ds l (s a)):=
 Dt.leak_of (fun i j _ _=>zdb hd i j) (fun i _=>zdS hd i) (fun a ha=>(h1 a ha).1) inj fun S hS ⟨x,hx⟩ hcl=>
  Rc.no_circle hc (S:=S) (fun y hy=>by obtain⟨a,ha,e⟩:=hS y hy;rw[e];exact h1 a ha) (fun j k hj hk hg=>hcl j k hj hk (gB_iff.mp hg)) hx
theorem zj2(hd:∀d∈ds,zM n d)(hc:Rc.circle n (gB ds l) (shB ds l)=[]){m:Nat}{s:Nat->Nat}{x:Nat->Rat}(p0:∀i,i<n->0<=p i)(h1:∀a,a<m->s a<n/\shB ds l (s a)=true)(inj:∀a b,a<m->b<m->s a=s b->a=b)(all:∀i,i<n->shB ds l i=true->∃a,a<m/\i=s a)
  (hx:∀a,a<m->sm m (fun b=>bal (fun a b=>flR ds l (s a) (s b)) (fun a=>zan n ds l (s a)) a b*x b)=p (s a)) :
  (∀i,0<=sF m s x i)/\∀i,i<n->stp ds l i≠none->zan n ds l i*sF m s x i-sm n (fun j=>flR ds l j i*sF m s x j)=1*p i:=by
 have L:=zec hd hc h1 inj
 have hb:∀a,a<m->zan n ds l (s a)*x a-sm m (fun b=>flR ds l (s b) (s a)*x b)=p (s a):=fun a ha=>by
  have:=Dt.bal_row (n:=m) (f:=fun a b=>flR ds l (s a) (s b)) (r:=fun a=>zan n ds l (s a)) (s:=x) ha (zdS hd _)
  rw[hx a ha]at this
  exact this.symm
 have nn:=L.nonneg (s:=x) fun a ha=>by rw[hb a ha];exact p0 _ (h1 a ha).1
 refine⟨zoB nn,fun i hi hs=>?_⟩
 obtain⟨a,ha,rfl⟩:=all i hi (by unfold shB;cases h:stp ds l i with | none=>exact absurd h hs | some r=>rfl)
 rw[zfC inj ha,zkX (fun a ha=>(h1 a ha).1) (fun j=>flR ds l j (s a)),hb a ha];grind
theorem zeh(hd:∀d∈ds,zM n d){c:List Nat}(hc:Rc.Cir n (gB ds l) (shB ds l) c){m:Nat}(hm:c.length=m+1):Leak m (fun a b=>flR ds l (c.getD (a+1) 0) (c.getD (b+1) 0)) (fun a=>zan n ds l (c.getD (a+1) 0)):=by
 have get:∀a,a<m+1->c[a]?=some (c.getD a 0):=fun a ha=>by
  rw[ye,yj (by omega)];rfl
 have mem:∀a,a<m+1->c.getD a 0∈c:=fun a ha=>ya (get a ha)
 have inj:∀a b,a<m+1->b<m+1->c.getD a 0=c.getD b 0->a=b:=fun a b ha hb e=>zb6 hc.nd (get a ha) (by rw[e];exact get b hb)
 refine Dt.leak_of (s:=fun a=>c.getD (a+1) 0) (fun i j _ _=>zdb hd i j) (fun i _=>zdS hd i) (fun a ha=>hc.lt _ (mem _ (by omega))) (fun a b ha hb e=>by have:=inj (a+1) (b+1) (by omega) (by omega) e;omega) fun S hS hne hcl=>?_
 have:=hc.small S (fun y hy=>by obtain⟨a,ha,e⟩:=hS y hy;rw[e];exact mem _ (by omega)) (fun j k hj hk hg=>hcl j k hj hk (gB_iff.mp hg)) hne (c.getD 0 0) (mem 0 (by omega))
 obtain⟨a,ha,e⟩:=hS _ this
 have:=inj 0 (a+1) (by omega) (by omega) e
 omega
end
end Internal
namespace Dt
theorem sm_front{f:Nat->Rat}:∀n:Nat,sm (n+1) f=f 0+sm n (fun i=>f (i+1))
 | 0=>by show(0:Rat)+f 0=f 0+0;grind
 | n+1=>by
  have:=sm_front (f:=f) n
  rw[show sm (n+1+1) f=sm (n+1) f+f (n+1)from rfl,this]
  show f 0+sm n (fun i=>f (i+1))+f (n+1)=f 0+(sm n (fun i=>f (i+1))+f (n+1))
  grind
end Dt
namespace Internal
open PySem PySem.Spec PyProof.Rows
open Dt (sm Leak bal)
def zc0(f:Nat->Nat->Rat)(r:Nat->Rat)(a b:Nat):Rat:=if a=0 then(if b=0 then 1 else 0)else bal f r a b
section
variable {n:Nat}{ds:List Due}{l:Nat->Rat}{c:List Nat}{m:Nat}
abbrev cF(ds:List Due)(l:Nat->Rat)(c:List Nat):Nat->Nat->Rat:=fun a b=>flR ds l (c.getD a 0) (c.getD b 0)
abbrev cR(n:Nat)(ds:List Due)(l:Nat->Rat)(c:List Nat):Nat->Rat:=fun a=>zan n ds l (c.getD a 0)
theorem zf2(x:Nat->Rat){f:Nat->Nat->Rat}{r:Nat->Rat}:sm (m+1) (fun b=>zc0 f r 0 b*x b)=x 0:=by
 rw[Dt.sm_one (i:=0) (by omega) fun j _ hj=>by unfold zc0;rw[if_pos rfl,if_neg hj];grind]
 unfold zc0
 rw[if_pos rfl,if_pos rfl];grind
theorem zf5(hd:∀d∈ds,zM n d)(x:Nat->Rat){a:Nat}(ha:a<m):sm (m+1) (fun b=>zc0 (cF ds l c) (cR n ds l c) (a+1) b*x b)=cR n ds l c (a+1)*x (a+1)-(cF ds l c 0 (a+1)*x 0+sm m (fun b=>cF ds l c (b+1) (a+1)*x (b+1))):=by
 have e:sm (m+1) (fun b=>zc0 (cF ds l c) (cR n ds l c) (a+1) b*x b)=sm (m+1) (fun b=>bal (cF ds l c) (cR n ds l c) (a+1) b*x b):=Dt.sm_congr fun b _=>by
  unfold zc0
  rw[if_neg (by omega)]
 rw[e,Dt.bal_row (f:=cF ds l c) (r:=cR n ds l c) (by omega) (zdS hd _),Dt.sm_front]
theorem zkp(hd:∀d∈ds,zM n d)(hc:Rc.Cir n (gB ds l) (shB ds l) c)(hm:c.length=m+1):Dt.det (m+1) (Dt.cl (zc0 (cF ds l c) (cR n ds l c)))≠0:=fun z=>by
 obtain⟨x,⟨k,hk,hx⟩,hn⟩:=Dt.null_of_det z
 have x0:x 0=0:=by rw[<- zf2 (m:=m) x];exact hn 0 (by omega)
 have L:=zeh hd hc hm
 have hb:∀a,a<m->cR n ds l c (a+1)*x (a+1)-sm m (fun b=>cF ds l c (b+1) (a+1)*x (b+1))=0:=fun a ha=>by
  have:=zf5 (n:=n) (l:=l) (c:=c) hd x ha
  rw[hn (a+1) (by omega),x0]at this
  grind
 have p1:=L.nonneg (s:=fun a=>x (a+1)) fun a ha=>by rw[hb a ha];exact yG
 have p2:=L.nonneg (s:=fun a=>-x (a+1)) fun a ha=>by
  have e2:sm m (fun b=>cF ds l c (b+1) (a+1) * -x (b+1))=-sm m (fun b=>cF ds l c (b+1) (a+1)*x (b+1)):=by
   rw[<- Dt.sm_neg]
   exact Dt.sm_congr fun b _=>by grind
  show 0<=cR n ds l c (a+1) * -x (a+1)-sm m (fun b=>cF ds l c (b+1) (a+1) * -x (b+1))
  rw[e2]
  have:=hb a ha
  grind
 cases k with
 | zero=>exact hx x0
 | succ k=>
  have h1:=p1 k (by omega)
  have h2:=p2 k (by omega)
  exact hx (by grind)
theorem zk0(hd:∀d∈ds,zM n d)(hc:Rc.Cir n (gB ds l) (shB ds l) c)(hm:c.length=m+1){x:Nat->Rat}(hx:∀a,a<m+1->sm (m+1) (fun b=>zc0 (cF ds l c) (cR n ds l c) a b*x b)=if a=0 then 1 else 0) :
  (∀i,0<=sF (m+1) (fun a=>c.getD a 0) x i)/\(∀i,i<n->zan n ds l i*sF (m+1) (fun a=>c.getD a 0) x i-sm n (fun j=>flR ds l j i*sF (m+1) (fun a=>c.getD a 0) x j)=0)/\sF (m+1) (fun a=>c.getD a 0) x (c.getD 0 0)=1:=by
 have get:∀a,a<m+1->c[a]?=some (c.getD a 0):=fun a ha=>by
  rw[ye,yj (by omega)];rfl
 have mem:∀a,a<m+1->c.getD a 0∈c:=fun a ha=>ya (get a ha)
 have inj:∀a b,a<m+1->b<m+1->c.getD a 0=c.getD b 0->a=b:=fun a b ha hb e=>zb6 hc.nd (get a ha) (by rw[e];exact get b hb)
 have lt:∀a,a<m+1->c.getD a 0<n:=fun a ha=>hc.lt _ (mem a ha)
 have x0:x 0=1:=by rw[<- zf2 (m:=m) x (f:=cF ds l c) (r:=cR n ds l c),hx 0 (by omega),if_pos rfl]
 have L:=zeh hd hc hm
 have hS:∀a,a<m->cR n ds l c (a+1)*x (a+1)-(cF ds l c 0 (a+1)*x 0+sm m (fun b=>cF ds l c (b+1) (a+1)*x (b+1)))=0:=fun a ha=>by
  rw[<- zf5 (n:=n) hd x ha,hx (a+1) (by omega),if_neg (by omega)]
 have nn1:=L.nonneg (s:=fun a=>x (a+1)) fun a ha=>by
  have h1:=hS a ha
  have h2:=zdb (l:=l) hd (c.getD 0 0) (c.getD (a+1) 0)
  rw[x0]at h1
  show 0<=cR n ds l c (a+1)*x (a+1)-sm m (fun b=>cF ds l c (b+1) (a+1)*x (b+1))
  have h3:cF ds l c 0 (a+1)=flR ds l (c.getD 0 0) (c.getD (a+1) 0):=rfl
  grind
 have nn:∀a,a<m+1->0<=x a:=fun a ha=>by
  cases a with
  | zero=>rw[x0];decide
  | succ a=>exact nn1 a (by omega)
 have off:∀a y,a<m+1->y<n->y∉c->flR ds l (c.getD a 0) y=0:=fun a y ha hy hn=>by
  rcases yam (0<flR ds l (c.getD a 0) y)with q | q
  ·exact absurd (hc.cl _ y (mem a ha) hy (gB_iff.mpr q)) hn
  ·have:=zdb (l:=l) hd (c.getD a 0) y
   grind
 have one:∀j,j<n->j∈c->sF (m+1) (fun a=>c.getD a 0) (fun _=>1) j=1:=fun j _ hj=>by
  obtain⟨a,ha,e⟩:=y9 hj
  have e2:j=c.getD a 0:=by rw[ye,yj ha,<- e];rfl
  rw[e2,zfC (s:=fun a=>c.getD a 0) inj (by omega)]
 have whole:∀b,b<m+1->cR n ds l c b=sm (m+1) (fun a=>cF ds l c b a):=fun b hb=>by
  have:=zkX (n:=n) (m:=m+1) (s:=fun a=>c.getD a 0) (x:=fun _=>1) lt (flR ds l (c.getD b 0))
  have e1:sm n (fun j=>flR ds l (c.getD b 0) j*sF (m+1) (fun a=>c.getD a 0) (fun _=>1) j)=sm n (flR ds l (c.getD b 0)):=Dt.sm_congr fun j hj=>by
   rcases yam (j∈c)with q | q
   ·rw[one j hj q];grind
   ·rw[off b j hb hj q];grind
  rw[e1]at this
  show sm n (flR ds l (c.getD b 0))=_
  rw[this]
  exact Dt.sm_congr fun a _=>by grind
 have tot:sm (m+1) (fun a=>cR n ds l c a*x a-sm (m+1) (fun b=>cF ds l c b a*x b))=0:=by
  have e1:sm (m+1) (fun a=>cR n ds l c a*x a-sm (m+1) (fun b=>cF ds l c b a*x b))=sm (m+1) (fun a=>1*(cR n ds l c a*x a)+(-1)*sm (m+1) (fun b=>cF ds l c b a*x b)):=Dt.sm_congr fun a _=>by grind
  rw[e1,Dt.sm_lin,Dt.sm_swap]
  have e2:sm (m+1) (fun j=>sm (m+1) fun i=>cF ds l c j i*x j)=sm (m+1) (fun a=>cR n ds l c a*x a):=Dt.sm_congr fun j hj=>by
   rw[whole j hj,show sm (m+1) (fun a=>cF ds l c j a)*x j=x j*sm (m+1) (fun a=>cF ds l c j a) by grind,<- Dt.sm_mul]
   exact Dt.sm_congr fun a _=>by grind
  rw[e2];grind
 have hbal:∀a,a<m+1->cR n ds l c a*x a-sm (m+1) (fun b=>cF ds l c b a*x b)=0:=fun a ha=>by
  have rest:∀a,a<m->cR n ds l c (a+1)*x (a+1)-sm (m+1) (fun b=>cF ds l c b (a+1)*x b)=0:=fun a ha=>by
   rw[Dt.sm_front];exact hS a ha
  cases a with
  | succ a=>exact rest a (by omega)
  | zero=>
   rw[Dt.sm_front,Dt.sm_zero (n:=m) rest]at tot
   grind
 refine⟨zoB nn,fun i hi=>?_,by rw[zfC (s:=fun a=>c.getD a 0) inj (by omega)];exact x0⟩
 rw[zkX (s:=fun a=>c.getD a 0) lt (fun j=>flR ds l j i)]
 rcases yam (i∈c)with q | q
 ·obtain⟨a,ha,e⟩:=y9 q
  have e2:i=c.getD a 0:=by rw[ye,yj ha,<- e];rfl
  rw[e2,zfC (s:=fun a=>c.getD a 0) inj (by omega)]
  exact hbal a (by omega)
 ·have e1:sF (m+1) (fun a=>c.getD a 0) x i=0:=zgM fun a ha e=>q (by rw[<- e];exact mem a ha)
  have e2:sm (m+1) (fun a=>flR ds l (c.getD a 0) i*x a)=0:=Dt.sm_zero fun a ha=>by rw[off a i ha hi q];grind
  rw[e1,e2];grind
end
open PySem PySem.Spec PyProof.Rows
open Dt (sm)
def rkL(ds:List Due)(l:Nat->Rat)(i:Nat):Nat:=(stp ds l i).getD 3
section
variable {ds:List Due}{l l':Nat->Rat}{i:Nat}
end
def nsum(f:Nat->Nat):Nat->Nat
 | 0=>0
 | n+1=>nsum f n+f n
theorem zcL{f g:Nat->Nat}:∀{n:Nat},(∀i,i<n->f i<=g i)->nsum f n<=nsum g n
 | 0,_=>yg _
 | n+1,h=>Nat.add_le_add (zcL fun i hi=>h i (by omega)) (h n (by omega))
theorem zep{f g:Nat->Nat}{j:Nat}:∀{n:Nat},(∀i,i<n->f i<=g i)->j<n->f j<g j->nsum f n<nsum g n
 | n+1,h,hj,hl=>by
  have h1:=zcL (n:=n) fun i hi=>h i (by omega)
  have h2:=h n (by omega)
  show nsum f n+f n<nsum g n+g n
  rcases yI (yQ hj)with g' | g'
  ·have:=zep (n:=n) (fun i hi=>h i (by omega)) g' hl
   omega
  ·rw[g']at hl;omega
theorem zer{f:Nat->Nat}{b:Nat}:∀{n:Nat},(∀i,i<n->f i<=b)->nsum f n<=b*n
 | 0,_=>yF _
 | n+1,h=>by
  have h1:=zer (n:=n) fun i hi=>h i (by omega)
  have h2:=h n (by omega)
  show nsum f n+f n<=b*(n+1)
  rw[Nat.mul_succ];omega
def zi4(ds:List Due)(l:Nat->Rat)(i:Nat):Nat:=nsum (fun r=>if 0<zD ds i r/\zab (zD ds i) (r+1)<=l i then 1 else 0) 3
theorem zgm{ds:List Due}{l l':Nat->Rat}{i:Nat}(h:l i<=l' i):zi4 ds l i<=zi4 ds l' i:=zcL fun r _=>by
 by_cases g:0<zD ds i r/\zab (zD ds i) (r+1)<=l i
 ·rw[if_pos g,if_pos ⟨g.1,yP g.2 h⟩];exact yg _
 ·rw[if_neg g];exact yF _
theorem zp6{ds:List Due}{l l':Nat->Rat}{i ρ:Nat}(h0:0<=l i)(h:l i<=l' i)(hs:stp ds l i=some ρ)(hf:zab (zD ds i) (ρ+1)<=l' i):zi4 ds l i<zi4 ds l' i:=by
 obtain⟨h3,up,_⟩:=zbM hs
 refine zep (j:=ρ) (fun r _=>?_) h3 ?_
 ·by_cases g:0<zD ds i r/\zab (zD ds i) (r+1)<=l i
  ·rw[if_pos g,if_pos ⟨g.1,yP g.2 h⟩];exact yg _
  ·rw[if_neg g];exact yF _
 ·rw[if_neg fun z=>absurd z.2 (Rat.not_le.mpr up),if_pos ⟨zcW h0 hs,hf⟩];decide
def zfA(n:Nat)(ds:List Due)(l:Nat->Rat):Nat:=nsum (zi4 ds l) n
def zgt(ds:List Due)(i:Nat):Nat:=nsum (fun r=>if 0<zD ds i r then 1 else 0) 3
def zcP(n:Nat)(ds:List Due):Nat:=nsum (zgt ds) n
theorem zqC{n:Nat}{ds:List Due}{l:Nat->Rat}:zfA n ds l<=zcP n ds:=zcL fun i _=>zcL fun r _=>by
 by_cases g:0<zD ds i r/\zab (zD ds i) (r+1)<=l i
 ·rw[if_pos g,if_pos g.1];exact yg _
 ·rw[if_neg g];exact yF _
theorem zf1{f g:Nat->Nat}:∀{n:Nat},nsum (fun i=>f i+g i) n=nsum f n+nsum g n
 | 0=>rfl
 | n+1=>by show nsum (fun i=>f i+g i) n+(f n+g n)=nsum f n+f n+(nsum g n+g n);rw[zf1 (n:=n)];omega
theorem zdF:∀{n:Nat} {f:Nat->Nat},(∀i,i<n->f i=0)->nsum f n=0
 | 0,_,_=>rfl
 | n+1,f,h=>by show nsum f n+f n=0;rw[zdF (n:=n) fun i hi=>h i (by omega),h n (by omega)]
theorem zf7{f:Nat->Nat}{j:Nat}:∀{n:Nat},(∀i,i<n->i≠j->f i=0)->nsum f n<=f j
 | 0,_=>yF _
 | n+1,h=>by
  show nsum f n+f n<=f j
  by_cases e:n=j
  ·rw[zdF fun i hi=>h i (by omega) (by omega),e];omega
  ·rw[h n (by omega) e]
   exact zf7 (n:=n) fun i hi=>h i (by omega)
theorem zqa{n:Nat}(ds:List Due):(∀d∈ds,0<=d.a)->zcP n ds<=ds.length:=
 zaY (P:=fun ds=>(∀d∈ds,0<=d.a)->zcP n ds<=ds.length) (fun _=>by
  show nsum (zgt []) n<=0
  have z:nsum (zgt []) n=0:=zdF fun i _=>by
   unfold zgt
   exact zdF fun r _=>if_neg (by show ¬(0:Int)<0;omega)
  rw[z];exact yg _) (fun es d ih h=>by
  have h1:=ih fun e he=>h e (yr _ he)
  have h2:=h d (ym _ (.head _))
  rw[yb,y8]
  have e:zcP n (es++[d])<=nsum (fun i=>zgt es i+nsum (fun r=>if d.p=(i:Int)/\d.r=(r:Int)then 1 else 0) 3) n:=zcL fun i _=>by
   unfold zgt
   rw[<- zf1]
   refine zcL fun r _=>?_
   rw[zaM]
   have h3:=zdT (m:=i) (r:=r) es fun e he=>h e (yr _ he)
   by_cases c:d.p=(i:Int)/\d.r=(r:Int)
   ·rw[if_pos c,if_pos c];split<;>split<;>omega
   ·rw[if_neg c,if_neg c];exact yg _
  rw[zf1]at e
  have e2:nsum (fun i=>nsum (fun r=>if d.p=(i:Int)/\d.r=(r:Int)then 1 else 0) 3) n<=1:=by
   refine yc (zf7 (j:=d.p.toNat) fun i _ hi=>zdF fun r _=>if_neg fun z=>hi (by omega)) ?_
   refine yc (zf7 (j:=d.r.toNat) fun r _ hr=>if_neg fun z=>hr (by omega)) ?_
   split<;>omega
  have e3:nsum (zgt es) n=zcP n es:=rfl
  omega) ds
def zbX(ds:List Due)(l:Nat->Rat)(i:Nat):Rat:=zab (zD ds i) (rkL ds l i+1)
def zaz(ds:List Due)(l r:Nat->Rat)(i:Nat):Rat:=(zbX ds l i-l i)/r i
def zaw(ds:List Due)(l r:Nat->Rat):Nat->Option Rat
 | 0=>none
 | k+1=>if 0<r k then(match zaw ds l r k with | none=>some (zaz ds l r k) | some q=>some (if zaz ds l r k<q then zaz ds l r k else q))else zaw ds l r k
section
variable {ds:List Due}{l r:Nat->Rat}
theorem zc1:∀{k:Nat},zaw ds l r k=none->∀i,i<k->¬0<r i
 | 0,_,i,h=>absurd h (yaB _)
 | k+1,h,i,hi=>by
  have h':(if 0<r k then(match zaw ds l r k with | none=>some (zaz ds l r k) | some q=>some (if zaz ds l r k<q then zaz ds l r k else q))else zaw ds l r k)=none:=h
  by_cases g:0<r k
  ·rw[if_pos g]at h'
   split at h'<;>cases h'
  ·rw[if_neg g]at h'
   rcases yI (yQ hi)with e | e
   ·exact zc1 h' i e
   ·rw[e];exact g
theorem zca:∀{k:Nat} {x:Rat},zaw ds l r k=some x->(∃i,i<k/\0<r i/\x=zaz ds l r i)/\∀i,i<k->0<r i->x<=zaz ds l r i
 | 0,_,h=>by cases h
 | k+1,x,h=>by
  have h':(if 0<r k then(match zaw ds l r k with | none=>some (zaz ds l r k) | some q=>some (if zaz ds l r k<q then zaz ds l r k else q))else zaw ds l r k)=some x:=h
  by_cases g:0<r k
  ·rw[if_pos g]at h'
   cases e:zaw ds l r k with
   | none=>
    rw[e]at h'
    cases h'
    refine⟨⟨k,by omega,g,rfl⟩,fun i hi hr=>?_⟩
    rcases yI (yQ hi)with q | q
    ·exact absurd hr (zc1 e i q)
    ·rw[q];exact yG
   | some q=>
    rw[e]at h'
    dsimp only at h'
    obtain⟨⟨j,hj,hjr,hjx⟩,hmin⟩:=zca (k:=k) e
    by_cases c:zaz ds l r k<q
    ·rw[if_pos c]at h'
     cases h'
     refine⟨⟨k,by omega,g,rfl⟩,fun i hi hr=>?_⟩
     rcases yI (yQ hi)with w | w
     ·have:=hmin i w hr;grind
     ·rw[w];exact yG
    ·rw[if_neg c]at h'
     cases h'
     refine⟨⟨j,by omega,hjr,hjx⟩,fun i hi hr=>?_⟩
     rcases yI (yQ hi)with w | w
     ·exact hmin i w hr
     ·rw[w];exact yaA.mp c
  ·rw[if_neg g]at h'
   obtain⟨⟨j,hj,hjr,hjx⟩,hmin⟩:=zca (k:=k) h'
   refine⟨⟨j,by omega,hjr,hjx⟩,fun i hi hr=>?_⟩
   rcases yI (yQ hi)with w | w
   ·exact hmin i w hr
   ·rw[w]at hr;exact absurd hr g
end
theorem zdM{a b:Rat}(h:0<b):a/b*b=a:=by
 have hb:b≠0:=fun z=>by rw[z]at h;exact absurd h (by decide)
 exact ybD hb
theorem ze6{ds:List Due}{l:Nat->Rat}{i ρ:Nat}(hs:stp ds l i=some ρ):zbX ds l i=zab (zD ds i) (ρ+1):=by
 unfold zbX rkL
 rw[hs];rfl
section
variable {n:Nat}{ds:List Due}{l s:Nat->Rat}{x:Rat}
abbrev rtR(n:Nat)(ds:List Due)(l s:Nat->Rat)(i:Nat):Rat:=s i*zan n ds l i
theorem zeH(hd:∀d∈ds,zM n d){i:Nat}(h:0<rtR n ds l s i):∃ρ,stp ds l i=some ρ:=by
 cases hs:stp ds l i with
 | some ρ=>exact⟨ρ,rfl⟩
 | none=>
  unfold rtR at h
  rw[zjb hs]at h
  exact absurd h (by rw[show s i*(0:Rat)=0 by grind];decide)
theorem zni(hd:∀d∈ds,zM n d){i:Nat}(h:0<rtR n ds l s i):0<zaz ds l (rtR n ds l s) i:=by
 obtain⟨ρ,hs⟩:=zeH hd h
 have up:=(zbM hs).2.1
 unfold zaz
 rw[ze6 hs,ybx]
 exact ybm (by grind) (Rat.inv_pos.mpr h)
theorem zpm(hd:∀d∈ds,zM n d)(s0:∀i,i<n->0<=s i)(x0:0<=x)(hx:∀i,i<n->0<rtR n ds l s i->x<=zaz ds l (rtR n ds l s) i){i:Nat}(hi:i<n){ρ:Nat}(hs:stp ds l i=some ρ):l i+x*(s i*zan n ds l i)<=zab (zD ds i) (ρ+1):=by
 have up:=(zbM hs).2.1
 by_cases h:0<rtR n ds l s i
 ·have h1:=hx i hi h
  have h2:=yH h1 (Rat.le_of_lt h)
  unfold zaz at h2
  rw[zdM h,ze6 hs]at h2
  unfold rtR at h2
  grind
 ·have h1:=zdY hd hs
  have h2:0<=zan n ds l i:=by
   rw[h1]
   exact zaq (zdT ds fun d hm=>(hd d hm).2.2.2.2.2.2.2.1)
  have h3:=yB (s0 i hi) h2
  have h4:s i*zan n ds l i=0:=by unfold rtR at h;grind
  rw[h4];grind
theorem zm6(hd:∀d∈ds,zM n d){i:Nat}(h:0<rtR n ds l s i)(hx:x=zaz ds l (rtR n ds l s) i){ρ:Nat}(hs:stp ds l i=some ρ):zab (zD ds i) (ρ+1)<=l i+x*(s i*zan n ds l i):=by
 have h2:x*rtR n ds l s i=zbX ds l i-l i:=by
  rw[hx];unfold zaz
  exact zdM h
 rw[ze6 hs]at h2
 unfold rtR at h2
 grind
end
end Internal
namespace Dt
theorem Leak.uniq{n:Nat}{f:Nat->Nat->Rat}{r d:Nat->Rat}(h:Leak n f r)(e:∀i,i<n->r i*d i-sm n (fun j=>f j i*d j)=0):∀i,i<n->d i=0:=fun m hm=>by
 have p1:=h.nonneg (s:=d) (fun i hi=>by rw[e i hi];exact yG) m hm
 have p2:=h.nonneg (s:=fun j=>-d j) (fun i hi=>by
  have e2:sm n (fun j=>f j i * -d j)=-sm n (fun j=>f j i*d j):=by
   rw[<- sm_neg]
   exact sm_congr fun j _=>by grind
  show 0<=r i * -d i-sm n (fun j=>f j i * -d j)
  rw[e2]
  have:=e i hi
  grind) m hm
 grind
theorem sm_sub{f g:Nat->Rat}(n:Nat):sm n (fun i=>f i-g i)=sm n f-sm n g:=by
 have e:sm n (fun i=>f i-g i)=sm n (fun i=>1*f i+(-1)*g i):=sm_congr fun i _=>by grind
 rw[e,sm_lin];grind
end Dt
namespace Internal
open PySem PySem.Spec PyProof.Rows
open Dt (sm Leak bal)
def slL(n:Nat)(ds:List Due)(l:Nat->Rat):List Nat:=(List.range n).filter (shB ds l)
abbrev crL(n:Nat)(ds:List Due)(l:Nat->Rat):List Nat:=Rc.circle n (gB ds l) (shB ds l)
def zc9(n:Nat)(ds:List Due)(l:Nat->Rat)(c:List Nat)(x:Nat->Rat):Prop:=∀a,a<c.length->sm c.length (fun b=>zc0 (cF ds l c) (cR n ds l c) a b*x b)=if a=0 then 1 else 0
def zdy(n:Nat)(ds:List Due)(p l:Nat->Rat)(c:List Nat)(x:Nat->Rat):Prop:=∀a,a<c.length->sm c.length (fun b=>bal (cF ds l c) (cR n ds l c) a b*x b)=p (c.getD a 0)
def zjw(n:Nat)(ds:List Due)(l:Nat->Rat)(c:List Nat):Nat->Rat:=Classical.epsilon (zc9 n ds l c)
def zhp(n:Nat)(ds:List Due)(p l:Nat->Rat)(c:List Nat):Nat->Rat:=Classical.epsilon (zdy n ds p l c)
section
variable {n:Nat}{ds:List Due}{p l:Nat->Rat}{t:Rat}
theorem sl_mem{i:Nat}:i∈slL n ds l↔i<n/\shB ds l i=true:=by
 unfold slL
 rw[yaI,yU]
theorem zdU:(slL n ds l).Nodup:=ybO.filter _
theorem zaZ{c:List Nat}{a:Nat}(ha:a<c.length):c.getD a 0∈c:=by
 rw[ye,yj ha]
 exact ybP ha
theorem zbt{c:List Nat}(nd:c.Nodup)(a b:Nat)(ha:a<c.length)(hb:b<c.length)(e:c.getD a 0=c.getD b 0):a=b:=by
 have g:∀a,a<c.length->c[a]?=some (c.getD a 0):=fun a ha=>by rw[ye,yj ha];rfl
 exact zb6 nd (g a ha) (by rw[e];exact g b hb)
theorem znn{c:List Nat}{x:Nat}(h:x∈c):∃a,a<c.length/\x=c.getD a 0:=by
 obtain⟨a,ha,e⟩:=y9 h
 exact⟨a,ha,by rw[ye,yj ha,<- e];rfl⟩
theorem znj(hd:∀d∈ds,zM n d)(hc:crL n ds l=[]){x y:Nat->Rat}(hx:zdy n ds p l (slL n ds l) x)(hy:zdy n ds p l (slL n ds l) y):∀a,a<(slL n ds l).length->x a=y a:=fun a ha=>by
 have L:=zec hd hc (m:=(slL n ds l).length) (s:=fun a=>(slL n ds l).getD a 0) (fun a ha=>sl_mem.mp (zaZ ha)) (zbt zdU)
 have:=L.uniq (d:=fun a=>x a-y a) (fun i hi=>by
  have h1:=hx i hi
  have h2:=hy i hi
  rw[Dt.bal_row (f:=cF ds l (slL n ds l)) (r:=cR n ds l (slL n ds l)) hi (zdS hd _)]at h1 h2
  have e:sm (slL n ds l).length (fun j=>cF ds l (slL n ds l) j i*(x j-y j))=sm (slL n ds l).length (fun j=>cF ds l (slL n ds l) j i*x j)-sm (slL n ds l).length (fun j=>cF ds l (slL n ds l) j i*y j):=by
   rw[<- Dt.sm_sub]
   exact Dt.sm_congr fun j _=>by grind
  show cR n ds l (slL n ds l) i*(x i-y i)-sm (slL n ds l).length (fun j=>cF ds l (slL n ds l) j i*(x j-y j))=0
  rw[e];grind) a ha
 grind
theorem zn9(hd:∀d∈ds,zM n d){c:List Nat}(hc:Rc.Cir n (gB ds l) (shB ds l) c){x y:Nat->Rat}(hx:zc9 n ds l c x)(hy:zc9 n ds l c y):∀a,a<c.length->x a=y a:=fun a ha=>by
 obtain⟨m,hm⟩:∃m,c.length=m+1:=⟨c.length-1,by omega⟩
 unfold zc9 at hx hy
 rw[hm]at hx hy ha
 have L:=zeh hd hc hm
 have x0:x 0=y 0:=by
  have h1:=hx 0 (by omega)
  have h2:=hy 0 (by omega)
  rw[zf2]at h1 h2
  rw[h1,h2]
 have:=L.uniq (d:=fun a=>x (a+1)-y (a+1)) (fun i hi=>by
  have h1:=hx (i+1) (by omega)
  have h2:=hy (i+1) (by omega)
  rw[zf5 hd _ hi,if_neg (by omega)]at h1 h2
  have e:sm m (fun j=>cF ds l c (j+1) (i+1)*(x (j+1)-y (j+1)))=sm m (fun j=>cF ds l c (j+1) (i+1)*x (j+1))-sm m (fun j=>cF ds l c (j+1) (i+1)*y (j+1)):=by
   rw[<- Dt.sm_sub]
   exact Dt.sm_congr fun j _=>by grind
  show cR n ds l c (i+1)*(x (i+1)-y (i+1))-sm m (fun j=>cF ds l c (j+1) (i+1)*(x (j+1)-y (j+1)))=0
  rw[e,x0]at *
  grind)
 cases a with
 | zero=>exact x0
 | succ a=>
  have h:=this a (by omega)
  grind
end
def shF(n:Nat)(ds:List Due)(p l:Nat->Rat):Nat->Rat:=
 if crL n ds l=[]then sF (slL n ds l).length (fun a=>(slL n ds l).getD a 0) (zhp n ds p l (slL n ds l))else sF (crL n ds l).length (fun a=>(crL n ds l).getD a 0) (zjw n ds l (crL n ds l))
def rtF(n:Nat)(ds:List Due)(p l:Nat->Rat):Nat->Rat:=rtR n ds l (shF n ds p l)
def stF(n:Nat)(ds:List Due)(p l:Nat->Rat)(t:Rat):Rat:=
 if crL n ds l=[] then(match zaw ds l (rtF n ds p l) n with | none=>1-t | some q=>if 1-t<q then 1-t else q) else(zaw ds l (rtF n ds p l) n).getD 0
def nxL(n:Nat)(ds:List Due)(p l:Nat->Rat)(t:Rat):Nat->Rat:=fun i=>l i+stF n ds p l t*rtF n ds p l i
def nxT(n:Nat)(ds:List Due)(p l:Nat->Rat)(t:Rat):Rat:=if crL n ds l=[]then t+stF n ds p l t else t
def Ans(n:Nat)(ds:List Due)(p l:Nat->Rat):Prop:=if crL n ds l=[]then ∃x,zdy n ds p l (slL n ds l) x else ∃x,zc9 n ds l (crL n ds l) x
section
variable {n:Nat}{ds:List Due}{p l:Nat->Rat}{t:Rat}
theorem ziF(hd:∀d∈ds,zM n d)(p0:∀i,i<n->0<=p i)(ha:Ans n ds p l):(∀i,0<=shF n ds p l i)/\(∀i,i<n->stp ds l i≠none->zan n ds l i*shF n ds p l i-sm n (fun j=>flR ds l j i*shF n ds p l j)=(if crL n ds l=[]then 1 else 0)*p i)/\(crL n ds l≠[]->∃i,i<n/\stp ds l i≠none/\0<shF n ds p l i):=by
 unfold shF
 unfold Ans at ha
 by_cases hc:crL n ds l=[]
 ·rw[if_pos hc]at ha
  rw[if_pos hc,if_pos hc]
  have hx:zdy n ds p l (slL n ds l) (zhp n ds p l (slL n ds l)):=yaw ha
  obtain⟨a1,a2⟩:=zj2 (x:=zhp n ds p l (slL n ds l)) hd hc p0 (m:=(slL n ds l).length) (s:=fun a=>(slL n ds l).getD a 0) (fun a ha=>sl_mem.mp (zaZ ha)) (zbt zdU) (fun i hi hs=>znn (sl_mem.mpr ⟨hi,hs⟩)) hx
  exact⟨a1,a2,fun z=>absurd hc z⟩
 ·rw[if_neg hc]at ha
  rw[if_neg hc,if_neg hc]
  have hC:=Rc.circle_ok hc
  obtain⟨m,hm⟩:∃m,(crL n ds l).length=m+1:=⟨(crL n ds l).length-1,by
   have:(crL n ds l).length≠0:=fun z=>hc (yaf z)
   omega⟩
  have hx:zc9 n ds l (crL n ds l) (zjw n ds l (crL n ds l)):=yaw ha
  unfold zc9 at hx
  rw[hm]at hx
  obtain⟨a1,a2,a3⟩:=zk0 hd hC hm hx
  rw[hm]
  refine⟨a1,fun i hi _=>by rw[a2 i hi];grind,fun _=>⟨(crL n ds l).getD 0 0,?_,?_,?_⟩⟩
  ·exact hC.lt _ (zaZ (show 0<(crL n ds l).length by rw[hm];omega))
  ·have:=hC.sh _ (zaZ (show 0<(crL n ds l).length by rw[hm];omega))
   intro z
   have z':shB ds l ((crL n ds l).getD 0 0)=false:=by unfold shB;rw[show stp ds l ((crL n ds l).getD 0 0)=none from z];rfl
   exact absurd (this.symm.trans z') (by decide)
  ·rw[a3];decide
theorem zpx(hd:∀d∈ds,zM n d)(p0:∀i,i<n->0<=p i)(I:CInv n ds p l t)(t0:0<=t)(t1:t<=1)(ha:Ans n ds p l)(nf:¬(crL n ds l=[]/\t=1)) :
  CInv n ds p (nxL n ds p l t) (nxT n ds p l t)/\0<=nxT n ds p l t/\nxT n ds p l t<=1/\t<=nxT n ds p l t/\(∀i,i<n->l i<=nxL n ds p l t i)/\0<=stF n ds p l t /\
  (zfA n ds l<zfA n ds (nxL n ds p l t)\/(zfA n ds l<=zfA n ds (nxL n ds p l t)/\t<1/\nxT n ds p l t=1)):=by
 obtain⟨s0,hb,hpos⟩:=ziF hd p0 ha
 obtain⟨s,hs⟩:∃s,s=shF n ds p l:=⟨_,rfl⟩
 have ern:rtF n ds p l=rtR n ds l s:=by unfold rtF;rw[hs]
 rw[<- hs]at s0 hb hpos
 -- the step
 have key:∀(x e:Rat),0<=x->(∀i,i<n->0<rtR n ds l s i->x<=zaz ds l (rtR n ds l s) i)->(e=if crL n ds l=[]then 1 else 0)->CInv n ds p (fun i=>l i+x*rtR n ds l s i) (t+x*e):=fun x e x0 hx he=>by
  refine turn hd I (fun i _=>s0 i) x0 (by rw[he];split<;>decide) p0 (fun i hi hst=>by rw[he];exact hb i hi hst) (fun i hi ρ hst=>zpm hd (fun i _=>s0 i) x0 hx hi hst)
 have rn:∀i,0<=rtR n ds l s i:=fun i=>yB (s0 i) (Dt.sm_ge0 fun j _=>zdb hd i j)
 have grow:∀(x:Rat),0<=x->∀i,l i<=l i+x*rtR n ds l s i:=fun x x0 i=>by
  have:=yB x0 (rn i)
  grind
 have fill:∀(x:Rat),0<=x->(∃i,i<n/\0<rtR n ds l s i/\x=zaz ds l (rtR n ds l s) i)->zfA n ds l<zfA n ds (fun i=>l i+x*rtR n ds l s i):=fun x x0 ⟨i,hi,hr,hx⟩=>by
  obtain⟨ρ,hst⟩:=zeH hd hr
  exact zep (fun j hj=>zgm (grow x x0 j)) hi (zp6 (I.lo i hi) (grow x x0 i) hst (zm6 hd hr hx hst))
 have posx:∀{x:Rat},(∃i,i<n/\0<rtR n ds l s i/\x=zaz ds l (rtR n ds l s) i)->0<x:=fun {x} ⟨i,hi,hr,hx⟩=>by rw[hx];exact zni hd hr
 have eL:nxL n ds p l t=fun i=>l i+stF n ds p l t*rtR n ds l s i:=by unfold nxL;rw[ern]
 by_cases hc:crL n ds l=[]
 ·have tl:t<1:=by
   rcases yam (t=1)with z | z
   ·exact absurd ⟨hc,z⟩ nf
   ·grind
  have eT:nxT n ds p l t=t+stF n ds p l t:=if_pos hc
  have eS:stF n ds p l t=match zaw ds l (rtR n ds l s) n with | none=>1-t | some q=>if 1-t<q then 1-t else q:=by unfold stF;rw[if_pos hc,ern]
  cases hq:zaw ds l (rtR n ds l s) n with
  | none=>
   rw[hq]at eS
   dsimp only at eS
   have x0:0<=stF n ds p l t:=by rw[eS];grind
   have K:=key (stF n ds p l t) 1 x0 (fun i hi hr=>absurd hr (zc1 hq i hi)) (by rw[if_pos hc])
   rw[eL,eT]
   refine⟨by rw[show stF n ds p l t*1=stF n ds p l t by grind]at K;exact K,by grind,by grind,by grind,fun i _=>grow _ x0 i,x0,.inr ⟨zcL fun j _=>zgm (grow _ x0 j),tl,by rw[eS];grind⟩⟩
  | some q=>
   rw[hq]at eS
   dsimp only at eS
   obtain⟨hex,hmin⟩:=zca hq
   have q0:=posx hex
   by_cases c:1-t<q
   ·rw[if_pos c]at eS
    have x0:0<=stF n ds p l t:=by rw[eS];grind
    have K:=key (stF n ds p l t) 1 x0 (fun i hi hr=>by have:=hmin i hi hr;rw[eS];grind) (by rw[if_pos hc])
    rw[eL,eT]
    refine⟨by rw[show stF n ds p l t*1=stF n ds p l t by grind]at K;exact K,by grind,by grind,by grind,fun i _=>grow _ x0 i,x0,.inr ⟨zcL fun j _=>zgm (grow _ x0 j),tl,by rw[eS];grind⟩⟩
   ·rw[if_neg c]at eS
    have x0:0<=stF n ds p l t:=by rw[eS];grind
    have K:=key (stF n ds p l t) 1 x0 (fun i hi hr=>by rw[eS];exact hmin i hi hr) (by rw[if_pos hc])
    rw[eL,eT]
    refine⟨by rw[show stF n ds p l t*1=stF n ds p l t by grind]at K;exact K,by grind,by grind,by grind,fun i _=>grow _ x0 i,x0,.inl (fill _ x0 (by rw[eS];exact hex))⟩
 ·have eT:nxT n ds p l t=t:=if_neg hc
  have eS:stF n ds p l t=(zaw ds l (rtR n ds l s) n).getD 0:=by unfold stF;rw[if_neg hc,ern]
  obtain⟨i,hi,hst,hsi⟩:=hpos hc
  have hr:0<rtR n ds l s i:=by
   cases h:stp ds l i with
   | none=>exact absurd h hst
   | some ρ=>exact ybm hsi (zfK hd (I.lo i hi) h)
  cases hq:zaw ds l (rtR n ds l s) n with
  | none=>exact absurd hr (zc1 hq i hi)
  | some q=>
   rw[hq]at eS
   have eS':stF n ds p l t=q:=eS
   obtain⟨hex,hmin⟩:=zca hq
   have q0:=posx hex
   have x0:0<=stF n ds p l t:=by rw[eS'];grind
   have K:=key (stF n ds p l t) 0 x0 (fun i hi hr=>by rw[eS'];exact hmin i hi hr) (by rw[if_neg hc])
   rw[eL,eT]
   refine⟨by rw[show t+stF n ds p l t*0=t by grind]at K;exact K,t0,t1,yG,fun i _=>grow _ x0 i,x0,.inl (fill _ x0 (by rw[eS'];exact hex))⟩
end
end Internal
namespace Dt
def Wh(q:Rat):Prop:=∃k:Int,q=(k:Rat)
theorem Wh.add{a b:Rat}(h:Wh a)(g:Wh b):Wh (a+b):=by
 obtain⟨k,rfl⟩:=h
 obtain⟨j,rfl⟩:=g
 exact⟨k+j,by rw[yS]⟩
theorem Wh.mul{a b:Rat}(h:Wh a)(g:Wh b):Wh (a*b):=by
 obtain⟨k,rfl⟩:=h
 obtain⟨j,rfl⟩:=g
 exact⟨k*j,by rw[yu]⟩
theorem Wh.neg{a:Rat}(h:Wh a):Wh (-a):=by
 obtain⟨k,rfl⟩:=h
 exact⟨-k,by rw[yaJ]⟩
theorem Wh.sub{a b:Rat}(h:Wh a)(g:Wh b):Wh (a-b):=by
 rw[show a-b=a + -b by grind]
 exact h.add g.neg
theorem Wh.zero:Wh 0:=⟨0,rfl⟩
theorem Wh.one:Wh 1:=⟨1,rfl⟩
theorem Wh.sums{f:Nat->Rat}:∀{n:Nat},(∀i,i<n->Wh (f i))->Wh (sm n f)
 | 0,_=>Wh.zero
 | n+1,h=>Wh.add (Wh.sums fun i hi=>h i (by omega)) (h n (by omega))
theorem Wh.sgn:∀k:Nat,Wh (Dt.sgn k)
 | 0=>Wh.one
 | k+1=>(Wh.sgn k).neg
theorem Wh.det:∀{n:Nat} {c:Nat->Nat->Rat},(∀j r,j<n->r<n->Wh (c j r))->Wh (Dt.det n c)
 | 0,_,_=>Wh.one
 | n+1,c,h=>by
  unfold Dt.det
  refine Wh.sums fun i hi=>?_
  refine((Wh.sgn (n+i)).mul (h n i (by omega) hi)).mul (Wh.det fun j r hj hr=>?_)
  rw[zel]
  exact h j _ (by omega) (by unfold up;split<;>omega)
theorem cram{n i:Nat}{A:Nat->Nat->Rat}{x b:Nat->Rat}(h:∀a,a<n->sm n (fun m=>A a m*x m)=b a)(hi:i<n):x i*det n (cl A)=det n (setc (cl A) i b):=by
 rw[<- zgL (c:=cl A) (a:=x) hi]
 refine det_congr fun j r hj hr=>?_
 unfold setc
 by_cases e:j=i
 ·rw[if_pos e,if_pos e,<- h r hr]
  exact sm_congr fun m _=>by show x m*A r m=A r m*x m;grind
 ·rw[if_neg e,if_neg e]
theorem zgK{B C:Nat->Rat}:∀{n:Nat},(∀j,j<n->0<=B j/\B j<=C j)->prodN B n<=prodN C n
 | 0,_=>yG
 | n+1,h=>by
  have h1:=zgK (n:=n) fun j hj=>h j (by omega)
  have h2:=h n (by omega)
  have h3:0<=prodN B n:=prodN_nn fun j hj=>(h j (by omega)).1
  show prodN B n*B n<=prodN C n*C n
  have a1:=yJ h2.2 h3
  have a2:=yH h1 (yP h2.1 h2.2)
  exact yP a1 a2
theorem zhV{W P:Rat}(hW:1<=W)(hP:1<=P){i:Nat}:∀{n:Nat},prodN (fun j=>if j=i then P else W) n<=prodN (fun _=>W) n*P
 | 0=>by show(1:Rat)<=1*P;grind
 | n+1=>by
  have w0:0<=prodN (fun _=>W) n:=prodN_nn fun _ _=>by grind
  show prodN (fun j=>if j=i then P else W) n*(if n=i then P else W)<=prodN (fun _=>W) n*W*P
  by_cases e:n=i
  ·rw[if_pos e]
   have h1:prodN (fun j=>if j=i then P else W) n<=prodN (fun _=>W) n:=zgK fun j hj=>by rw[if_neg (by omega)];grind
   have h2:=yH h1 (show 0<=P by grind)
   have h3:=yJ hW (yB w0 (show 0<=P by grind))
   grind
  ·rw[if_neg e]
   have h1:=yH (zhV hW hP (i:=i) (n:=n)) (show 0<=W by grind)
   grind
theorem sys_size{n:Nat}{A bb:Nat->Nat->Rat}{x b pb:Nat->Rat}{W P:Rat}(h:∀a,a<n->sm n (fun m=>A a m*x m)=b a)(wA:∀a m,a<n->m<n->Wh (A a m))(wb:∀a,a<n->Wh (b a))(hb:∀a m,a<n->m<n->Bd (bb m a) (A a m))(hs:∀m,m<n->sm n (bb m)<=W)(hpb:∀a,a<n->Bd (pb a) (b a))(hps:sm n pb<=P)(hW:1<=W)(hP:1<=P) :
  Wh (det n (cl A))/\Bd (prodN (fun _=>W) n*P) (det n (cl A))/\∀i,i<n->Wh (x i*det n (cl A))/\Bd (prodN (fun _=>W) n*P) (x i*det n (cl A)):=by
 have w0:0<=prodN (fun _=>W) n:=prodN_nn fun _ _=>by grind
 refine⟨Wh.det fun j r hj hr=>wA r j hr hj,?_,fun i hi=>?_⟩
 ·have:=Bd.det_col (B:=fun _=>W) (n:=n) (c:=cl A) (b:=bb) (fun j r hj hr=>hb r j hr hj) hs
  refine this.wide ?_
  have:=yJ hP w0
  grind
 ·rw[cram h hi]
  refine⟨Wh.det fun j r hj hr=>?_,?_⟩
  ·unfold setc
   split
   ·exact wb r hr
   ·exact wA r j hr hj
  ·have:=Bd.det_col (B:=fun j=>if j=i then P else W) (n:=n) (c:=setc (cl A) i b) (b:=fun j=>if j=i then pb else bb j) (fun j r hj hr=>by
    unfold setc
    by_cases e:j=i
    ·rw[if_pos e,if_pos e];exact hpb r hr
    ·rw[if_neg e,if_neg e];exact hb r j hr hj) (fun j hj=>by
    by_cases e:j=i
    ·rw[if_pos e,if_pos e];exact hps
    ·rw[if_neg e,if_neg e];exact hs j hj)
   exact this.wide (zhV hW hP)
end Dt
namespace Internal
open PySem PySem.Spec PyProof.Rows
open Dt (sm Leak bal Wh Bd prodN)
section
variable {n:Nat}{ds:List Due}{p l:Nat->Rat}{t W P:Rat}
theorem zlD(i j:Nat):Wh (flR ds l i j):=⟨_,rfl⟩
theorem zfb(i:Nat):Wh (zan n ds l i):=Wh.sums fun j _=>zlD i j
theorem zkt(hd:∀d∈ds,zM n d)(i:Nat):0<=zan n ds l i:=Dt.sm_ge0 fun j _=>zdb hd i j
set_option genInjectivity false in
set_option genSizeOf false in
structure ShW(n:Nat)(ds:List Due)(p l:Nat->Rat)(M:Rat)(Δ:Rat):Prop where
 w:Wh Δ
 ne:Δ≠0
 bd:Bd M Δ
 ws:∀i,i<n->Wh (shF n ds p l i*Δ)
 bs:∀i,i<n->Bd M (shF n ds p l i*Δ)
theorem ziw{m:Nat}{s:Nat->Nat}{x:Nat->Rat}{Δ M:Rat}(M0:0<=M)(inj:∀a b,a<m->b<m->s a=s b->a=b)(h:∀a,a<m->Wh (x a*Δ)/\Bd M (x a*Δ))(i:Nat):Wh (sF m s x i*Δ)/\Bd M (sF m s x i*Δ):=by
 rcases yam (∃a,a<m/\s a=i) with⟨a,ha,e⟩ | z
 ·rw[<- e,zfC inj ha];exact h a ha
 ·rw[zgM fun a ha e=>z ⟨a,ha,e⟩,show(0:Rat)*Δ=0 by grind]
  exact⟨Wh.zero,by constructor<;>grind⟩
theorem zjJ(hd:∀d∈ds,zM n d){c:List Nat}(nd:c.Nodup)(lt:∀x∈c,x<n)(hW:∀i,i<n->2*zan n ds l i<=W){m:Nat}(hm:m<c.length):sm c.length (fun a=>if a=m then cR n ds l c a else cF ds l c m a)<=W:=by
 have l1:c.getD m 0<n:=lt _ (zaZ hm)
 have h1:sm c.length (fun a=>cF ds l c m a)<=zan n ds l (c.getD m 0):=Dt.sm_some (n:=n) (s:=fun a=>c.getD a 0) c.length (h:=flR ds l (c.getD m 0)) (fun x _=>zdb hd _ x) (fun a ha=>lt _ (zaZ ha)) (zbt nd)
 have e:sm c.length (fun a=>if a=m then cR n ds l c a else cF ds l c m a)<=sm c.length (fun a=>(if a=m then cR n ds l c m else 0)+cF ds l c m a):=Dt.sm_mono fun a ha=>by
  by_cases g:a=m
  ·rw[if_pos g,if_pos g,g]
   have:cF ds l c m m=0:=zdS hd _
   rw[this];grind
  ·rw[if_neg g,if_neg g];grind
 rw[Dt.sm_add,Dt.sm_one (i:=m) hm fun j _ hj=>if_neg hj,if_pos rfl]at e
 have:=hW _ l1
 have h2:cR n ds l c m=zan n ds l (c.getD m 0):=rfl
 grind
theorem zlV(hd:∀d∈ds,zM n d){c:List Nat}(a m:Nat):Bd (if a=m then cR n ds l c a else cF ds l c m a) (bal (cF ds l c) (cR n ds l c) a m):=by
 unfold bal
 have h1:=zkt (n:=n) (l:=l) hd (c.getD a 0)
 have h2:=zdb (n:=n) (l:=l) hd (c.getD m 0) (c.getD a 0)
 by_cases g:a=m
 ·rw[if_pos g,if_pos g]
  show Bd (zan n ds l (c.getD a 0)) (zan n ds l (c.getD a 0))
  constructor<;>grind
 ·rw[if_neg g,if_neg g]
  show Bd (flR ds l (c.getD m 0) (c.getD a 0)) (-flR ds l (c.getD m 0) (c.getD a 0))
  constructor<;>grind
theorem zeI{k:Nat}(hW:1<=W):∀{n:Nat},k<=n->prodN (fun _=>W) k<=prodN (fun _=>W) n
 | 0,h=>by rw[show k=0 by omega];exact yG
 | n+1,h=>by
  have w0:∀j,0<=prodN (fun _=>W) j:=fun j=>Dt.prodN_nn fun _ _=>by grind
  rcases yI h with g | g
  ·have h1:=zeI hW (k:=k) (n:=n) (by omega)
   have h2:=yJ hW (w0 n)
   show prodN (fun _=>W) k<=prodN (fun _=>W) n*W
   grind
  ·rw[g];exact yG
theorem zmU(hd:∀d∈ds,zM n d)(p0:∀i,i<n->0<=p i)(pw:∀i,i<n->Wh (p i))(lo:∀i,i<n->0<=l i)(ha:Ans n ds p l)(hW:∀i,i<n->2*zan n ds l i<=W)(W1:1<=W)(hP:sm n p<=P)(P1:1<=P):∃Δ,ShW n ds p l (prodN (fun _=>W) n*P) Δ:=by
 have w0:∀j,0<=prodN (fun _=>W) j:=fun j=>Dt.prodN_nn fun _ _=>by grind
 have M0:0<=prodN (fun _=>W) n*P:=yB (w0 n) (by grind)
 have up:∀{k:Nat},k<=n->prodN (fun _=>W) k*P<=prodN (fun _=>W) n*P:=fun hk=>yH (zeI W1 hk) (by grind)
 by_cases hc:crL n ds l=[]
 ·obtain⟨c,hce⟩:∃c,c=slL n ds l:=⟨_,rfl⟩
  have nd:c.Nodup:=by rw[hce];exact zdU
  have lt:∀x∈c,x<n:=fun x hx=>by rw[hce]at hx;exact(sl_mem.mp hx).1
  have hx:zdy n ds p l c (zhp n ds p l c):=by
   unfold Ans at ha
   rw[if_pos hc]at ha
   rw[hce]
   exact yaw ha
  have L:=zec hd hc (m:=c.length) (s:=fun a=>c.getD a 0) (fun a ha=>by rw[hce]at ha ⊢;exact sl_mem.mp (zaZ ha)) (zbt nd)
  have hn:c.length<=n:=Rc.len_le nd lt
  obtain⟨a1,a2,a3⟩:=Dt.sys_size (n:=c.length) (A:=bal (cF ds l c) (cR n ds l c)) (bb:=fun m a=>if a=m then cR n ds l c a else cF ds l c m a) (x:=zhp n ds p l c) (b:=fun a=>p (c.getD a 0)) (pb:=fun a=>p (c.getD a 0)) (W:=W) (P:=P) hx (fun a m _ _=>by
   unfold bal
   split
   ·exact zfb _
   ·exact(zlD _ _).neg) (fun a ha=>pw _ (lt _ (zaZ ha))) (fun a m _ _=>zlV hd a m) (fun m hm=>zjJ hd nd lt hW hm) (fun a ha=>by have:=p0 _ (lt _ (zaZ ha));constructor<;>grind) (yP (Dt.sm_some (n:=n) (s:=fun a=>c.getD a 0) c.length (h:=p) p0 (fun a ha=>lt _ (zaZ ha)) (zbt nd)) hP) W1 P1
  refine⟨Dt.det c.length (Dt.cl (bal (cF ds l c) (cR n ds l c))),a1,L.det,a2.wide (up hn),fun i hi=>?_,fun i hi=>?_⟩
  ·have:=ziw (i:=i) (yB (w0 c.length) (show 0<=P by grind)) (s:=fun a=>c.getD a 0) (zbt nd) a3
   unfold shF
   rw[if_pos hc,<- hce]
   exact this.1
  ·have:=ziw (i:=i) (yB (w0 c.length) (show 0<=P by grind)) (s:=fun a=>c.getD a 0) (zbt nd) a3
   unfold shF
   rw[if_pos hc,<- hce]
   exact this.2.wide (up hn)
 ·obtain⟨c,hce⟩:∃c,c=crL n ds l:=⟨_,rfl⟩
  have hC:Rc.Cir n (gB ds l) (shB ds l) c:=by rw[hce];exact Rc.circle_ok hc
  have nd:=hC.nd
  have lt:=hC.lt
  obtain⟨m,hm⟩:∃m,c.length=m+1:=⟨c.length-1,by
   have:c.length≠0:=fun z=>hC.ne (yaf z)
   omega⟩
  have hx:zc9 n ds l c (zjw n ds l c):=by
   unfold Ans at ha
   rw[if_neg hc]at ha
   rw[hce]
   exact yaw ha
  have hdt:=zkp hd hC hm
  rw[<- hm]at hdt
  have hn:c.length<=n:=Rc.len_le nd lt
  have r1:∀a,a<c.length->1<=cR n ds l c a:=fun a ha=>by
   have hs:=hC.sh _ (zaZ ha)
   cases h:stp ds l (c.getD a 0) with
   | none=>unfold shB at hs;rw[h]at hs;cases hs
   | some ρ=>
    have hp:=zcW (lo _ (lt _ (zaZ ha))) h
    show 1<=zan n ds l (c.getD a 0)
    rw[zdY hd h]
    exact_mod_cast hp
  obtain⟨a1,a2,a3⟩:=Dt.sys_size (n:=c.length) (A:=zc0 (cF ds l c) (cR n ds l c)) (bb:=fun m a=>if a=0 then(if m=0 then 1 else 0)else if a=m then cR n ds l c a else cF ds l c m a) (x:=zjw n ds l c) (b:=fun a=>if a=0 then 1 else 0) (pb:=fun a=>if a=0 then 1 else 0) (W:=W) (P:=P) hx (fun a m _ _=>by
   unfold zc0
   split
   ·split
    ·exact Wh.one
    ·exact Wh.zero
   ·unfold bal
    split
    ·exact zfb _
    ·exact(zlD _ _).neg) (fun a _=>by
   split
   ·exact Wh.one
   ·exact Wh.zero) (fun a m _ _=>by
   unfold zc0
   by_cases g:a=0
   ·rw[if_pos g,if_pos g]
    split<;>(constructor<;>grind)
   ·rw[if_neg g,if_neg g];exact zlV hd a m) (fun k hk=>by
   have base:=zjJ (W:=W) hd nd lt hW hk
   refine yP (Dt.sm_mono fun a ha=>?_) base
   by_cases g:a=0
   ·rw[if_pos g]
    by_cases g2:k=0
    ·rw[if_pos g2,if_pos (by omega)];exact r1 a ha
    ·rw[if_neg g2,if_neg (by omega)];exact zdb hd _ _
   ·rw[if_neg g];exact yG) (fun a _=>by split<;>(constructor<;>grind)) (by
   rw[Dt.sm_one (i:=0) (by omega) fun j _ hj=>if_neg hj,if_pos rfl];exact P1) W1 P1
  refine⟨Dt.det c.length (Dt.cl (zc0 (cF ds l c) (cR n ds l c))),a1,hdt,a2.wide (up hn),fun i hi=>?_,fun i hi=>?_⟩
  ·have:=ziw (i:=i) (yB (w0 c.length) (show 0<=P by grind)) (s:=fun a=>c.getD a 0) (zbt nd) a3
   unfold shF
   rw[if_neg hc,<- hce]
   exact this.1
  ·have:=ziw (i:=i) (yB (w0 c.length) (show 0<=P by grind)) (s:=fun a=>c.getD a 0) (zbt nd) a3
   unfold shF
   rw[if_neg hc,<- hce]
   exact this.2.wide (up hn)
end
open PySem PySem.Spec PyProof.Rows
open Dt (sm Leak bal Wh Bd prodN)
theorem dv_wh{D:Nat}{x:Rat}:Dv D x↔Wh (x*((D:Int):Rat)):=Iff.rfl
theorem zgF{D:Nat}{x:Rat}{k:Int}(h:Wh (x*((D:Int):Rat)*((k:Int):Rat))):Dv (D*k.natAbs) x:=by
 refine dv_wh.mpr ?_
 have e:(((D*k.natAbs:Nat):Int):Rat)=((D:Int):Rat)*((k.natAbs:Int):Rat):=by
  rw[<- yu];congr 1
 rw[e]
 rcases Int.natAbs_eq k with z | z
 ·rw[<- z]
  rw[show x*(((D:Int):Rat)*((k:Int):Rat))=x*((D:Int):Rat)*((k:Int):Rat) by grind];exact h
 ·have z':((k.natAbs:Int):Rat)=-((k:Int):Rat):=by rw[<- yaJ];congr 1;omega
  rw[z',show x*(((D:Int):Rat) * -((k:Int):Rat))=-(x*((D:Int):Rat)*((k:Int):Rat)) by grind];exact h.neg
theorem zl5{k:Int}{M:Rat}(h:Bd M ((k:Int):Rat)):((k.natAbs:Int):Rat)<=M:=by
 rcases Int.natAbs_eq k with z | z
 ·rw[<- z];exact h.2
 ·have z':((k.natAbs:Int):Rat)=-((k:Int):Rat):=by rw[<- yaJ];congr 1;omega
  have:=h.1
  rw[z'];grind
section
variable {n:Nat}{ds:List Due}{p l:Nat->Rat}{t W M Δ:Rat}{D:Nat}
theorem zpF(hd:∀d∈ds,zM n d)(p0:∀i,i<n->0<=p i)(lo:∀i,i<n->0<=l i)(ha:Ans n ds p l)(nf:¬(crL n ds l=[]/\t=1))(S:ShW n ds p l M Δ)(M0:0<=M)(hW:∀i,i<n->2*zan n ds l i<=W)(W1:1<=W)(hl:∀i,i<n->Dv D (l i))(ht:Dv D t) :
  ∃F:Nat,0<F/\((F:Int):Rat)<=M*W/\(∀i,i<n->Dv (D*F) (nxL n ds p l t i))/\Dv (D*F) (nxT n ds p l t):=by
 obtain⟨s0,hb,hpos⟩:=ziF hd p0 ha
 obtain⟨kΔ,eΔ⟩:=S.w
 have kne:kΔ≠0:=fun z=>S.ne (by rw[eΔ,z];rfl)
 have MW:M<=M*W:=by have:=yJ W1 M0;grind
 have ern:rtF n ds p l=rtR n ds l (shF n ds p l):=rfl
 have endW:∀i,Wh (zbX ds l i):=fun i=>⟨_,rfl⟩
 have dW:Wh ((D:Int):Rat):=⟨_,rfl⟩
 -- to the end
 have shut:stF n ds p l t=1-t->crL n ds l=[]->∃F:Nat,0<F/\((F:Int):Rat)<=M*W/\(∀i,i<n->Dv (D*F) (nxL n ds p l t i))/\Dv (D*F) (nxT n ds p l t):=fun e hc=>by
  refine⟨kΔ.natAbs,Int.natAbs_pos.mpr kne,yP (zl5 (by rw[<- eΔ];exact S.bd)) MW,fun i hi=>zgF ?_,zgF ?_⟩
  ·rw[<- eΔ]
   unfold nxL
   rw[e,ern]
   have h1:Wh (l i*((D:Int):Rat)):=hl i hi
   have h2:Wh (t*((D:Int):Rat)):=ht
   have h3:=S.ws i hi
   rw[show(l i+(1-t)*rtR n ds l (shF n ds p l) i)*((D:Int):Rat)*Δ=l i*((D:Int):Rat)*Δ+(((D:Int):Rat)-t*((D:Int):Rat))*((shF n ds p l i*Δ)*zan n ds l i) by unfold rtR;grind]
   exact(h1.mul S.w).add ((dW.sub h2).mul (h3.mul (zfb i)))
  ·unfold nxT
   rw[if_pos hc,e,show t+(1-t)=1 by grind,<- eΔ]
   exact(Wh.one.mul dW).mul S.w
 -- a rank filled
 have fill:∀(q:Rat),(∃i,i<n/\0<rtR n ds l (shF n ds p l) i/\q=zaz ds l (rtR n ds l (shF n ds p l)) i)->stF n ds p l t=q->∃F:Nat,0<F/\((F:Int):Rat)<=M*W/\(∀i,i<n->Dv (D*F) (nxL n ds p l t i))/\Dv (D*F) (nxT n ds p l t):=fun q ⟨m,hm,hr,hq⟩ e=>by
  obtain⟨a,ea⟩:=S.ws m hm
  obtain⟨b,eb⟩:=zfb (n:=n) (ds:=ds) (l:=l) m
  have ek:(((a*b:Int):Int):Rat)=shF n ds p l m*Δ*zan n ds l m:=by rw[yu,<- ea,<- eb]
  have hx:q*rtR n ds l (shF n ds p l) m=zbX ds l m-l m:=by
   rw[hq];unfold zaz
   exact zdM hr
  have kn:(a*b:Int)≠0:=fun z=>by
   have:shF n ds p l m*Δ*zan n ds l m=0:=by rw[<- ek,z];rfl
   have h2:rtR n ds l (shF n ds p l) m*Δ=0:=by unfold rtR;grind
   rcases Rat.mul_eq_zero.mp h2 with g | g
   ·rw[g]at hr;exact absurd hr (by decide)
   ·exact S.ne g
  have hxk:q*(((a*b:Int):Int):Rat)=(zbX ds l m-l m)*Δ:=by
   rw[ek,<- hx];unfold rtR;grind
  have hW2:Bd W (zan n ds l m):=by
   have h1:=zkt (n:=n) (l:=l) hd m
   have h2:=hW m hm
   constructor<;>grind
  have hlm:Wh (l m*((D:Int):Rat)):=hl m hm
  refine⟨(a*b).natAbs,Int.natAbs_pos.mpr kn,zl5 (by rw[ek];exact(S.bs m hm).mul hW2),fun i hi=>zgF ?_,zgF ?_⟩
  ·unfold nxL
   rw[e,ern]
   have h1:Wh (l i*((D:Int):Rat)):=hl i hi
   have h3:=S.ws i hi
   rw[show(l i+q*rtR n ds l (shF n ds p l) i)*((D:Int):Rat)*(((a*b:Int):Int):Rat)=l i*((D:Int):Rat)*(((a*b:Int):Int):Rat)+(q*(((a*b:Int):Int):Rat))*(shF n ds p l i*zan n ds l i)*((D:Int):Rat) by unfold rtR;grind,hxk,
    show(zbX ds l m-l m)*Δ*(shF n ds p l i*zan n ds l i)*((D:Int):Rat)=(zbX ds l m*((D:Int):Rat)-l m*((D:Int):Rat))*((shF n ds p l i*Δ)*zan n ds l i) by grind]
   exact(h1.mul ⟨_,rfl⟩).add ((((endW m).mul dW).sub hlm).mul (h3.mul (zfb i)))
  ·have h2:Wh (t*((D:Int):Rat)):=ht
   unfold nxT
   by_cases hc:crL n ds l=[]
   ·rw[if_pos hc,e,show(t+q)*((D:Int):Rat)*(((a*b:Int):Int):Rat)=t*((D:Int):Rat)*(((a*b:Int):Int):Rat)+(q*(((a*b:Int):Int):Rat))*((D:Int):Rat) by grind,hxk,
     show(zbX ds l m-l m)*Δ*((D:Int):Rat)=(zbX ds l m*((D:Int):Rat)-l m*((D:Int):Rat))*Δ by grind]
    exact(h2.mul ⟨_,rfl⟩).add ((((endW m).mul dW).sub hlm).mul S.w)
   ·rw[if_neg hc]
    exact h2.mul ⟨_,rfl⟩
 by_cases hc:crL n ds l=[]
 ·have eS:stF n ds p l t=match zaw ds l (rtR n ds l (shF n ds p l)) n with | none=>1-t | some q=>if 1-t<q then 1-t else q:=by unfold stF;rw[if_pos hc];rfl
  cases hq:zaw ds l (rtR n ds l (shF n ds p l)) n with
  | none=>rw[hq]at eS;exact shut eS hc
  | some q=>
   rw[hq]at eS
   dsimp only at eS
   by_cases c:1-t<q
   ·rw[if_pos c]at eS;exact shut eS hc
   ·rw[if_neg c]at eS;exact fill q (zca hq).1 eS
 ·have eS:stF n ds p l t=(zaw ds l (rtR n ds l (shF n ds p l)) n).getD 0:=by unfold stF;rw[if_neg hc];rfl
  obtain⟨i,hi,hst,hsi⟩:=hpos hc
  have hr:0<rtR n ds l (shF n ds p l) i:=by
   cases h:stp ds l i with
   | none=>exact absurd h hst
   | some ρ=>exact ybm hsi (zfK hd (lo i hi) h)
  cases hq:zaw ds l (rtR n ds l (shF n ds p l)) n with
  | none=>exact absurd hr (zc1 hq i hi)
  | some q=>
   rw[hq]at eS
   exact fill q (zca hq).1 eS
end
open PySem PySem.Spec PyProof.Rows
open Dt (sm Leak bal Wh Bd prodN)
def cst(n:Nat)(ds:List Due)(p:Nat->Rat):Nat->(Nat->Rat) × Rat
 | 0=>(fun _=>0,0)
 | k+1=>(nxL n ds p (cst n ds p k).1 (cst n ds p k).2,nxT n ds p (cst n ds p k).1 (cst n ds p k).2)
def zcv(n:Nat)(ds:List Due)(l:Nat->Rat)(t:Rat):Prop:=crL n ds l=[]/\t=1
section
variable {n:Nat}{ds:List Due}{p l:Nat->Rat}{t W P:Rat}
theorem zoq{m:Nat}(ds:List Due):zV ds (fun _=>0) m=0:=
 zaY (P:=fun ds=>zV ds (fun _=>0) m=0) rfl (fun es d ih=>by
  rw[zaQ,ih];split<;>grind) ds
theorem cinv0(hd:∀d∈ds,zM n d):CInv n ds p (fun _=>0) 0:=by
 have ha:∀d∈ds,0<=d.a:=fun d hm=>(hd d hm).2.2.2.2.2.2.2.1
 have hf:∀i r,r<3->0<=zD ds i r:=fun i r _=>zdT ds ha
 have c0:∀i r,r<=3->0<=zab (zD ds i) r:=fun i r hr=>zet (hf i) (yF r) hr
 have pay0:∀d∈ds,zaK ds (fun _=>0) d=0:=fun d hm=>by
  obtain⟨_,_,_,_,_,r0,r1,_,_⟩:=hd d hm
  have hr:d.r.toNat<3:=by omega
  have hl:zaa (zD ds d.p.toNat) 0 d.r.toNat=0:=by
   rw[zg8 yG (hf _) hr,if_pos (c0 _ _ (by omega))]
  unfold zaK zae
  rw[hl]
  split<;>grind
 have g0:∀i,zV ds (zaK ds (fun _=>0)) i=0:=fun i=>by rw[zfP ds pay0];exact zoq ds
 refine⟨fun _ _=>yG,fun i _=>c0 i 3 (yg _),fun i _ _=>by rw[g0];grind,fun i _ hs=>?_⟩
 have:=zdz (f:=zD ds i) (q:=0) hs 2 (by decide)
 rw[g0]
 have h2:zab (zD ds i) 3<=0:=this
 grind
theorem zq7(I:CInv n ds p l 1){i:Nat}(hi:i<n)(hf:∀r,r<3->0<=zD ds i r):l i=if zab (zD ds i) 3<=p i+zV ds (zaK ds l) i then zab (zD ds i) 3 else p i+zV ds (zaK ds l) i:=by
 cases hs:stp ds l i with
 | none=>
  have h1:=I.fu i hi hs
  have h2:zab (zD ds i) 3<=l i:=zdz hs 2 (by decide)
  have h3:=I.hi i hi
  rw[if_pos (by grind)]
  grind
 | some ρ=>
  have h1:=I.sh i hi (by rw[hs];intro z;cases z)
  obtain⟨h3,up,_⟩:=zbM hs
  have h4:=zet hf (show ρ+1<=3 by omega) (yg 3)
  rw[if_neg (by grind)]
  grind
set_option genInjectivity false in
set_option genSizeOf false in
structure COk(n:Nat)(ds:List Due)(p:Nat->Rat)(B:Rat)(k:Nat)(l:Nat->Rat)(t:Rat):Prop where
 inv:CInv n ds p l t
 t0:0<=t
 t1:t<=1
 kk:k<=zfA n ds l+(if t=1 then 1 else 0)
 dv:∃D:Nat,0<D/\((D:Int):Rat)<=prodN (fun _=>B) k/\(∀i,i<n->Dv D (l i))/\Dv D t
theorem cok0(hd:∀d∈ds,zM n d)(B:Rat):COk n ds p B 0 (fun _=>0) 0:=
 ⟨cinv0 hd,yG,by decide,yF _,1,by decide,by show((1:Int):Rat)<=1;decide,fun _ _=>⟨0,by show(0:Rat)*_=((0:Int):Rat);rw[show((0:Int):Rat)=0 from rfl];grind⟩,⟨0,by show(0:Rat)*_=((0:Int):Rat);rw[show((0:Int):Rat)=0 from rfl];grind⟩⟩
theorem COk.le{B:Rat}{k:Nat}(h:COk n ds p B k l t):k<=zcP n ds+1:=by
 have h1:=h.kk
 have h2:=zqC (n:=n) (ds:=ds) (l:=l)
 split at h1<;>omega
theorem COk.step{k:Nat}(hd:∀d∈ds,zM n d)(p0:∀i,i<n->0<=p i)(pw:∀i,i<n->Wh (p i))(hP:sm n p<=P)(P1:1<=P)(hW:∀i,i<n->2*zan n ds l i<=W)(W1:1<=W)(h:COk n ds p (prodN (fun _=>W) n*P*W) k l t)(ha:Ans n ds p l)(nf:¬zcv n ds l t):COk n ds p (prodN (fun _=>W) n*P*W) (k+1) (nxL n ds p l t) (nxT n ds p l t):=by
 have w0:∀j,0<=prodN (fun _=>W) j:=fun j=>Dt.prodN_nn fun _ _=>by grind
 have M0:0<=prodN (fun _=>W) n*P:=yB (w0 n) (by grind)
 have B0:0<=prodN (fun _=>W) n*P*W:=yB M0 (by grind)
 obtain⟨s1,s2,s3,s4,s5,s6,s7⟩:=zpx hd p0 h.inv h.t0 h.t1 ha nf
 obtain⟨Δ,S⟩:=zmU hd p0 pw h.inv.lo ha hW W1 hP P1
 obtain⟨D,D0,D1,D2,D3⟩:=h.dv
 obtain⟨F,F0,F1,F2,F3⟩:=zpF hd p0 h.inv.lo ha nf S M0 hW W1 D2 D3
 refine⟨s1,s2,s3,?_,D*F,Nat.mul_pos D0 F0,?_,F2,F3⟩
 ·have hk:=h.kk
  rcases s7 with g | ⟨g,tl,e⟩
  ·have:(if t=1 then 1 else 0)<=(if nxT n ds p l t=1 then 1 else 0):=by
    by_cases z:t=1
    ·rw[if_pos z,if_pos (by rw[z]at s4;grind)];exact yg _
    ·rw[if_neg z];exact yF _
   omega
  ·have z:¬t=1:=fun z=>by rw[z]at tl;exact absurd tl (by decide)
   rw[if_neg z]at hk
   rw[if_pos e]
   omega
 ·have e:(((D*F:Nat):Int):Rat)=((D:Int):Rat)*((F:Int):Rat):=by
   rw[<- yu];congr 1
  rw[e]
  show _<=prodN (fun _=>prodN (fun _=>W) n*P*W) k*(prodN (fun _=>W) n*P*W)
  have a1:=yH D1 (show(0:Rat)<=((F:Int):Rat)from zaq (by omega))
  have a2:=yJ F1 (Dt.prodN_nn (B:=fun _=>prodN (fun _=>W) n*P*W) (n:=k) fun _ _=>B0)
  exact yP a1 a2
end
end Internal
set_option maxHeartbeats 4000000
namespace Internal.BT
open PySem
theorem all:bootBuiltins "all" = some (.builtin "all"):=by decide +kernel
end Internal.BT
namespace Internal
open PySem PySem.Spec PyProof.Rows
section
variable {X:Cx}
def zgB(K:Fg):List V->Hp->VK->Prop:=fun vs H Q=>∃(a:Addr) (bs:List Bool),vs=[.ref a]/\SqL K H a (bs.map V.bl)/\Q (.bl (bs.all id)) H
theorem zjt:∀{bs:List Bool} {its:List Value},Vals (bs.map V.bl) its->its=bs.map Value.bool
 | [],_,r=>by cases r;rfl
 | b :: bs,_,r=>by
  cases r with
  | cons h t=>rw[zjt t,show _=Value.bool b from h];rfl
theorem zhL(hc:X.calm=true):CallR X (.builtin "all") (zgB X.K):=by
 intro pins s σ H xs us Q I r h
 obtain⟨a,bs,rfl,hq,q⟩:=h
 obtain⟨u,rfl,r1⟩:=vals1 r
 cases r1
 obtain⟨its,rv,pl,hl,hlt⟩:=I.walk hq
 have eb:=zjt rv
 subst eb
 refine call_all_walk (wpAny_pyIter_list pl ?_)
 refine⟨s.heap.objs.size,[s.heap.objs.size,a],[s.heap.objs.size],(bs.map Value.bool).toArray.size,_,_,fun i=>(bs[i]?).getD true,rfl,Walks.list (A:=X.A.in1) (I.ok.hd hc) _ a (yy hlt) (bs.map Value.bool).toArray,
  ⟨⟨_,Heap.get?_push_size _ rfl,rfl,rfl⟩,pl.push _⟩,fun i v s' Q' E' hP hQ=>?_,fun h' tk hk=>?_⟩
 ·have hv:(bs.map Value.bool)[i]?=some v:=by simpa using hP
  rw[yf]at hv
  cases e:bs[i]? with
  | none=>rw[e]at hv;cases hv
  | some b=>
   dsimp only at hQ
   rw[e]at hv hQ
   cases hv
   exact wpAny_truthy_bool hQ
 ·have e:((List.range (bs.map Value.bool).toArray.size).all fun i=>(bs[i]?).getD true)=bs.all id:=by
   rw[yq,yh];exact LSm.range_all bs
  rw[e]
  have I1:Inv X pins σ H { s with heap:=h',toks:=tk }:=I.kept fun b o z=>hk b o (fun hm=>by rw[yw.mp hm]at z;exact yaa _ (Heap.lt_size z)) (Heap.get?_push_of_some _ z)
  exact⟨.bl _,H,I1,rfl,q⟩
end
theorem zp3{K:Fg}{H:Hp}{Q:VK}{a:Addr}{bs:List Bool}(h:H a=some (.lst (bs.map V.bl)))(q:Q (.bl (bs.all id)) H):zgB K [.ref a] H Q:=⟨a,bs,rfl,.of h,q⟩
open PySem PySem.W PySem.Spec PySem.Calls PyProof.Rows
section
variable {prog:Program}{w:World}{A:Around}{E:Value->Shared->Prop}{s:Shared}{l I S:Addr}{kid:String}{vs:List Value}{kw:List (Str × Value)}{R:Result->Shared->Prop}{Q:Value->Shared->Prop}
def zen(I S:Addr)(h0 h:Heap):Prop:=∀b o,b≠I->b≠S->h0.get? b=some o->h.get? b=some o
theorem zo0(kf:Nat->Int)(hh:A.handled=none)(hl:s.heap.IsList l vs.toArray)(hlI:l≠I)(hSI:S≠I)(hlS:l≠S)
  (turn:∀(i:Nat) (v:Value),vs[i]?=some v->∀(h:Heap) (tk:Nat),zen I S s.heap h ->
   wpAny (model prog w) A.in1 (call (.builtin kid) [v]) (fun x s''=>∃tk' t,x=.int (kf i) t/\s''={ s with heap:=h,toks:=tk' }) (fun _ _=>False) { s with heap:=h,toks:=tk })
  (hR:∀i v h' tk',vs[i]?=some v->(∀j,j<vs.length->kf i<=kf j/\(j<i->kf i<kf j))->zen I S s.heap h'->R (.ok (.ret v)) { s with heap:=h',toks:=tk' }) :
  ∀(r j i:Nat) (h:Heap) (tk:Nat) (vb:Value) (tb:Tok) (c:Nat),vs.length-(j+1)=r->j+1<=vs.length->zen I S s.heap h ->
   h.get? S=some (seqObj "list" #[vb,.int (kf i) tb] c)->h.IsListIter I l (j+1)->vs[i]?=some vb->i<=j->(∀j',j'<=j->kf i<=kf j'/\(j'<i->kf i<kf j')) ->
   codeAny (model prog w) A (.builtin "min.loop" ⟨[.ref I,.builtin kid,.ref S],kw⟩) R { s with heap:=h,toks:=tk }:=by
 have hname:(toString "min" ++ toString ".loop" : String) = "min.loop" := by decide
 have W:=Walks.list (prog:=prog) (w:=w) (A:=A.in1) hh I l hlI vs.toArray
 have hsz:vs.toArray.size=vs.length:=yq ..
 have hlk:∀h,zen I S s.heap h->h.IsList l vs.toArray:=fun h k=>by
  obtain⟨o,e,r⟩:=hl
  exact⟨o,k l o hlI hlS e,r⟩
 intro r
 induction r with
 | zero=>
  intro j i h tk vb tb c hr hj K nS hit hvb hij hbest
  have hin:j+1=vs.length:=by omega
  refine codeAny_builtin ybn ?_
  rw[Around.under_plainId yap _]
  show wpAny _ A.in1 (seqItems? (.ref S) >>= _) _ _ _
  refine wpAny_bind (wpAny_seqItems nS rfl ?_)
  show wpAny _ A.in1 (tryCatch (pyNext (.ref I)) _ >>= _) _ _ _
  refine wpAny_bind (wpAny_tryCatch (W.done _ _ _ ⟨by rw[hsz,<- hin];exact hit,hlk h K⟩ fun h' tk' hk'=>?_))
  have hS':=hk' S _ (by simpa using hSI) nS
  have s1:=Heap.SameBut.update h' S (Obj.mapSeq fun _=>(#[]:Array Value))
  show wpAny _ A.in1 (updateSeq S (fun _=>#[]) >>= _) _ _ _
  refine wpAny_bind ?_
  refine wpAny_updateSeq hS' rfl (wpAny_bind (wpAny_letGo (wpAny_pure ?_)))
  exact hR i vb _ _ hvb (fun j' hj'=>hbest j' (by omega)) fun b o n1 n2 e=>(s1.2 b n2).trans (hk' b o (by simpa using n1) (K b o n1 n2 e))
 | succ r ih=>
  intro j i h tk vb tb c hr hj K nS hit hvb hij hbest
  have hlt:j+1<vs.length:=by omega
  refine codeAny_builtin ybn ?_
  rw[Around.under_plainId yap _]
  show wpAny _ A.in1 (seqItems? (.ref S) >>= _) _ _ _
  refine wpAny_bind (wpAny_seqItems nS rfl ?_)
  show wpAny _ A.in1 (tryCatch (pyNext (.ref I)) _ >>= _) _ _ _
  refine wpAny_bind (wpAny_tryCatch (W.item (j+1) _ _ _ (by rw[hsz];exact hlt) ⟨hit,hlk h K⟩ fun v h' tk' hP hst' hk'=>?_))
  have hv:vs[j+1]?=some v:=by simpa using hP
  obtain⟨oI',hoI',hoc,hod⟩:=id hst'.1
  have K1:zen I S s.heap h':=fun b o n1 n2 e=>hk' b o (by simpa using n1) (K b o n1 n2 e)
  have nS1:=hk' S _ (by simpa using hSI) nS
  show wpAny _ A.in1 (tryCatch (holding [v] (call (.builtin kid) [v])) _ >>= _) _ _ _
  refine wpAny_bind (wpAny_tryCatch (wpAny_holding (wpAny_mono (turn (j+1) v hv h' tk' K1) (fun x s'' he=>?_) fun _ _ hF=>hF.elim)))
  obtain⟨tk2,t2,rfl,rfl⟩:=he
  have hit2:h'.IsListIter I l (j+1+1):=⟨oI',hoI',hoc,hod⟩
  show wpAny _ A.in1 (tryCatch (holding [v,.int (kf (j+1)) t2] (richCompare .Lt (.int (kf (j+1)) t2) (.int (kf i) tb) >>= _)) _ >>= _) _ _ _
  refine wpAny_bind (wpAny_tryCatch (wpAny_holding (wpAny_bind (CmpOf.ints_lt (prog:=prog) (w:=w) (A:=A.in1) (P:=fun i v=>∃t,v=.int (kf i) t) kf (fun i v h=>h) (j+1) i _ _ _ _ _ ⟨t2,rfl⟩ ⟨tb,rfl⟩ ?_))))
  refine wpAny_bind (wpAny_holding (wpAny_truthy_bool ?_))
  refine wpAny_bind (wpAny_letGo (wpAny_pure ?_))
  by_cases hb':kf (j+1)<kf i
  ·have s1:=Heap.SameBut.update h' S (Obj.mapSeq fun _=>#[v,.int (kf (j+1)) t2])
   obtain⟨c2,hc2⟩:∃c2,(h'.update S (Obj.mapSeq fun _=>#[v,.int (kf (j+1)) t2])).get? S=some (seqObj "list" #[v,.int (kf (j+1)) t2] c2):=⟨_,get?_update_seq nS1 fun _=>#[v,.int (kf (j+1)) t2]⟩
   simp only[hb',decide_true,if_true]
   refine wpAny_bind ?_
   refine wpAny_updateSeq nS1 rfl (wpAny_bind (wpAny_letGo ?_))
   rw[hname]
   refine wpAny_pure ⟨plainId_quiet yap _,ih (j+1) (j+1) _ _ v t2 c2 (by omega) hlt (fun b o n1 n2 e=>(s1.2 b n2).trans (K1 b o n1 n2 e)) hc2 ⟨oI',(s1.2 I hSI.symm).trans hoI',hoc,hod⟩ hv (yg _) fun j' hj'=>?_⟩
   by_cases e:j'=j+1
   ·subst e
    exact⟨by omega,fun _=>by omega⟩
   ·have hb1:=hbest j' (by omega)
    have hb2:=hb1.1
    exact⟨by omega,fun _=>by omega⟩
  ·simp only[hb',decide_false,yby,if_false]
   refine wpAny_bind (wpAny_letGo ?_)
   rw[hname]
   refine wpAny_pure ⟨plainId_quiet yap _,ih (j+1) i _ _ vb tb c (by omega) hlt K1 nS1 hit2 hvb (by omega) fun j' hj'=>?_⟩
   by_cases e:j'=j+1
   ·subst e
    exact⟨by omega,fun _=>by omega⟩
   ·exact hbest j' (by omega)
theorem zj8(a v d:Value):argsOk "min" ⟨[a],[(Str.ofString "key",v),(Str.ofString "default",d)]⟩:=by unfold argsOk;kernel_rfl
theorem zpb(kf:Nat->Int){d:Value}(hh:A.handled=none)(hl:s.heap.IsList l vs.toArray)
  (turn:∀(i:Nat) (v:Value),vs[i]?=some v->∀(h:Heap) (tk:Nat),(∀b o,s.heap.get? b=some o->h.get? b=some o) ->
   wpAny (model prog w) A.in1 (call (.builtin kid) [v]) (fun x s''=>∃tk' t,x=.int (kf i) t/\s''={ s with heap:=h,toks:=tk' }) (fun _ _=>False) { s with heap:=h,toks:=tk })
  (hQ:∀i v h' tk',vs[i]?=some v->(∀j,j<vs.length->kf i<=kf j/\(j<i->kf i<kf j))->(∀b o,s.heap.get? b=some o->h'.get? b=some o)->Q v { s with heap:=h',toks:=tk' })
  (hD:vs=[]->∀h' tk',(∀b o,s.heap.get? b=some o->h'.get? b=some o)->Q d { s with heap:=h',toks:=tk' }) :
  wpAny (model prog w) A (call (.builtin "min") [.ref l] [(Str.ofString "key",.builtin kid),(Str.ofString "default",d)]) Q E s:=by
 have hname:(toString "min" ++ toString ".loop" : String) = "min.loop" := by decide
 obtain⟨ol,hol,_⟩:=id hl
 have hll:l<s.heap.objs.size:=Heap.lt_size hol
 refine kmb_tree PySem.F.kind_min PySem.F.plain_min PySem.F.entry_min (zj8 _ _ _) ?_
 show wpAny _ A.in1 (Builtin.Builtins.bindParams "min" ["key", "default"] 0 ⟨[],[(Str.ofString "key",.builtin kid),(Str.ofString "default",d)]⟩ >>= _) _ _ s
 refine wpAny_bind (wpAny_of_eq (show Builtin.Builtins.bindParams "min" ["key", "default"] 0 ⟨[],[(Str.ofString "key",.builtin kid),(Str.ofString "default",d)]⟩=pure [some (.builtin kid),some d]from rfl) ?_)
 refine wpAny_bind (wpAny_pure ?_)
 refine wpAny_bind (wpAny_pyIter_list hl ?_)
 refine wpAny_bind (wpAny_newList ?_ (yF _))
 rw[hname]
 have hS:(s.heap.push { cls:=.type "list_iterator",data:=.fields #[.ref l,.int 0 0] }).objs.size=s.heap.objs.size+1:=size_push' ..
 have hlI:l≠s.heap.objs.size:=yy hll
 have hSI:(s.heap.push { cls:=.type "list_iterator",data:=.fields #[.ref l,.int 0 0] }).objs.size≠s.heap.objs.size:=by rw[hS];exact Nat.ne_of_gt (ybo _)
 have hlS:l≠(s.heap.push { cls:=.type "list_iterator",data:=.fields #[.ref l,.int 0 0] }).objs.size:=by rw[hS];exact yy (ybJ hll)
 refine wpAny_pure ⟨plainId_quiet yap _,?_⟩
 have gI:((s.heap.push { cls:=.type "list_iterator",data:=.fields #[.ref l,.int 0 0] }).push (seqObj "list" #[] 0)).get? s.heap.objs.size=some { cls:=.type "list_iterator",data:=.fields #[.ref l,.int 0 0] }:=
  Heap.get?_push_of_some _ (Heap.get?_push_size _ rfl)
 have gS:((s.heap.push { cls:=.type "list_iterator",data:=.fields #[.ref l,.int 0 0] }).push (seqObj "list" #[] 0)).get? (s.heap.push { cls:=.type "list_iterator",data:=.fields #[.ref l,.int 0 0] }).objs.size=some (seqObj "list" #[] 0):=Heap.get?_push_size _ rfl
 have KH:∀b o,s.heap.get? b=some o->((s.heap.push { cls:=.type "list_iterator",data:=.fields #[.ref l,.int 0 0] }).push (seqObj "list" #[] 0)).get? b=some o:=fun b o e=>Heap.get?_push_of_some _ (Heap.get?_push_of_some _ e)
 have hl2:((s.heap.push { cls:=.type "list_iterator",data:=.fields #[.ref l,.int 0 0] }).push (seqObj "list" #[] 0)).IsList l vs.toArray:=by
  obtain⟨o,e,r⟩:=hl
  exact⟨o,KH l o e,r⟩
 have old:∀b o,s.heap.get? b=some o->b≠s.heap.objs.size/\b≠(s.heap.push { cls:=.type "list_iterator",data:=.fields #[.ref l,.int 0 0] }).objs.size:=fun b o e=>by
  have h1:=Heap.lt_size e
  exact⟨yy h1,by rw[hS];exact yy (ybJ h1)⟩
 have W:=Walks.list (prog:=prog) (w:=w) (A:=A.in1) hh s.heap.objs.size l hlI vs.toArray
 have hsz:vs.toArray.size=vs.length:=yq ..
 generalize hSa:(s.heap.push { cls:=.type "list_iterator",data:=.fields #[.ref l,.int 0 0] }).objs.size=Sa at *
 generalize hH2:(s.heap.push { cls:=.type "list_iterator",data:=.fields #[.ref l,.int 0 0] }).push (seqObj "list" #[] 0)=H2 at *
 refine codeAny_builtin ybn ?_
 rw[Around.under_plainId yap _]
 show wpAny _ A.in1 (seqItems? (.ref Sa) >>= _) _ _ _
 refine wpAny_bind (wpAny_seqItems gS rfl ?_)
 show wpAny _ A.in1 (tryCatch (pyNext (.ref s.heap.objs.size)) _ >>= _) _ _ _
 by_cases hne:vs=[]
 ·subst hne
  refine wpAny_bind (wpAny_tryCatch (W.done _ _ _ ⟨⟨_,gI,rfl,rfl⟩,hl2⟩ fun h' tk' hk'=>?_))
  refine wpAny_bind (wpAny_rule (wpAny_pure ?_))
  exact hD rfl h' tk' fun b o e=>hk' b o (by simpa using(old b o e).1) (KH b o e)
 have hpos:0<vs.length:=List.length_pos_iff.mpr hne
 refine wpAny_bind (wpAny_tryCatch (W.item 0 _ _ _ (by rw[hsz];exact hpos) ⟨⟨_,gI,rfl,rfl⟩,hl2⟩ fun v h' tk' hP hst' hk'=>?_))
 have hv:vs[0]?=some v:=by simpa using hP
 obtain⟨oI',hoI',hoc,hod⟩:=id hst'.1
 have K1:∀b o,s.heap.get? b=some o->h'.get? b=some o:=fun b o e=>hk' b o (by simpa using(old b o e).1) (KH b o e)
 have nS1:=hk' Sa _ (by simpa using hSI) gS
 show wpAny _ A.in1 (tryCatch (holding [v] (call (.builtin kid) [v])) _ >>= _) _ _ _
 refine wpAny_bind (wpAny_tryCatch (wpAny_holding (wpAny_mono (turn 0 v hv h' tk' K1) (fun x s'' he=>?_) fun _ _ hF=>hF.elim)))
 obtain⟨tk2,t2,rfl,rfl⟩:=he
 have s1:=Heap.SameBut.update h' Sa (Obj.mapSeq fun _=>#[v,.int (kf 0) t2])
 obtain⟨c2,hc2⟩:∃c2,(h'.update Sa (Obj.mapSeq fun _=>#[v,.int (kf 0) t2])).get? Sa=some (seqObj "list" #[v,.int (kf 0) t2] c2):=⟨_,get?_update_seq nS1 fun _=>#[v,.int (kf 0) t2]⟩
 show wpAny _ A.in1 (updateSeq Sa (fun _=>#[v,.int (kf 0) t2]) >>= _) _ _ _
 refine wpAny_bind ?_
 refine wpAny_updateSeq nS1 rfl ?_
 rw[hname]
 have K2:zen s.heap.objs.size Sa s.heap (h'.update Sa (Obj.mapSeq fun _=>#[v,.int (kf 0) t2])):=fun b o n1 n2 e=>(s1.2 b n2).trans (K1 b o e)
 refine wpAny_pure ⟨plainId_quiet yap _,zo0 (s:=s) kf hh hl hlI hSI hlS (fun i v hi h tk K=>turn i v hi h tk fun b o e=>K b o (old b o e).1 (old b o e).2 e) (fun i v h'' tk'' hi hb K=>hQ i v h'' tk'' hi hb fun b o e=>K b o (old b o e).1 (old b o e).2 e) _ 0 0 _ _ v t2 c2 rfl hpos K2 hc2 ⟨oI',(s1.2 _ hSI.symm).trans hoI',hoc,hod⟩ hv (yg _) fun j' hj'=>?_⟩
 have e:j'=0:=by omega
 subst e
 exact⟨by omega,fun h=>absurd h (yaa _)⟩
end
open PySem PySem.Spec PyProof.Rows
section
variable {K:Fg}{σ:St}{H:Hp}{Q:VK}{D:Ends}{a C dx:Addr}{fs:List (Str × V)}{f m:Str}
end
def zqY(C:Addr)(m:Str)(sp:Sp)(t:TA)(σ:St)(Q:VK)(Eh:Addr->Hp->Prop)(x:V)(H:Hp):Prop:=∃a dx fs,x=.ref a/\H a=some (.ins C dx fs)/\fs.lookup m=none/\t σ H fun vs H2=>sp (x :: vs) H2 Q fun cls _ H3=>∃C',cls=.ref C'/\Eh C' H3
abbrev zr6(C:Addr)(m:Str)(sp:Sp)(ta:TE)(t:TA):TEr:=fun σ H Q Eh=>ta σ H (zqY C m sp t σ Q Eh)
open PySem PySem.W PySem.Spec PySem.Calls PyProof.Rows
def zkB(K:Fg)(Q:VK)(vs:List V)(H1:Hp):Prop:=∃(a:Addr) (ls:List Addr) (n:Nat->Nat),vs=[.ref a]/\SqL K H1 a (ls.map V.ref)/\(∀i b,ls[i]?=some b->∃xs,H1 b=some (.lst xs)/\xs.length=n i/\n i<=16000) /\
 ∀p H2,H1 p=none->Same H1 H2->H2 p=some (.lst [])->(ls=[]->Q (.ref p) H2)/\∀i b,ls[i]?=some b->(∀j,j<ls.length->n i<=n j/\(j<i->n i<n j))->Q (.ref b) H2
def zkA(K:Fg)(ta:TA):TE:=fun σ H Q=>ta σ H (zkB K Q)
theorem zl2{X:Cx}{p pos kp lp dp dq:Pos}{e:Expr}{ta:TA}(hc:X.calm=true)(hg:Gl X "min")(hm:X.mg "min" = none)(hv:bootBuiltins "min" = some (.builtin "min"))(hg2:Gl X "len")(hm2:X.mg "len" = none)(hv2:bootBuiltins "len" = some (.builtin "len"))(ha:PA X [e] ta)
  (he:autoParam (backTo pos (starEach [e] X.env)=(false,eval e X.env) :: backTo pos (starEach [] X.env)) Internal.aut2._auto_1)
  (hplain:autoParam ((backTo pos (starEach [e] X.env)).any (·.1)=false) Internal.aut2._auto_1):PE X (.Call (.Name "min" p) [e] [⟨some "key",.Name "len" lp,kp⟩,⟨some "default",Expr.List [] dp,dq⟩] pos) (zkA X.K ta):=by
 intro pins s σ H Q I h
 refine wpAny_Call_Name_kw (zcQ I hg hm hv ?_ (by decide) (by decide))
 refine PyProof.Rows.callWith_kw ?_ he hplain
 refine thn (ha pos pins s σ H _ I h) fun us s1 zz=>?_
 obtain⟨vs,H1,I1,rv,a,ls,n,rfl,hq,hn,kk⟩:=zz
 obtain⟨u1,rfl,r1⟩:=vals1 rv
 cases r1
 show wpAny (model X.prog X.w) X.A (evalAll ((do let v <- eval (.Name "len" lp) X.env;standAt pos;pure v) :: (backToKw pos (keywordEach [⟨some "default",Expr.List [] dp,dq⟩] X.env)).map (·.2))) _ _ s1
 refine wpAny_evalAll_cons (wpAny_bind (zcQ I1 hg2 hm2 hv2 (wpAny_bind (wpAny_standAt (wpAny_pure ?_))) (by decide) (by decide)))
 refine thn (zpN (t:=zjO) (nm:=some "default") (kpos:=dq) (zbk (zh (X:=X))) zqA pos pins s1 σ H1 (fun ws H2=>∃p,ws=[.ref p]/\H1 p=none/\Same H1 H2/\H2 p=some (.lst [])) I1 ?_) fun kvs s2 zz=>?_
 ·exact⟨yF _,fun p hp=>⟨p,rfl,hp,Same.new hp _,zaL⟩⟩
 obtain⟨ws,H2,I2,rw2,p2,rfl,fp,e2,hp⟩:=zz
 obtain⟨u2,rfl,r3⟩:=vals1 rw2
 cases r3
 show wpAny (model X.prog X.w) X.A (call (.builtin "min") [.ref a] [(Str.ofString "key",.builtin "len"),(Str.ofString "default",.ref p2)]) (EP X pins σ Q) X.xe s2
 obtain⟨its,rvs,pl,hil,hlt⟩:=I2.walk (hq.keep e2)
 have hlen:its.length=ls.length:=by rw[hil,yh]
 have get:∀{i:Nat} {v:Value},its[i]?=some v->∃b,ls[i]?=some b/\v=.ref b:=fun {i v} hi=>by
  have hi':=(yk.mp hi).1
  obtain⟨b,hb⟩:=zO (show i<ls.length by omega)
  obtain⟨u,hu,ru⟩:=rvs.get (show(ls.map V.ref)[i]?=some (.ref b) by rw[yf,hb];rfl)
  rw[hi]at hu
  cases hu
  exact⟨b,hb,ru⟩
 obtain⟨kd,kl⟩:=kk p2 H2 fp e2 hp
 refine zpb (kf:=fun i=>(n i:Int)) (I2.ok.hd hc) pl (fun i v hi h tk K=>?_) (fun i v h' tk' hi hb K=>?_) fun hnil h' tk' K=>?_
 ·obtain⟨b,hb,rfl⟩:=get hi
  obtain⟨xs,hx,hxn,hx16⟩:=hn i b hb
  obtain⟨bits,rb,pb,hbl,_⟩:=I2.walk (SqL.of (e2.at hx))
  have pb':h.IsList b bits.toArray:=by
   obtain⟨o,q,r⟩:=pb
   exact⟨o,K b o q,r⟩
  refine PySem.W.kun_lenL (s:={ s2 with heap:=h,toks:=tk }) pb' (k:=(n i:Int)) (by rw[yq];omega) (by omega) ⟨_,_,rfl,rfl⟩
 ·obtain⟨b,hb',rfl⟩:=get hi
  have J:Inv X pins σ H2 { s2 with heap:=h',toks:=tk' }:=I2.kept fun b o z=>K b o z
  refine⟨.ref b,H2,J,rfl,kl i b hb' fun j hj=>?_⟩
  have h3:=hb j (by omega)
  exact⟨by omega,fun z=>by have:=h3.2 z;omega⟩
 ·have J:Inv X pins σ H2 { s2 with heap:=h',toks:=tk' }:=I2.kept fun b o z=>K b o z
  exact⟨.ref p2,H2,J,rfl,kd (by
   have:ls.length=0:=by rw[<- hlen,hnil];rfl
   exact yaf this)⟩
open PySem PySem.Spec PyProof.Rows
def bfl(m w y:Int)(d:Addr):List (Str × V):=zjG "deals" (.ref d) (zjG "day" (.int y) (zjG "wares" (.int w) (zjG "many" (.int m) [])))
section
variable {m w y:Int}{d:Addr}
end
set_option genInjectivity false in
set_option genSizeOf false in
structure T7 where
 p:Int
 q:Int
 w:Int
 u:Int
 a:Int
 y:Int
 r:Int
def zrH(t:T7):List V:=[.int t.p,.int t.q,.int t.w,.int t.u,.int t.a,.int t.y,.int t.r]
def zro(x:T7 × Str):List V:=zrH x.1++[.str x.2]
set_option genInjectivity false in
set_option genSizeOf false in
structure TermOk(m w y:Int)(t:T7):Prop where
 p0:0<=t.p
 p1:t.p<m
 q0:0<=t.q
 q1:t.q<m
 pq:t.p≠t.q
 w0:0<=t.w
 w1:t.w<w
 u0:1<=t.u
 u1:t.u<=1000000
 a0:1<=t.a
 a1:t.a<=1000000000
 y0:0<=t.y
 y1:t.y<=1000000
 r0:0<=t.r
 r1:t.r<=2
 yd:y<=t.y
set_option genInjectivity false in
set_option genSizeOf false in
structure Bk(C:Addr)(H:Hp)(b d:Addr)(m w y:Int)(ts:List (T7 × Str)):Prop where
 ob:∃dx,H b=some (.ins C dx (bfl m w y d))
 ds:∃xs,H d=some (.lst xs)/\IsTs zro H xs ts
section
variable {C:Addr}{H H':Hp}{b d:Addr}{m w y:Int}{ts:List (T7 × Str)}
end
def stand(t:T7):T7 × Str:=(t,("standing" : Str))
abbrev TAr:=St->Hp->(List V->Hp->Prop)->(Addr->Hp->Prop)->Prop
section
variable {X:Cx}{pos:Pos}
abbrev zr5(te:TEr):TAr:=fun σ H Q Eh=>te σ H (fun y H2=>Q [y] H2) Eh
abbrev zr4(tc:TE)(t:TAr):TAr:=fun σ H Q Eh=>tc σ H fun x H1=>t σ H1 (fun xs H2=>Q (x :: xs) H2) Eh
abbrev zsa(t:TAr):TEr:=fun σ H Q Eh=>t σ H (fun xs H1=>zfh Q xs H1) Eh
abbrev zsb(i:Nat)(te:TEr):TTr:=fun D Eh σ H=>te σ H (fun y H2=>D.nx (σ.set i (some y)) H2) fun C H2=>Eh C σ H2
end
section
variable {σ:St}{H:Hp}{D:Ends}{Eh:Addr->Hp->Prop}{Eg:Addr->St->Hp->Prop}
end
theorem zkY{x:Int}{z:Nat}(h:Dt.Bd ((2 ^ z:Nat):Rat) ((x:Int):Rat)):sz x<=z+1:=by
 have h1:((x:Int):Rat)<=(((2 ^ z:Nat):Int):Rat):=h.2
 have h2:-((((2 ^ z:Nat):Int):Rat))<=((x:Int):Rat):=h.1
 rw[<- yaJ]at h2
 have h1':x<=((2 ^ z:Nat):Int):=by exact_mod_cast h1
 have h2':-((2 ^ z:Nat):Int)<=x:=by exact_mod_cast h2
 refine zas ?_
 rw[ybr]
 have:0<2 ^ z:=ybd z
 omega
theorem zlv{x:Int}{z:Nat}(h:sz x<=z):Dt.Bd ((2 ^ z:Nat):Rat) ((x:Int):Rat):=by
 have h1:=sz_le.mp h
 have a1:((x:Int):Rat)<=(((2 ^ z:Nat):Int):Rat):=by
  have:x<=((2 ^ z:Nat):Int):=by omega
  exact_mod_cast this
 have a2:-((((2 ^ z:Nat):Int):Rat))<=((x:Int):Rat):=by
  rw[<- yaJ]
  have:-((2 ^ z:Nat):Int)<=x:=by omega
  exact_mod_cast this
 exact⟨a2,a1⟩
theorem zor{c b:Int}(hc:0<c)(hb:0<b):0<c/My.gc c b*b/\c∣c/My.gc c b*b/\b∣c/My.gc c b*b/\c/My.gc c b*b<=c*b:=by
 have hg:0<My.gc c b:=My.gc_pos_right (by omega)
 obtain⟨u,hu⟩:=My.gc_dvd_left c b
 obtain⟨v,hv⟩:=My.gc_dvd_right c b
 have e:c/My.gc c b=u:=by
  have:c/My.gc c b=(My.gc c b*u)/My.gc c b:=by rw[<- hu]
  rw[this];exact yad _ (by omega)
 have hu0:0<u:=by
  rcases ya6 0 u with h | h
  ·exact h
  ·have:=yal (yay hg) h;omega
 rw[e]
 refine⟨yaF hu0 hb,⟨v,?_⟩,⟨u,yaH _ _⟩,?_⟩
 ·calc u*b=u*(My.gc c b*v):=by rw[<- hv]
   _=(My.gc c b*u)*v:=by rw[yaH (My.gc c b) u,yaK]
   _=c*v:=by rw[<- hu]
 ·have:u<=c:=by
   have h1:1*u<=My.gc c b*u:=yaY (by omega) (by omega)
   omega
  exact yaY this (by omega)
def zgC(K:Fg)(z1 zb:Nat):Sp:=fun vs H Q _=>∃(a:Addr) (ws:List V) (qs:List Rat),vs=[.ref a]/\H a=some (.lst ws)/\IsQs H ws qs/\qs.length<=20/\(∀q∈qs,SzQ q z1 zb)/\20*zb<=8000/\z1<=100000/\1<=zb /\
 ∀p H' (F:Nat->Int) (L:Int),H p=none->Same H H'->0<L->(∀j q,qs[j]?=some q->((F j:Int):Rat)=((L:Int):Rat)*q/\sz (F j)<=z1+qs.length*zb)->H' p=some (.lst ((vec qs.length F).map V.int))->Q (.ref p) H'
def zjN:=fun {K:Fg} {z1 zb:Nat} {a:Addr} {ws:List V} {qs:List Rat} {H:Hp} {Q:VK} {E:XK} h hq hl hz h1 h2 h3 k=>@id (zgC K z1 zb [.ref a] H Q E) ⟨a,ws,qs,rfl,h,hq,hl,hz,h1,h2,h3,k⟩
theorem zjH{as:List Addr}(h:∀i j,i<j->j<as.length->as[i]?≠as[j]?):as.Nodup:=by
 rw[List.Nodup,List.pairwise_iff_getElem]
 intro i j hi hj hij e
 exact h i j hij hj (by rw[yj hi,yj hj,e])
def zeO(as:List Addr)(p q:Nat)(a b:Addr):List Addr:=(as.set p b).set q a
theorem zmt{H:Hp}{as:List Addr}{k p q:Nat}{F:Nat->Nat->Int}{a b:Addr}(h:Rows H as k F)(ha:as[p]?=some a)(hb:as[q]?=some b):Rows H (zeO as p q a b) k (Dt.swp F p q):=by
 have hp:p<as.length:=(yk.mp ha).1
 have hq:q<as.length:=(yk.mp hb).1
 have get:∀i,(zeO as p q a b)[i]?=if i=q then some a else if i=p then some b else as[i]?:=fun i=>by
  unfold zeO
  rw[yaC]
  by_cases e:q=i
  ·rw[if_pos e,if_pos e.symm,if_pos (by rw[yan];exact hq)]
  ·rw[if_neg e,if_neg (fun z=>e z.symm),yaC]
   by_cases e2:p=i
   ·rw[if_pos e2,if_pos e2.symm,if_pos hp]
   ·rw[if_neg e2,if_neg (fun z=>e2 z.symm)]
 refine⟨?_,fun i c hc=>?_⟩
 ·refine zjH ?_
  intro i j hij hj
  have hlen:(zeO as p q a b).length=as.length:=by unfold zeO;rw[yan,yan]
  rw[hlen]at hj
  rw[get,get]
  have ne:∀x y,x≠y->x<as.length->y<as.length->as[x]?≠as[y]?:=fun x y hxy hx hy w=>by
   obtain⟨c,hc⟩:∃c,as[x]?=some c:=⟨_,yj hx⟩
   exact hxy (zb6 h.1 hc (w▸hc))
  have nd:∀x y,x<y->y<as.length->as[x]?≠as[y]?:=fun x y h hy=>ne x y (by omega) (by omega) hy
  by_cases e1:i=q
  ·rw[if_pos e1,if_neg (by omega)]
   by_cases e2:j=p
   ·rw[if_pos e2,<- ha,<- hb]
    by_cases e3:p=q
    ·omega
    ·exact ne p q e3 hp hq
   ·rw[if_neg e2,<- ha]
    exact ne p j (fun z=>e2 z.symm) hp hj
  ·rw[if_neg e1]
   by_cases e2:i=p
   ·rw[if_pos e2]
    by_cases e3:j=q
    ·rw[if_pos e3,<- ha,<- hb]
     exact ne q p (by omega) hq hp
    ·rw[if_neg e3,if_neg (by omega),<- hb]
     exact ne q j (fun z=>e3 z.symm) hq hj
   ·rw[if_neg e2]
    by_cases e3:j=q
    ·rw[if_pos e3,<- ha]
     exact ne i p e2 (by omega) hp
    ·rw[if_neg e3]
     by_cases e4:j=p
     ·rw[if_pos e4,<- hb];exact ne i q e1 (by omega) hq
     ·rw[if_neg e4];exact nd i j hij hj
 ·rw[get]at hc
  unfold Dt.swp
  by_cases e1:i=q
  ·rw[if_pos e1]at hc;cases hc
   by_cases e2:i=p
   ·rw[if_pos e2]
    have:p=q:=by omega
    subst this
    exact h.2 _ _ ha
   ·rw[if_neg e2,if_pos e1];exact h.2 _ _ ha
  ·rw[if_neg e1]at hc
   by_cases e2:i=p
   ·rw[if_pos e2]at hc ⊢;cases hc
    exact h.2 _ _ hb
   ·rw[if_neg e2]at hc ⊢
    rw[if_neg e1]
    exact h.2 _ _ hc
def zeB(K:Fg):Sp:=fun vs H Q _=>∃(a b:Addr) (w:Nat) (f g:Nat->Int) (k d:Int),vs=[.ref a,.ref b,.int k,.int d]/\H a=some (.lst ((vec w f).map V.int))/\H b=some (.lst ((vec w g).map V.int))/\0<=k/\k<w/\w<=20/\d≠0/\sz d<=9000/\(∀j,j<w->sz (f j)<=9000/\sz (g j)<=9000) /\
 ∀p H',H p=none->Same H H'->H' p=some (.lst ((vec w fun j=>(g k.toNat*f j-f k.toNat*g j).fdiv d).map V.int))->Q (.ref p) H'
def zjC:=fun {K:Fg} {a b:Addr} {w:Nat} {f g:Nat->Int} {k d:Int} {H:Hp} {Q:VK} {E:XK} h1 h2 k0 k1 hw d0 hd hz q=>@id (zeB K [.ref a,.ref b,.int k,.int d] H Q E) ⟨a,b,w,f,g,k,d,rfl,h1,h2,k0,k1,hw,d0,hd,hz,q⟩
def zkC(K:Fg):Sp:=fun vs H Q _=>∃(a:Addr) (as:List Addr) (w:Nat) (T:Nat->Nat->Int) (k d:Int),vs=[.ref a,.int k,.int d]/\H a=some (.lst (as.map V.ref))/\Rows H as w T/\0<=k/\k<as.length/\k<w/\w<=20/\as.length<=20/\d≠0/\sz d<=9000/\(∀i j,i<as.length->j<w->sz (T i j)<=9000) /\
 ∀p H' as',H p=none->Same H H'->H' p=some (.lst (as'.map V.ref))->as'.length=as.length->Rows H' as' w (Dt.nxtI T k.toNat d)->Q (.ref p) H'
def zmc:=fun {K:Fg} {a:Addr} {as:List Addr} {w:Nat} {T:Nat->Nat->Int} {k d:Int} {H:Hp} {Q:VK} {E:XK} h1 h2 k0 k1 k2 hw hl d0 hd hz q=>@id (zkC K [.ref a,.int k,.int d] H Q E) ⟨a,as,w,T,k,d,rfl,h1,h2,k0,k1,k2,hw,hl,d0,hd,hz,q⟩
set_option genInjectivity false in
set_option genSizeOf false in
structure Sys(H:Hp)(a b:Addr)(n:Nat)(R:Nat->Nat->Rat):Prop where
 rows:∃as:List Addr,H a=some (.lst (as.map V.ref))/\as.length=n/\∀(l:Nat) (c:Addr),as[l]?=some c->∃ws,H c=some (.lst ws)/\IsQs H ws ((List.range n).map (R l))
 side:∃ws,H b=some (.lst ws)/\IsQs H ws ((List.range n).map fun l=>R l n)
section
variable {X:Cx}{pins:List (Addr × Obj)}{s s':Shared}{σ:St}{H H':Hp}{pos:Pos}
end
theorem zpV(q:Rat):((q.num:Int):Rat)=q*(((q.den:Nat):Int):Rat):=by
 have e1:((q.num:Int):Rat)/(((q.den:Nat):Int):Rat)=q:=by rw[<- ya4];exact ybh q
 have hne:(((q.den:Nat):Int):Rat)≠0:=fun z=>by
  have h1:((q.den:Nat):Int)=0:=by exact_mod_cast z
  have:=zap q
  omega
 have:=ybD (a:=((q.num:Int):Rat)) hne
 rw[e1]at this;exact this.symm
theorem PRows.put{H:Hp}{as:List Addr}{F:Nat->List Rat}{j:Nat}{p:Addr}{vs:List V}{G:List Rat}(h:PRows H as F)(n:p∉as)(hp:H p=some (.lst vs))(hv:IsQs H vs G):PRows H (as.set j p) (fun m=>if m=j then G else F m):=by
 refine⟨zjH fun x y hxy hy=>?_,fun m a hm=>?_⟩
 ·rw[yan]at hy
  have g:∀z,z<as.length->(as.set j p)[z]?=if j=z then some p else as[z]?:=fun z hz=>by
   rw[yaC]
   split
   ·rename_i e;rw[if_pos (by omega)]
   ·rfl
  rw[g x (by omega),g y hy]
  have hx':x<as.length:=by omega
  by_cases e1:j=x
  ·rw[if_pos e1,if_neg (by omega)]
   intro z
   exact n (ya z.symm)
  ·rw[if_neg e1]
   by_cases e2:j=y
   ·rw[if_pos e2]
    intro z
    exact n (ya z)
   ·rw[if_neg e2]
    intro z
    obtain⟨c,hc⟩:∃c,as[x]?=some c:=⟨_,yj hx'⟩
    have:=zb6 h.1 hc (z▸hc)
    omega
 ·rw[yaC]at hm
  by_cases e:j=m
  ·rw[if_pos e]at hm
   split at hm
   ·cases hm
    exact⟨vs,hp,by dsimp only;rw[if_pos e.symm];exact hv⟩
   ·cases hm
  ·rw[if_neg e]at hm
   dsimp only
   rw[if_neg (fun z=>e z.symm)]
   exact h.2 m a hm
theorem IsQs.setQ{H:Hp}{p:Addr}{q:Rat}(hp:IsQ H p q):∀{vs:List V} {qs:List Rat} (j:Nat),IsQs H vs qs->IsQs H (vs.set j (.ref p)) (qs.set j q)
 | [],[],j,h=>by cases j<;>exact h
 | _ :: _,[],_,h=>by simp[IsQs]at h
 | [],_ :: _,_,h=>by simp[IsQs]at h
 | v :: vs,r :: rs,0,h=>⟨⟨p,rfl,hp⟩,h.2⟩
 | v :: vs,r :: rs,j+1,h=>⟨h.1,IsQs.setQ hp (vs:=vs) (qs:=rs) j h.2⟩
theorem zhw{n j:Nat}{g:Nat->Rat}{q:Rat}:((List.range n).map g).set j q=(List.range n).map fun m=>if m=j then q else g m:=by
 apply yaL
 intro i
 rw[yaC,yf,yf,yh,yv]
 by_cases h:i<n
 ·rw[yL h]
  by_cases e:j=i
  ·subst e;rw[if_pos rfl,if_pos h];show _=some (if j=j then q else g j);rw[if_pos rfl]
  ·rw[if_neg e];show some (g i)=some (if i=j then q else g i);rw[if_neg (fun z=>e z.symm)]
 ·rw[yae (by rw[yv];omega)]
  by_cases e:j=i
  ·rw[if_pos e,if_neg (by omega)];rfl
  ·rw[if_neg e];rfl
theorem zko{K:Fg}{H:Hp}{Q:VK}{r:Int}{o:Option Nat}(h:0<=r)(q:Q (.bl (decide (o=some r.toNat))) H):zaN K (.int r) (zbb o) H Q:=by
 cases o with
 | none=>
  refine .inr ⟨rfl,?_⟩
  have e:decide ((none:Option Nat)=some r.toNat)=false:=by simp
  rw[e]at q
  have e2:decide (V.int r=zbb none)=false:=by simp[zbb]
  rw[e2];exact q
 | some m=>
  refine zlc ?_
  have e:decide (r=((m:Nat):Int))=decide (some m=some r.toNat):=by
   rw[decide_eq_decide]
   constructor
   ·intro h;congr 1;omega
   ·intro h;have:=yn h;omega
  rw[e];exact q
def zhm(K:Fg):Sp:=fun vs H Q _=>∃(a b:Addr) (ds:List Due) (n:Nat) (ρ:Nat->Option Nat),vs=[.ref a,.ref b]/\IsSh K H a ds/\H b=some (.lst (z9 n ρ))/\n<=9/\(∀d∈ds,zM n d) /\
 ∀l H' as,H l=none->Same H H'->H' l=some (.lst (List.map V.ref as))->as.length=n->Rows H' as n (zat ρ ds)->(∀b∈as,H b=none)->Q (.ref l) H'
def zmo:=fun {K:Fg} {a b:Addr} {ds:List Due} {n:Nat} {ρ:Nat->Option Nat} {H:Hp} {Q:VK} {E:XK} h hb n1 hd q=>@id (zhm K [.ref a,.ref b] H Q E) ⟨a,b,ds,n,ρ,rfl,h,hb,n1,hd,q⟩
abbrev ziC(l:List Nat):List Int:=l.map fun(x:Nat)=>(x:Int)
abbrev zax(l:List Nat):List V:=(ziC l).map V.int
theorem intsN_mem{l:List Nat}{x:Nat}:((x:Int)∈ziC l)↔x∈l:=by
 rw[yaz]
 constructor
 ·rintro⟨y,h,e⟩;rw[<- Int.ofNat.inj e];exact h
 ·exact fun h=>⟨x,h,rfl⟩
theorem zac{l:List Nat}:(zax l).length=l.length:=by simp
theorem zdA{l l':List Nat}:zax (l++l')=zax l++zax l':=by simp
theorem zb9{l:List Nat}{k:Nat}(h:k<l.length):(zax l)[k]?=some (.int ((l.getD k 0:Nat):Int)):=by
 rw[yf,yf,yj h,ye,yj h];rfl
theorem zd5{P:Nat->Bool}{j:Nat}:(List.range (j+1)).filter P=(List.range j).filter P++if P j=true then[j] else[]:=by
 rw[yC,ybA]
 by_cases h:P j=true
 ·rw[if_pos h,ybk h];rfl
 ·rw[if_neg h,ybl h];rfl
theorem zpH{α:Type}{P:α->Bool}{x:α}:[x].filter P=if P x=true then[x] else[]:=by
 by_cases h:P x=true
 ·rw[if_pos h,ybk h];rfl
 ·rw[if_neg h,ybl h];rfl
theorem zfH:∀(ls:List (List Nat)) (l0 l:List Nat) (i:Nat),(l0 :: ls)[i]?=some l->(∀(j:Nat) (m:List Nat),(l0 :: ls)[j]?=some m->l.length<=m.length/\(j<i->l.length<m.length))->ls.foldl (fun b c=>if c.length<b.length then c else b) l0=l
 | [],l0,l,0,h,_=>yn h
 | [],l0,l,i+1,h,_=>by cases h
 | d :: ls,l0,l,0,h,c=>by
  have e:l0=l:=yn h
  subst e
  have h1:=(c 1 d rfl).1
  show ls.foldl _ (if d.length<l0.length then d else l0)=l0
  rw[if_neg (by omega)]
  refine zfH ls l0 l0 0 rfl fun j m hm=>?_
  cases j with
  | zero=>cases hm;exact⟨yg _,fun z=>absurd z (yaa _)⟩
  | succ j=>exact⟨(c (j+2) m hm).1,fun z=>absurd z (yaB _)⟩
 | d :: ls,l0,l,1,h,c=>by
  have e:d=l:=yn h
  subst e
  have h1:=(c 0 l0 rfl).2 (by omega)
  show ls.foldl _ (if d.length<l0.length then d else l0)=d
  rw[if_pos h1]
  refine zfH ls d d 0 rfl fun j m hm=>?_
  cases j with
  | zero=>cases hm;exact⟨yg _,fun z=>absurd z (yaa _)⟩
  | succ j=>exact⟨(c (j+2) m hm).1,fun z=>absurd z (yaB _)⟩
 | d :: ls,l0,l,i+2,h,c=>by
  have h0:=(c 0 l0 rfl).2 (by omega)
  have h1:=(c 1 d rfl).2 (by omega)
  show ls.foldl _ (if d.length<l0.length then d else l0)=l
  refine zfH ls _ l (i+1) h fun j m hm=>?_
  cases j with
  | zero=>
   have e:=yn hm
   have h2:l.length<m.length:=by
    rw[<- e]
    by_cases z:d.length<l0.length
    ·rw[if_pos z];exact h1
    ·rw[if_neg z];exact h0
   exact⟨yaQ h2,fun _=>h2⟩
  | succ j=>exact⟨(c (j+2) m hm).1,fun z=>(c (j+2) m hm).2 (by omega)⟩
theorem zoX{ls:List (List Nat)}{l:List Nat}{i:Nat}(h:ls[i]?=some l)(c:∀(j:Nat) (m:List Nat),ls[j]?=some m->l.length<=m.length/\(j<i->l.length<m.length)):Rc.minL ls=l:=by
 cases ls with
 | nil=>cases h
 | cons l0 ls=>exact zfH ls l0 l i h c
theorem zb4{l:List Nat}{n k:Nat}(h:k<l.length)(hl:∀x∈l,x<n):l.getD k 0<n:=by
 rw[ye,yj h];exact hl _ (ybP h)
def LsOf(H:Hp)(as:List Addr)(ls:List (List Nat)):Prop:=as.length=ls.length/\∀(i:Nat) (a:Addr),as[i]?=some a->∃l,ls[i]?=some l/\H a=some (.lst (zax l))
theorem LsOf.nil{H:Hp}:LsOf H [] []:=⟨rfl,fun _ _ h=>nomatch h⟩
theorem LsOf.same{H H':Hp}{as:List Addr}{ls:List (List Nat)}(h:LsOf H as ls)(e:Same H H'):LsOf H' as ls:=⟨h.1,fun i a q=>by obtain⟨l,h1,h2⟩:=h.2 i a q;exact⟨l,h1,e.at h2⟩⟩
theorem LsOf.but{H H':Hp}{as:List Addr}{ls:List (List Nat)}{D:Addr}(h:LsOf H as ls)(e:LBut D H H')(n:D∉as):LsOf H' as ls:=
 ⟨h.1,fun i a q=>by obtain⟨l,h1,h2⟩:=h.2 i a q;exact⟨l,h1,e.lst h2 fun z=>n (z▸ya q)⟩⟩
theorem LsOf.snoc{H:Hp}{as:List Addr}{ls:List (List Nat)}{a:Addr}{l:List Nat}(h:LsOf H as ls)(ha:H a=some (.lst (zax l))):LsOf H (as++[a]) (ls++[l]):=
 ⟨by rw[yb,yb,h.1];rfl,fun i b q=>by
  rcases ybL i as.length with hi | hi | hi
  ·rw[yW hi]at q
   rw[yW (by rw[<- h.1];exact hi)];exact h.2 i b q
  ·rw[hi,ya7]at q
   cases q
   exact⟨l,by rw[hi,h.1,ya7],ha⟩
  ·rw[yae (by rw[yb];simp only[y8];omega)]at q
   cases q⟩
def zhf(K:Fg):Sp:=fun vs H Q _=>∃(a:Addr) (i n:Nat) (as:List Addr) (F:Nat->Nat->Int),vs=[.ref a,.int i]/\H a=some (.lst (as.map V.ref))/\as.length=n/\Rows H as n F/\n<=9/\i<n /\
 ∀p H',H p=none->Same H H'->H' p=some (.lst (zax (Rc.reach n (fun i j=>decide (0<F i j)) i)))->Q (.ref p) H'
def zmF:=fun {K:Fg} {a:Addr} {i n:Nat} {as:List Addr} {F:Nat->Nat->Int} {H:Hp} {Q:VK} {E:XK} h hl hR h9 hi q=>@id (zhf K [.ref a,.int i] H Q E) ⟨a,i,n,as,F,rfl,h,hl,hR,h9,hi,q⟩
def zgi(K:Fg):Sp:=fun vs H Q _=>∃(a b:Addr) (n:Nat) (as:List Addr) (F:Nat->Nat->Int) (ρ:Nat->Option Nat),vs=[.ref a,.ref b]/\H a=some (.lst (as.map V.ref))/\as.length=n/\Rows H as n F/\H b=some (.lst (z9 n ρ))/\n<=9 /\
 ∀p H',H p=none->Same H H'->H' p=some (.lst (zax (Rc.circle n (fun i j=>decide (0<F i j)) fun i=>(ρ i).isSome)))->Q (.ref p) H'
def zlk:=fun {K:Fg} {a b:Addr} {n:Nat} {as:List Addr} {F:Nat->Nat->Int} {ρ:Nat->Option Nat} {H:Hp} {Q:VK} {E:XK} h hl hR hb h9 q=>@id (zgi K [.ref a,.ref b] H Q E) ⟨a,b,n,as,F,ρ,rfl,h,hl,hR,hb,h9,q⟩
theorem PRows.upd{H H':Hp}{as:List Addr}{F:Nat->List Rat}{j:Nat}{a:Addr}{vs:List V}{G:List Rat}(h:PRows H as F)(g:LBut a H H')(ha:as[j]?=some a)(h':H' a=some (.lst vs))(hv:IsQs H' vs G):PRows H' as (fun m=>if m=j then G else F m):=by
 refine⟨h.1,fun m b hb=>?_⟩
 by_cases e:m=j
 ·subst e
  rw[ha]at hb;cases hb
  show ∃vs,H' a=some (.lst vs)/\IsQs H' vs (if m=m then G else F m)
  rw[if_pos rfl]
  exact⟨_,h',hv⟩
 ·obtain⟨us,u1,u2⟩:=h.2 m b hb
  show ∃vs,H' b=some (.lst vs)/\IsQs H' vs (if m=j then G else F m)
  rw[if_neg e]
  exact⟨us,g.lst u1 fun z=>e (zb6 h.1 hb (z▸ha)),LBut.isQs g u2⟩
def zcw(n:Nat)(F:Nat->Nat->Int)(c:List Nat)(a b:Nat):Int:=if a=b then zao (vec n (F (c.getD a 0)))else -F (c.getD b 0) (c.getD a 0)
def zkU(K:Fg):Sp:=fun vs H Q _=>∃(a b:Addr) (n:Nat) (as:List Addr) (F:Nat->Nat->Int) (c:List Nat),vs=[.ref a,.ref b]/\H a=some (.lst (as.map V.ref))/\as.length=n/\Rows H as n F/\H b=some (.lst (zax c))/\(∀x∈c,x<n)/\c.length<=9/\n<=9 /\
 ∀p H' bs,H p=none->Same H H'->H' p=some (.lst (List.map V.ref bs))->bs.length=c.length->PRows H' bs (fun a=>(List.range c.length).map fun b=>((zcw n F c a b:Int):Rat))->(∀b∈bs,H b=none)->Q (.ref p) H'
def zpR:=fun {K:Fg} {a b:Addr} {n:Nat} {as:List Addr} {F:Nat->Nat->Int} {c:List Nat} {H:Hp} {Q:VK} {E:XK} h hl hR hb hc c9 h9 q=>@id (zkU K [.ref a,.ref b] H Q E) ⟨a,b,n,as,F,c,rfl,h,hl,hR,hb,hc,c9,h9,q⟩
def zfd(K:Fg):Sp:=fun vs H Q _=>∃(a:Addr) (as:List Addr) (w:Nat) (T:Nat->Nat->Int) (k:Int),vs=[.ref a,.int k]/\H a=some (.lst (as.map V.ref))/\Rows H as w T/\0<=k/\k<as.length/\k<w/\as.length<=20/\(∃i,k.toNat<=i/\i<as.length/\T i k.toNat≠0) /\
 (∀p H' as' i,k.toNat<=i->i<as.length->T i k.toNat≠0->H p=none->Same H H'->H' p=some (.lst (as'.map V.ref))->as'.length=as.length->(∀b∈as',b∈as)->Rows H' as' w (Dt.swp T k.toNat i)->Q (.ref p) H')
def zhr:=fun {K:Fg} {a:Addr} {as:List Addr} {w:Nat} {T:Nat->Nat->Int} {k:Int} {H:Hp} {Q:VK} {E:XK} h1 h2 k0 k1 k2 hl q0 q1=>@id (zfd K [.ref a,.int k] H Q E) ⟨a,as,w,T,k,rfl,h1,h2,k0,k1,k2,hl,q0,q1⟩
def zhQ(K:Fg)(z1 zb:Nat):Sp:=fun vs H Q _=>∃(a b:Addr) (n:Nat) (R:Nat->Nat->Rat),vs=[.ref a,.ref b]/\Sys H a b n R/\n<=9/\(∀l j,l<n->j<=n->SzQ (R l j) z1 zb)/\1<=zb/\20*zb<=8000/\z1<=100000/\n*(z1+(n+1)*zb+4)<=8990/\Dt.det n (Dt.cl R)≠0 /\
 (∀p H' vs (x:Nat->Rat),H p=none->Same H H'->H' p=some (.lst vs)->IsQs H' vs ((List.range n).map x)->(∀l,l<n->Dt.sm n (fun m=>R l m*x m)=R l n)->(∀m,m<n->SzQ (x m) (n*(z1+(n+1)*zb+4)+1) (n*(z1+(n+1)*zb+4)+1))->Q (.ref p) H')
def zfX:=fun {K:Fg} {z1 zb:Nat} {a b:Addr} {n:Nat} {R:Nat->Nat->Rat} {H:Hp} {Q:VK} {E:XK} h n1 hz h1 h2 h3 h4 q0 q1=>@id (zhQ K z1 zb [.ref a,.ref b] H Q E) ⟨a,b,n,R,rfl,h,n1,hz,h1,h2,h3,h4,q0,q1⟩
def zek(n:Nat)(F:Nat->Nat->Int)(c:List Nat)(x:Nat->Rat)(i:Nat):Rat:=sF c.length (fun a=>c.getD a 0) x i*((zao (vec n (F i)):Int):Rat)
def zkm(K:Fg):Sp:=fun vs H Q _=>∃(a b d:Addr) (n:Nat) (as:List Addr) (F:Nat->Nat->Int) (c:List Nat) (ws:List V) (x:Nat->Rat),vs=[.ref a,.ref b,.ref d]/\H a=some (.lst (as.map V.ref))/\as.length=n/\Rows H as n F/\H b=some (.lst (zax c))/\(∀x∈c,x<n)/\c.Nodup/\c.length<=9/\n<=9/\H d=some (.lst ws)/\IsQs H ws ((List.range c.length).map x)/\(∀m,m<c.length->OkQ (x m))/\(∀i,i<n->OkQ ((zao (vec n (F i)):Int):Rat)) /\
 ∀p H' vs,H p=none->Same H H'->H' p=some (.lst vs)->IsQs H' vs ((List.range n).map (zek n F c x))->Q (.ref p) H'
def zia:=fun {K:Fg} {a b d:Addr} {n:Nat} {as:List Addr} {F:Nat->Nat->Int} {c:List Nat} {ws:List V} {x:Nat->Rat} {H:Hp} {Q:VK} {E:XK} h hl hR hb hc nd c9 h9 hd hx z1 z2 q=>@id (zkm K [.ref a,.ref b,.ref d] H Q E) ⟨a,b,d,n,as,F,c,ws,x,rfl,h,hl,hR,hb,hc,nd,c9,h9,hd,hx,z1,z2,q⟩
def zc6(n:Nat)(F:Nat->Nat->Int)(c:List Nat)(a b:Nat):Rat:=if a=0 then(if b=0 then 1 else 0) else((zcw n F c a b:Int):Rat)
def FlOk(n:Nat)(F:Nat->Nat->Int):Prop:=(∀i j,i<n->j<n->sz (F i j)<=59)/\∀i,i<n->sz (zao (vec n (F i)))<=59
theorem FlOk.bal{n:Nat}{F:Nat->Nat->Int}{c:List Nat}(h:FlOk n F)(hc:∀x∈c,x<n){a b:Nat}(ha:a<c.length)(hb:b<c.length):sz (zcw n F c a b)<=60:=by
 unfold zcw
 split
 ·exact yc (h.2 _ (zb4 ha hc)) (by decide)
 ·exact yc (ze8 _) (yc (h.1 _ _ (zb4 hb hc) (zb4 ha hc)) (by decide))
theorem zfa:sz (1:Int)<=1:=zas (by decide)
theorem FlOk.sum{n:Nat}{F:Nat->Nat->Int}(h:FlOk n F){i:Nat}(hi:i<n):OkQ ((zao (vec n (F i)):Int):Rat):=by
 have:=h.2 i hi
 exact⟨yc (show sz (((zao (vec n (F i)):Int):Rat).num)<=59 from this) (by decide),yc zfa (by decide)⟩
theorem zdv{x:Int}{z:Nat}(h:sz x<=z):SzQ ((x:Int):Rat) z 1:=⟨h,zfa⟩
theorem zem{n:Nat}(h:n<=9):n*(60+(n+1)*1+4)+1<=667:=by
 have:=yaP h (show 60+(n+1)*1+4<=74 by omega)
 omega
def zmz(K:Fg):Sp:=fun vs H Q _=>∃(a b:Addr) (n:Nat) (as:List Addr) (F:Nat->Nat->Int) (c:List Nat),vs=[.ref a,.ref b]/\H a=some (.lst (as.map V.ref))/\as.length=n/\Rows H as n F/\H b=some (.lst (zax c))/\(∀x∈c,x<n)/\c.Nodup/\1<=c.length/\c.length<=9/\n<=9/\FlOk n F/\Dt.det c.length (Dt.cl (zc6 n F c))≠0 /\
 ∀p H' vs (x:Nat->Rat),H p=none->Same H H'->H' p=some (.lst vs)->IsQs H' vs ((List.range n).map (zek n F c x))->(∀l,l<c.length->Dt.sm c.length (fun m=>zc6 n F c l m*x m)=if l=0 then 1 else 0)->(∀m,m<c.length->SzQ (x m) 667 667)->Q (.ref p) H'
def znA:=fun {K:Fg} {a b:Addr} {n:Nat} {as:List Addr} {F:Nat->Nat->Int} {c:List Nat} {H:Hp} {Q:VK} {E:XK} h hl hR hb hc nd c1 c9 h9 z q0 q=>@id (zmz K [.ref a,.ref b] H Q E) ⟨a,b,n,as,F,c,rfl,h,hl,hR,hb,hc,nd,c1,c9,h9,z,q0,q⟩
def shorts(n:Nat)(ρ:Nat->Option Nat):List Nat:=(List.range n).filter fun i=>(ρ i).isSome
theorem zmY{n:Nat}{ρ:Nat->Option Nat}:∀x∈shorts n ρ,x<n:=fun x h=>yU.mp (yaI.mp h).1
theorem zmQ{n:Nat}{ρ:Nat->Option Nat}:(shorts n ρ).Nodup:=ybO.filter _
theorem zk8{n:Nat}{ρ:Nat->Option Nat}:(shorts n ρ).length<=n:=by
 have:=ybp (fun i=>(ρ i).isSome) (List.range n)
 rw[yv]at this;exact this
def zmv(K:Fg):Sp:=fun vs H Q _=>∃(a b d:Addr) (n:Nat) (as:List Addr) (F:Nat->Nat->Int) (ρ:Nat->Option Nat) (ps:List Int),vs=[.ref a,.ref b,.ref d]/\H a=some (.lst (as.map V.ref))/\as.length=n/\Rows H as n F/\H b=some (.lst (z9 n ρ))/\H d=some (.lst (ps.map V.int))/\ps.length=n/\(∀p∈ps,sz p<=59)/\n<=9/\FlOk n F/\Dt.det (shorts n ρ).length (Dt.cl (fun a b=>((zcw n F (shorts n ρ) a b:Int):Rat)))≠0 /\
 ∀p H' vs (x:Nat->Rat),H p=none->Same H H'->H' p=some (.lst vs)->IsQs H' vs ((List.range n).map (zek n F (shorts n ρ) x))->(∀l,l<(shorts n ρ).length->Dt.sm (shorts n ρ).length (fun m=>((zcw n F (shorts n ρ) l m:Int):Rat)*x m)=((ps.getD ((shorts n ρ).getD l 0) 0:Int):Rat))->(∀m,m<(shorts n ρ).length->SzQ (x m) 667 667)->Q (.ref p) H'
def zoh:=fun {K:Fg} {a b d:Addr} {n:Nat} {as:List Addr} {F:Nat->Nat->Int} {ρ:Nat->Option Nat} {ps:List Int} {H:Hp} {Q:VK} {E:XK} h hl hR hb hd pl pz h9 z q0 q=>@id (zmv K [.ref a,.ref b,.ref d] H Q E) ⟨a,b,d,n,as,F,ρ,ps,rfl,h,hl,hR,hb,hd,pl,pz,h9,z,q0,q⟩
def zme(K:Fg):Sp:=fun vs H Q _=>∃(a b d e:Addr) (n:Nat) (as:List Addr) (ds:List Due) (l r:Nat->Rat) (us ws:List V),vs=[.ref a,.ref b,.ref d,.ref e]/\H a=some (.lst (as.map V.ref))/\as.length=n/\Rows H as 3 (zD ds)/\H b=some (.lst (z9 n (stp ds l)))/\H d=some (.lst us)/\IsQs H us ((List.range n).map l)/\H e=some (.lst ws)/\IsQs H ws ((List.range n).map r)/\n<=9/\(∀i,i<n->0<r i->stp ds l i≠none/\OkQ (l i)/\OkQ (zbX ds l i)/\OkQ (zbX ds l i-l i)/\SzQ (r i) 8999 8999/\SzQ (zaz ds l r i) 60000 60000) /\
 (zaw ds l r n=none->∀H',Same H H'->Q .non H')/\(∀x,zaw ds l r n=some x->∀p H',Same H H'->IsQ H' p x->Q (.ref p) H')
def zjF:=fun {K:Fg} {a b d e:Addr} {n:Nat} {as:List Addr} {ds:List Due} {l r:Nat->Rat} {us ws:List V} {H:Hp} {Q:VK} {E:XK} h hl hR hb hd hu he hw h9 z q1 q2=>@id (zme K [.ref a,.ref b,.ref d,.ref e] H Q E) ⟨a,b,d,e,n,as,ds,l,r,us,ws,rfl,h,hl,hR,hb,hd,hu,he,hw,h9,z,q1,q2⟩
def zkN(K:Fg):Sp:=fun vs H Q _=>∃(d e s:Addr) (n:Nat) (l r:Nat->Rat) (t:Rat) (us ws:List V),vs=[.ref d,.ref e,.ref s]/\H d=some (.lst us)/\IsQs H us ((List.range n).map l)/\H e=some (.lst ws)/\IsQs H ws ((List.range n).map r)/\IsQ H s t/\n<=9/\OkQ t/\(∀i,i<n->OkQ (l i)/\OkQ (r i)/\OkQ (r i*t)) /\
 ∀p H' vs,H p=none->Same H H'->H' p=some (.lst vs)->IsQs H' vs ((List.range n).map fun i=>l i+r i*t)->Q (.ref p) H'
def zee:=fun {K:Fg} {d e s:Addr} {n:Nat} {l r:Nat->Rat} {t:Rat} {us ws:List V} {H:Hp} {Q:VK} {E:XK} hd hu he hw hs h9 z0 z q=>@id (zkN K [.ref d,.ref e,.ref s] H Q E) ⟨d,e,s,n,l,r,t,us,ws,rfl,hd,hu,he,hw,hs,h9,z0,z,q⟩
open PySem PySem.Spec PyProof.Rows Dt
theorem zhY{i j:Int}(h:((i:Int):Rat)<=((j:Int):Rat)):i<=j:=by exact_mod_cast h
theorem zlN(f:Nat->Int):∀n:Nat,((zao (vec n f):Int):Rat)=sm n (fun j=>((f j:Int):Rat))
 | 0=>rfl
 | n+1=>by
  have ih:=zlN f n
  rw[zcu]at ih ⊢
  show((zaD f n+f n:Int):Rat)=sm n (fun j=>((f j:Int):Rat))+((f n:Int):Rat)
  rw[yS,ih]
section
variable {n:Nat}{ds:List Due}{l p:Nat->Rat}{c:List Nat}{x:Nat->Rat}{t:Rat}
abbrev flI(ds:List Due)(l:Nat->Rat):Nat->Nat->Int:=zat (stp ds l) ds
theorem zgY(i:Nat):((zao (vec n (flI ds l i)):Int):Rat)=zan n ds l i:=zlN _ n
theorem zjD(a b:Nat):((zcw n (flI ds l) c a b:Int):Rat)=bal (cF ds l c) (cR n ds l c) a b:=by
 unfold zcw bal
 by_cases e:a=b
 ·rw[if_pos e,if_pos e];exact zgY _
 ·rw[if_neg e,if_neg e,yaJ];rfl
theorem zmO(a b:Nat):zc6 n (flI ds l) c a b=zc0 (cF ds l c) (cR n ds l c) a b:=by
 unfold zc6 zc0
 by_cases e:a=0
 ·rw[if_pos e,if_pos e]
 ·rw[if_neg e,if_neg e];exact zjD a b
theorem zmM(i:Nat):zek n (flI ds l) c x i=sF c.length (fun a=>c.getD a 0) x i*zan n ds l i:=by
 unfold zek
 rw[zgY]
theorem zoL{m:Nat}{s:Nat->Nat}{x y:Nat->Rat}(h:∀a,a<m->x a=y a)(i:Nat):sF m s x i=sF m s y i:=sm_congr fun a ha=>by rw[h a ha]
theorem zi3(hd:∀d∈ds,zM n d)(hc:crL n ds l≠[])(hx:zc9 n ds l (crL n ds l) x)(i:Nat):zek n (flI ds l) (crL n ds l) x i=rtF n ds p l i:=by
 rw[zmM]
 unfold rtF shF
 rw[if_neg hc]
 have hy:zc9 n ds l (crL n ds l) (zjw n ds l (crL n ds l)):=yaw ⟨x,hx⟩
 show _*_=_*_
 rw[zoL (zn9 hd (Rc.circle_ok hc) hx hy)]
theorem zhT(hd:∀d∈ds,zM n d)(hc:crL n ds l=[])(hx:zdy n ds p l (slL n ds l) x)(i:Nat):zek n (flI ds l) (slL n ds l) x i=rtF n ds p l i:=by
 rw[zmM]
 unfold rtF shF
 rw[if_pos hc]
 have hy:zdy n ds p l (slL n ds l) (zhp n ds p l (slL n ds l)):=yaw ⟨x,hx⟩
 show _*_=_*_
 rw[zoL (znj hd hc hx hy)]
theorem znt(hd:∀d∈ds,zM n d)(hc:crL n ds l≠[]):det (crL n ds l).length (cl (zc6 n (flI ds l) (crL n ds l)))≠0:=by
 obtain⟨m,hm⟩:∃m,(crL n ds l).length=m+1:=⟨(crL n ds l).length-1,by
  have:(crL n ds l).length≠0:=fun z=>hc (yaf z)
  omega⟩
 intro z
 refine zkp hd (Rc.circle_ok hc) hm ?_
 rw[hm]at z
 rw[<- z]
 exact det_congr fun j r _ _=>(zmO r j).symm
theorem zlG(hd:∀d∈ds,zM n d)(hc:crL n ds l=[]):det (slL n ds l).length (cl (fun a b=>((zcw n (flI ds l) (slL n ds l) a b:Int):Rat)))≠0:=by
 have L:=zec hd hc (m:=(slL n ds l).length) (s:=fun a=>(slL n ds l).getD a 0) (fun a ha=>sl_mem.mp (zaZ ha)) (zbt zdU)
 intro z
 refine L.det ?_
 rw[<- z]
 exact det_congr fun j r _ _=>(zjD r j).symm
theorem zn4(h:∀a,a<c.length->sm c.length (fun b=>zc6 n (flI ds l) c a b*x b)=if a=0 then 1 else 0):zc9 n ds l c x:=fun a ha=>by
 rw[<- h a ha]
 exact sm_congr fun b _=>by rw[zmO]
theorem znz(h:∀a,a<c.length->sm c.length (fun b=>((zcw n (flI ds l) c a b:Int):Rat)*x b)=p (c.getD a 0)):zdy n ds p l c x:=fun a ha=>by
 rw[<- h a ha]
 exact sm_congr fun b _=>by rw[zjD]
theorem zpC{ρ:Nat->Option Nat}{i j:Nat}{A:Int}(A0:0<=A)(ds:List Due):(∀d∈ds,d.a<=A)->zat ρ ds i j<=A*(ds.length:Int):=
 zaY (P:=fun ds=>(∀d∈ds,d.a<=A)->zat ρ ds i j<=A*(ds.length:Int)) (fun _=>by show(0:Int)<=A*((0:Nat):Int);omega) (fun es d ih h=>by
  have h1:=ih fun e he=>h e (yr _ he)
  have h2:=h d (ym _ (.head _))
  rw[zbh,yb,y8]
  have e:A*((es.length+1:Nat):Int)=A*(es.length:Int)+A:=by rw[Int.natCast_add,Int.mul_add];omega
  rw[e]
  split<;>omega) ds
theorem zmj{A:Int}(hd:∀d∈ds,zM n d)(hA:∀d∈ds,d.a<=A)(A0:0<=A)(i:Nat):0<=zao (vec n (flI ds l i))/\zao (vec n (flI ds l i))<=A*(ds.length:Int):=by
 have e:=zgY (n:=n) (ds:=ds) (l:=l) i
 cases hs:stp ds l i with
 | none=>
  have:zan n ds l i=0:=sm_zero fun j _=>by unfold flR;rw[zh0 hs];rfl
  rw[this]at e
  have e0:zao (vec n (flI ds l i))=0:=by exact_mod_cast e
  rw[e0]
  exact⟨yaG _,ybi A0 (by omega)⟩
 | some r=>
  have h1:zan n ds l i=((zD ds i r:Int):Rat):=ziN hs ds fun d hm=>by
   have:=hd d hm
   exact⟨this.2.2.1,this.2.2.2.1,this.2.2.2.2.2.1⟩
  rw[h1]at e
  have e0:zao (vec n (flI ds l i))=zD ds i r:=by exact_mod_cast e
  rw[e0]
  exact zdB ds (fun d hm=>⟨(hd d hm).2.2.2.2.2.2.2.1,hA d hm⟩) A0
theorem zrh(hd:∀d∈ds,zM n d)(hA:∀d∈ds,d.a<=1000000000000)(hl:ds.length<=64):FlOk n (flI ds l):=by
 have z:∀v:Int,0<=v->v<=1000000000000*(ds.length:Int)->sz v<=59:=fun v h0 h1=>zas (by
  have:v.natAbs<=64000000000000:=by omega
  exact yab this (by decide))
 exact⟨fun i j _ _=>z _ (zfJ ds fun d hm=>(hd d hm).2.2.2.2.2.2.2.1) (zpC (by decide) ds hA),fun i _=>by
  have:=zmj (l:=l) hd hA (by decide) i
  exact z _ this.1 this.2⟩
theorem zma(hz:FlOk n (flI ds l))(nd:c.Nodup)(hx:∀a,a<c.length->SzQ (x a) 667 667){i:Nat}(hi:i<n):SzQ (zek n (flI ds l) c x i) 726 668:=by
 have h1:SzQ (sF c.length (fun a=>c.getD a 0) x i) 667 667:=by
  rcases yam (∃a,a<c.length/\c.getD a 0=i) with⟨a,ha,e⟩ | w
  ·rw[<- e,zfC (s:=fun a=>c.getD a 0) (zbt nd) ha];exact hx a ha
  ·rw[zgM fun a ha e=>w ⟨a,ha,e⟩];exact znp (by decide)
 exact SzQ.mul h1 (zdv (hz.2 i hi)) (by decide) (by decide)
theorem zm4{q:Rat}{D:Nat}(hD:0<D)(h:Dv D q)(hD2:D<=2 ^ 7000)(q0:0<=q)(q1:q<=((1000000000000000:Int):Rat)):SzQ q 7051 7001:=by
 have hle:q.den<=2 ^ 7000:=yc (Nat.le_of_dvd hD (Dv.den hD h)) hD2
 refine⟨zas ?_,zas ?_⟩
 ·have n0:0<=q.num:=Rat.num_nonneg.mpr q0
  have e:=zpV q
  have hd0:(0:Rat)<=(((q.den:Nat):Int):Rat):=zaq (by omega)
  have h1:((q.num:Int):Rat)<=((1000000000000000:Int):Rat)*(((q.den:Nat):Int):Rat):=by
   rw[e];exact yH q1 hd0
  rw[<- yu]at h1
  have h2:q.num<=1000000000000000*((q.den:Nat):Int):=zhY h1
  have h3:q.num.natAbs<=1000000000000000*q.den:=by clear hle hD2;omega
  have h4:1000000000000000*q.den<=2 ^ 50*2 ^ 7000:=yaP (by decide) hle
  rw[<- ya0]at h4
  exact yab (yc h3 h4) (yba (by decide) (by decide))
 ·rw[yac]
  exact yab hle (yba (by decide) (by decide))
end
abbrev pQ(ps:List Int)(i:Nat):Rat:=((ps.getD i 0:Int):Rat)
set_option genInjectivity false in
set_option genSizeOf false in
structure Clr(n:Nat)(ds:List Due)(ps:List Int)(W P:Rat):Prop where
 n9:n<=9
 hd:∀d∈ds,zM n d
 ha:∀d∈ds,d.a<=1000000000000
 hl:ds.length<=64
 pl:ps.length=n
 pz:∀p∈ps,0<=p/\p<=100000000000000
 hW:∀l i,i<n->2*zan n ds l i<=W
 W1:1<=W
 hP:sm n (pQ ps)<=P
 P1:1<=P
 big:prodN (fun _=>prodN (fun _=>W) n*P*W) (zcP n ds+1)<=(((2 ^ 7000:Nat):Int):Rat)
section
variable {n:Nat}{ds:List Due}{ps:List Int}{W P:Rat}{l:Nat->Rat}{t:Rat}{k:Nat}
theorem Clr.p0(C:Clr n ds ps W P):∀i,i<n->0<=pQ ps i:=fun i hi=>by
 obtain⟨p,hp⟩:=zO (show i<ps.length by rw[C.pl];exact hi)
 unfold pQ
 rw[ye,hp]
 exact zaq (C.pz p (ya hp)).1
theorem Clr.pz'(C:Clr n ds ps W P):∀p∈ps,sz p<=59:=fun p hp=>zas (by
 have:=C.pz p hp
 exact yab (show p.natAbs<=100000000000000 by omega) (by decide))
theorem Clr.B1(C:Clr n ds ps W P):1<=prodN (fun _=>W) n*P*W:=by
 have h1:(1:Rat)<=prodN (fun _=>W) n:=zeI (k:=0) C.W1 (yF _)
 have h2:=C.P1
 have h3:=C.W1
 have h4:(1:Rat)*1<=prodN (fun _=>W) n*P:=by
  refine yP (yH h1 (by decide)) (yJ h2 (by grind))
 have h5:(1:Rat)*1<=prodN (fun _=>W) n*P*W:=by
  refine yP (yH (show(1:Rat)<=prodN (fun _=>W) n*P by grind) (by decide)) (yJ h3 (by grind))
 grind
theorem Clr.dv(C:Clr n ds ps W P)(h:COk n ds (pQ ps) (prodN (fun _=>W) n*P*W) k l t):∃D:Nat,0<D/\D<=2 ^ 7000/\(∀i,i<n->Dv D (l i))/\Dv D t:=by
 obtain⟨D,D0,D1,hl,ht⟩:=h.dv
 refine⟨D,D0,?_,hl,ht⟩
 have h1:=yP (yP D1 (zeI C.B1 h.le)) C.big
 exact Int.ofNat_le.mp (zhY h1)
theorem Clr.cum(C:Clr n ds ps W P)(i:Nat){r:Nat}(hr:r<=3):0<=zaD (zD ds i) r/\zaD (zD ds i) r<=300000000000000:=by
 have hf:∀j,j<3->0<=zD ds i j/\zD ds i j<=100000000000000:=fun j _=>by
  have:=zci (m:=i) (r:=j) ds fun d h=>⟨(C.hd d h).2.2.2.2.2.2.2.1,C.ha d h⟩
  have:=C.hl
  omega
 have:=zdQ hf r hr
 omega
theorem Clr.lay(C:Clr n ds ps W P)(h:COk n ds (pQ ps) (prodN (fun _=>W) n*P*W) k l t){i:Nat}(hi:i<n):SzQ (l i) 7051 7001:=by
 obtain⟨D,D0,D1,hl,_⟩:=C.dv h
 refine zm4 D0 (hl i hi) D1 (h.inv.lo i hi) (yP (h.inv.hi i hi) (zaX ?_))
 have:=(C.cum i (yg 3)).2
 omega
theorem Clr.top(C:Clr n ds ps W P)(h:COk n ds (pQ ps) (prodN (fun _=>W) n*P*W) k l t):SzQ t 7051 7001:=by
 obtain⟨D,D0,D1,_,ht⟩:=C.dv h
 exact zm4 D0 ht D1 h.t0 (yP h.t1 (show((1:Int):Rat)<=_ from zaX (by decide)))
theorem Clr.shut(C:Clr n ds ps W P)(h:COk n ds (pQ ps) (prodN (fun _=>W) n*P*W) k l t):SzQ (1-t) 7053 7002:=by
 rw[ybE]
 exact SzQ.add (zdv (x:=1) zfa) (C.top h).neg (k:=7052) (by decide) (by decide) (by decide)
theorem Clr.endz(C:Clr n ds ps W P){i:Nat}(hs:stp ds l i≠none):SzQ (zbX ds l i) 50 1:=by
 obtain⟨ρ,hρ⟩:∃ρ,stp ds l i=some ρ:=by
  cases h:stp ds l i with
  | none=>exact absurd h hs
  | some ρ=>exact⟨ρ,rfl⟩
 have hρ3:ρ < 3:=(zbM hρ).1
 rw[ze6 hρ]
 have:=C.cum i (show ρ+1<=3 by omega)
 exact zdv (zas (yab (show(zaD (zD ds i) (ρ+1)).natAbs<=300000000000000 by omega) (by decide)))
theorem Clr.gap(C:Clr n ds ps W P)(h:COk n ds (pQ ps) (prodN (fun _=>W) n*P*W) k l t){i:Nat}(hi:i<n)(hs:stp ds l i≠none):SzQ (zbX ds l i-l i) 7053 7002:=by
 rw[ybE]
 exact SzQ.add (C.endz hs) (C.lay h hi).neg (k:=7052) (by decide) (by decide) (by decide)
theorem Clr.room(C:Clr n ds ps W P)(h:COk n ds (pQ ps) (prodN (fun _=>W) n*P*W) k l t){r:Nat->Rat}{i:Nat}(hi:i<n)(hs:stp ds l i≠none)(hr:SzQ (r i) 726 668)(h0:0<r i):SzQ (zaz ds l r i) 7721 7728:=by
 unfold zaz
 rw[ybx]
 have hn:(r i).num≠0:=fun z=>by
  have:r i=0:=Rat.num_eq_zero.mp z
  rw[this]at h0;exact absurd h0 (by decide)
 exact SzQ.mul (C.gap h hi hs) (hr.inv hn) (by decide) (by decide)
end
section
variable {n:Nat}{ds:List Due}{ps:List Int}{W P:Rat}{l:Nat->Rat}{t:Rat}{k:Nat}
theorem Clr.rooms(C:Clr n ds ps W P)(h:COk n ds (pQ ps) (prodN (fun _=>W) n*P*W) k l t)(hz:∀i,i<n->SzQ (rtF n ds (pQ ps) l i) 726 668):∀i,i<n->0<rtF n ds (pQ ps) l i->stp ds l i≠none/\OkQ (l i)/\OkQ (zbX ds l i)/\OkQ (zbX ds l i-l i)/\SzQ (rtF n ds (pQ ps) l i) 8999 8999/\SzQ (zaz ds l (rtF n ds (pQ ps) l) i) 60000 60000:=fun i hi hr=>by
 obtain⟨ρ,hρ⟩:=zeH C.hd hr
 have hs:stp ds l i≠none:=by rw[hρ];exact nofun
 exact⟨hs,(C.lay h hi).ok (by decide) (by decide),(C.endz hs).ok (by decide) (by decide),(C.gap h hi hs).ok (by decide) (by decide),(hz i hi).mono (by decide) (by decide),(C.room h hi hs (hz i hi) hr).mono (by decide) (by decide)⟩
theorem Clr.stepz(C:Clr n ds ps W P)(h:COk n ds (pQ ps) (prodN (fun _=>W) n*P*W) k l t)(hz:∀i,i<n->SzQ (rtF n ds (pQ ps) l i) 726 668){x:Rat}(hx:zaw ds l (rtF n ds (pQ ps) l) n=some x):SzQ x 7721 7728:=by
 obtain⟨⟨i,hi,hr,rfl⟩,_⟩:=zca hx
 obtain⟨ρ,hρ⟩:=zeH C.hd hr
 exact C.room h hi (by rw[hρ];exact nofun) (hz i hi) hr
theorem Clr.grow(C:Clr n ds ps W P)(h:COk n ds (pQ ps) (prodN (fun _=>W) n*P*W) k l t)(hz:∀i,i<n->SzQ (rtF n ds (pQ ps) l i) 726 668){x:Rat}(hx:SzQ x 7721 7728):OkQ x/\∀i,i<n->OkQ (l i)/\OkQ (rtF n ds (pQ ps) l i)/\OkQ (rtF n ds (pQ ps) l i*x):=
 ⟨hx.ok (by decide) (by decide),fun i hi=>⟨(C.lay h hi).ok (by decide) (by decide),(hz i hi).ok (by decide) (by decide),SzQ.ok (SzQ.mul (hz i hi) hx (k:=8447) (l:=8396) (by decide) (by decide)) (by decide) (by decide)⟩⟩
theorem Clr.cirRoom(C:Clr n ds ps W P)(h:COk n ds (pQ ps) (prodN (fun _=>W) n*P*W) k l t)(ha:Ans n ds (pQ ps) l)(hc:crL n ds l≠[]):∃x,zaw ds l (rtF n ds (pQ ps) l) n=some x:=by
 obtain⟨s0,hb,hpos⟩:=ziF C.hd C.p0 ha
 obtain⟨i,hi,hst,hsi⟩:=hpos hc
 have hr:0<rtF n ds (pQ ps) l i:=by
  cases g:stp ds l i with
  | none=>exact absurd g hst
  | some ρ=>exact ybm hsi (zfK C.hd (h.inv.lo i hi) g)
 cases hq:zaw ds l (rtF n ds (pQ ps) l) n with
 | none=>exact absurd hr (zc1 hq i hi)
 | some q=>exact⟨q,rfl⟩
end
theorem zn2{n:Nat}{ds:List Due}{p l:Nat->Rat}{t:Rat}(hc:crL n ds l=[])(h:zaw ds l (rtF n ds p l) n=none):stF n ds p l t=1-t:=by
 unfold stF;rw[if_pos hc,h]
theorem znK{n:Nat}{ds:List Due}{p l:Nat->Rat}{t q:Rat}(hc:crL n ds l=[])(h:zaw ds l (rtF n ds p l) n=some q):stF n ds p l t=if 1-t<q then 1-t else q:=by
 unfold stF;rw[if_pos hc,h]
theorem zrD{K:Fg}{H:Hp}{Q:VK}{a b:Addr}{q r:Rat}(h1:IsQ H a q)(h2:IsQ H b r)(k:Q (.bl (decide (q=r))) H):zaN K (.ref a) (.ref b) H Q:=by
 have hdq:(dQ q).depth<=1:=by simp[dQ,PyData.depth,PyData.depthAll]
 refine zlr h1.rep h2.rep (by omega) ?_
 rw[zqe];exact k
def zh9(K:Fg):Sp:=fun vs H Q _=>∃(a u:Addr) (n:Nat) (ds:List Due) (ps:List Int) (W P:Rat),vs=[.ref a,.ref u]/\IsSh K H a ds/\H u=some (.lst (ps.map V.int))/\Clr n ds ps W P /\
 ∀p H' ws k,H p=none->Same H H'->H' p=some (.lst ws)->IsQs H' ws ((List.range n).map (cst n ds (pQ ps) k).1)->zcv n ds (cst n ds (pQ ps) k).1 (cst n ds (pQ ps) k).2->(∀j,j<k->¬zcv n ds (cst n ds (pQ ps) j).1 (cst n ds (pQ ps) j).2)->COk n ds (pQ ps) (prodN (fun _=>W) n*P*W) k (cst n ds (pQ ps) k).1 (cst n ds (pQ ps) k).2->Q (.ref p) H'
def zdx:=fun {K:Fg} {a u:Addr} {n:Nat} {ds:List Due} {ps:List Int} {W P:Rat} {H:Hp} {Q:VK} {E:XK} h hu C q=>@id (zh9 K [.ref a,.ref u] H Q E) ⟨a,u,n,ds,ps,W,P,rfl,h,hu,C,q⟩
theorem zpa{K:Fg}{H:Hp}{Q:VK}{a b:Addr}{ns:List Int}(h1:H a=some (.lst (ns.map V.int)))(h2:H b=some (.lst []))(q:Q (.bl (!decide (ns=[]))) H):zcx K (.ref a) (.ref b) H Q:=by
 cases ns with
 | nil=>
  refine ziD (ns:=[]) (ms:=[]) (SqL.of h1) (SqL.of h2) rfl ?_
  exact q
 | cons x xs=>
  refine zoO (.lst (SqL.of h1) (zeR _)) (.lst (SqL.of h2) .nil) (by rw[zeJ,zeA];omega) ?_
  have e:PyData.eqv (.list ((x :: xs).map PyData.int)) (.list [])=false:=by
   rw[yai];simp[PyData.eqv,PyData.eqvAll]
  rw[e]
  exact q
abbrev zdL(w:Nat):Rat:=(((2 ^ w:Nat):Int):Rat)
theorem zgk(a b:Nat):zdL a*zdL b=zdL (a+b):=by
 show _=(((2 ^ (a+b):Nat):Int):Rat)
 rw[ya0,Int.natCast_mul,yu]
theorem zfi(w:Nat):∀n:Nat,prodN (fun _=>zdL w) n=zdL (w*n)
 | 0=>rfl
 | n+1=>by
  show prodN (fun _=>zdL w) n*zdL w=_
  rw[zfi w n,zgk,Nat.mul_succ]
theorem zkH{a b:Nat}(h:a<=b):zdL a<=zdL b:=zaX (Int.ofNat_le.mpr (yaO (by decide) h))
theorem ziK(a:Nat):1<=zdL a:=zkH (yF a)
theorem zmL{f:Nat->Rat}{M:Int}:∀{n:Nat},(∀i,i<n->f i<=((M:Int):Rat))->sm n f<=(((n:Int)*M:Int):Rat)
 | 0,_=>by rw[show((0:Nat):Int)*M=0 by omega];exact yG
 | n+1,h=>by
  have h1:=zmL (n:=n) fun i hi=>h i (by omega)
  have h2:=h n (by omega)
  have e:(((n+1:Nat):Int)*M)=(n:Int)*M+M:=by rw[Int.natCast_add,Int.add_mul];omega
  rw[e,yS]
  show sm n f+f n<=_
  grind
theorem zqQ{n:Nat}(ds:List Due):zcP n ds<=3*n:=zer fun i _=>by
 have:=zer (n:=3) (b:=1) (f:=fun r=>if 0<zD ds i r then 1 else 0) (fun r _=>by split<;>decide)
 exact this
theorem ziV{n w:Nat}{ds:List Due}{ps:List Int}{A:Int}(n9:n<=9)(hd:∀d∈ds,zM n d/\d.a<=1000000000000)(hl:ds.length<=64)(pl:ps.length=n)(hp:zds ps)(hA:∀d∈ds,d.a<=A)(A0:0<=A)(hw:2*(A*(ds.length:Int))<=((2 ^ w:Nat):Int))(hb:(w*n+50+w)*(zcP n ds+1)<=7000):Clr n ds ps (zdL w) (zdL 50) where
 n9:=n9
 hd:=fun d h=>(hd d h).1
 ha:=fun d h=>(hd d h).2
 hl:=hl
 pl:=pl
 pz:=hp
 hW:=fun l i _=>by
  have:=zmj (l:=l) (fun d h=>(hd d h).1) hA A0 i
  rw[<- zgY]
  have e:(2:Rat)*((zao (vec n (flI ds l i)):Int):Rat)=((2*zao (vec n (flI ds l i)):Int):Rat):=by rw[yu];rfl
  rw[e]
  exact zaX (by omega)
 W1:=ziK w
 hP:=by
  have h1:sm n (pQ ps)<=(((n:Int)*100000000000000:Int):Rat):=zmL fun i hi=>by
   obtain⟨p,hpi⟩:=zO (show i<ps.length by rw[pl];exact hi)
   unfold pQ
   rw[ye,hpi]
   exact zaX (hp p (ya hpi)).2
  refine yP h1 (zaX ?_)
  have:((2 ^ 50:Nat):Int)=1125899906842624:=by decide
  rw[this];omega
 P1:=ziK 50
 big:=by
  rw[zfi,zgk,zgk,zfi]
  exact zkH hb
theorem zhK{n:Nat}{ds:List Due}{ps:List Int}(n9:n<=9)(hd:∀d∈ds,zM n d/\d.a<=1000000000000)(hl:ds.length<=64)(pl:ps.length=n)(hp:zds ps)(hs:(∀d∈ds,d.a<=12)\/ds.length<=12\/(n<=6/\ds.length<=16)):∃W P,Clr n ds ps W P:=by
 have t1:=zqa (n:=n) ds fun d h=>(hd d h).1.2.2.2.2.2.2.2.1
 have t2:=zqQ (n:=n) ds
 have e11:((2 ^ 11:Nat):Int)=2048:=by decide
 have e45:((2 ^ 45:Nat):Int)=35184372088832:=by decide
 rcases hs with h | h | ⟨h,h'⟩
 ·refine⟨_,_,ziV (w:=11) (A:=12) n9 hd hl pl hp h (by decide) (by rw[e11];omega) ?_⟩
  exact yc (yaP (show 11*n+50+11<=160 by omega) (show zcP n ds+1<=28 by omega)) (by decide)
 ·refine⟨_,_,ziV (w:=45) (A:=1000000000000) n9 hd hl pl hp (fun d h=>(hd d h).2) (by decide) (by rw[e45];omega) ?_⟩
  exact yc (yaP (show 45*n+50+45<=500 by omega) (show zcP n ds+1<=13 by omega)) (by decide)
 ·refine⟨_,_,ziV (w:=45) (A:=1000000000000) n9 hd hl pl hp (fun d h=>(hd d h).2) (by decide) (by rw[e45];omega) ?_⟩
  exact yc (yaP (show 45*n+50+45<=365 by omega) (show zcP n ds+1<=17 by omega)) (by decide)
def zht(K:Fg):Sp:=fun vs H Q _=>∃(a:Addr) (ns:List Int) (n c:Int),vs=[.ref a,.int n,.int c]/\SqL K H a (ns.map V.int)/\Light ns/\∀x,0<=x->x<=1000000000000->(x≠0->c<13\/(n<7/\c<17))->Q (.int x) H
def zmg:=fun {K:Fg} {a:Addr} {ns:List Int} {n c:Int} {H:Hp} {Q:VK} {E:XK} hS hz q=>@id (zht K [.ref a,.int n,.int c] H Q E) ⟨a,ns,n,c,rfl,hS,hz,q⟩
def zlq(qs:List Rat):Prop:=∀q∈qs,0<=q/\SzQ q 7051 7001
def zft(K:Fg):Sp:=fun vs H Q _=>∃(a y:Addr) (ds:List Due) (ws:List V) (qs:List Rat),vs=[.ref a,.ref y]/\IsSh K H a ds/\H y=some (.lst ws)/\IsQs H ws qs/\(∀d∈ds,zM qs.length d/\d.a<=1000000000000)/\ds.length<=64/\qs.length<=9/\zlq qs/\∀p H' vs,H p=none->Same H H'->H' p=some (.lst vs)->IsFr 470000 H' vs ((List.range qs.length).map (zV ds (zY ds qs)))->Q (.ref p) H'
def zkb:=fun {K:Fg} {a y:Addr} {ds:List Due} {ws:List V} {qs:List Rat} {H:Hp} {Q:VK} {E:XK} h hy hq hd hl h9 hs k=>@id (zft K [.ref a,.ref y] H Q E) ⟨a,y,ds,ws,qs,rfl,h,hy,hq,hd,hl,h9,hs,k⟩
def zeU(K:Fg):Sp:=fun vs H Q _=>∃(a u y:Addr) (ds:List Due) (ps:List Int) (ws:List V) (qs:List Rat),vs=[.ref a,.ref u,.ref y]/\IsSh K H a ds/\H u=some (.lst (ps.map V.int))/\H y=some (.lst ws)/\IsQs H ws qs/\(∀d∈ds,zM qs.length d/\d.a<=1000000000000)/\ds.length<=64/\qs.length<=9/\ps.length=qs.length/\zds ps/\zlq qs/\∀p H' vs,H p=none->Same H H'->H' p=some (.lst vs)->IsFr 10000000 H' vs ((List.range ps.length).map (zbd ds ps qs))->Q (.ref p) H'
def zjo:=fun {K:Fg} {a u y:Addr} {ds:List Due} {ps:List Int} {ws:List V} {qs:List Rat} {H:Hp} {Q:VK} {E:XK} h hu hy hq hd hl h9 hpl hp hs k=>@id (zeU K [.ref a,.ref u,.ref y] H Q E) ⟨a,u,y,ds,ps,ws,qs,rfl,h,hu,hy,hq,hd,hl,h9,hpl,hp,hs,k⟩
section
variable {n:Nat}{ds:List Due}{ps:List Int}{W P:Rat}{k:Nat}
abbrev zba(n:Nat)(ds:List Due)(ps:List Int)(k:Nat):List Rat:=(List.range n).map (cst n ds (pQ ps) k).1
theorem zf6{i:Nat}(hi:i<n):(zba n ds ps k).getD i 0=(cst n ds (pQ ps) k).1 i:=by
 rw[ye,yf,yL hi];rfl
theorem zdm:(zba n ds ps k).length=n:=by rw[yh,yv]
theorem Clr.wide(C:Clr n ds ps W P)(h:COk n ds (pQ ps) (prodN (fun _=>W) n*P*W) k (cst n ds (pQ ps) k).1 (cst n ds (pQ ps) k).2):zlq (zba n ds ps k):=fun q hq=>by
 obtain⟨i,hi,rfl⟩:=yaz.mp hq
 have hi':=yU.mp hi
 exact⟨h.inv.lo i hi',C.lay h hi'⟩
theorem zq4(hd:∀d∈ds,zM n d):∀d∈ds,zY ds (zba n ds ps k) d=zaK ds (cst n ds (pQ ps) k).1 d:=fun d hm=>by
 have:=hd d hm
 have h0:=this.1
 have h1:=this.2.1
 unfold zY zaK
 rw[zf6 (by omega)]
theorem Clr.next(C:Clr n ds ps W P)(h:COk n ds (pQ ps) (prodN (fun _=>W) n*P*W) k (cst n ds (pQ ps) k).1 (cst n ds (pQ ps) k).2)(hf:zcv n ds (cst n ds (pQ ps) k).1 (cst n ds (pQ ps) k).2):(List.range ps.length).map (zbd ds ps (zba n ds ps k))=zba n ds ps k:=by
 rw[C.pl]
 refine yE fun i hi=>?_
 have hi':=yU.mp hi
 have I:=h.inv
 rw[hf.2]at I
 have e:=zq7 I hi' (fun r _=>zdT ds fun d hm=>(C.hd d hm).2.2.2.2.2.2.2.1)
 have eg:zV ds (zY ds (zba n ds ps k)) i=zV ds (zaK ds (cst n ds (pQ ps) k).1) i:=zfP ds (zq4 C.hd)
 unfold zbd
 rw[eg,e]
 have eo:zbc ds i=zab (zD ds i) 3:=by
  unfold zbc zab
  rw[zcu]
 rw[eo]
 by_cases g:((ps.getD i 0:Int):Rat)+zV ds (zaK ds (cst n ds (pQ ps) k).1) i<zab (zD ds i) 3
 ·rw[if_pos g,if_neg (by intro z;exact absurd g (yaA.mpr z))]
 ·rw[if_neg g,if_pos (yaA.mp g)]
theorem zjX{j k:Nat}(h1:zcv n ds (cst n ds (pQ ps) j).1 (cst n ds (pQ ps) j).2)(h2:∀i,i<j->¬zcv n ds (cst n ds (pQ ps) i).1 (cst n ds (pQ ps) i).2)(g1:zcv n ds (cst n ds (pQ ps) k).1 (cst n ds (pQ ps) k).2)(g2:∀i,i<k->¬zcv n ds (cst n ds (pQ ps) i).1 (cst n ds (pQ ps) i).2):j=k:=by
 rcases ybL j k with h | h | h
 ·exact absurd h1 (g2 j h)
 ·exact h
 ·exact absurd g1 (h2 k h)
end
def dsum(g:Due->Rat)(ds:List Due):Rat:=ds.foldl (fun(s:Rat) (d:Due)=>s+g d) 0
theorem zb7(g:Due->Rat)(ds:List Due)(d:Due):dsum g (ds++[d])=dsum g ds+g d:=by unfold dsum;rw[yat];rfl
theorem zpO{g h:Due->Rat}(ds:List Due):(∀d∈ds,g d=h d)->dsum g ds=dsum h ds:=
 zaY (P:=fun ds=>(∀d∈ds,g d=h d)->dsum g ds=dsum h ds) (fun _=>rfl) (fun es d ih k=>by
  rw[zb7,zb7,ih fun e he=>k e (yr _ he),k d (ym _ (.head _))]) ds
theorem znc{g h:Due->Rat}(ds:List Due):dsum (fun d=>g d+h d) ds=dsum g ds+dsum h ds:=
 zaY (P:=fun ds=>dsum (fun d=>g d+h d) ds=dsum g ds+dsum h ds) (by show(0:Rat)=0+0;grind) (fun es d ih=>by
  rw[zb7,zb7,zb7,ih];grind) ds
theorem zmG{g:Due->Rat}(ds:List Due):(∀d∈ds,0<=g d)->0<=dsum g ds/\(dsum g ds<=0->∀d∈ds,g d=0):=
 zaY (P:=fun ds=>(∀d∈ds,0<=g d)->0<=dsum g ds/\(dsum g ds<=0->∀d∈ds,g d=0)) (fun _=>⟨yG,fun _ _ h=>nomatch h⟩) (fun es d ih k=>by
  obtain⟨h1,h2⟩:=ih fun e he=>k e (yr _ he)
  have h3:=k d (ym _ (.head _))
  rw[zb7]
  refine⟨by grind,fun z e he=>?_⟩
  rcases yR.mp he with h | h
  ·exact h2 (by grind) e h
  ·rw[yw.mp h];grind) ds
theorem zpX{n:Nat}{D:Nat->Bool}{g:Due->Rat}(ds:List Due):(∀d∈ds,0<=d.q/\d.q<n)->sm n (fun i=>if D i=true then zV ds g i else 0)=dsum (fun d=>if D d.q.toNat=true then g d else 0) ds:=
 zaY (P:=fun ds=>(∀d∈ds,0<=d.q/\d.q<n)->sm n (fun i=>if D i=true then zV ds g i else 0)=dsum (fun d=>if D d.q.toNat=true then g d else 0) ds) (fun _=>sm_zero fun i _=>by
  show(if D i=true then(0:Rat)else 0)=0
  split<;>rfl) (fun es d ih k=>by
  have h1:=ih fun e he=>k e (yr _ he)
  obtain⟨q0,q1⟩:=k d (ym _ (.head _))
  rw[zb7,<- h1]
  have e:sm n (fun i=>if D i=true then zV (es++[d]) g i else 0)=sm n (fun i=>(if D i=true then zV es g i else 0)+if i=d.q.toNat then(if D d.q.toNat=true then g d else 0)else 0):=sm_congr fun i _=>by
   rw[zaQ]
   by_cases e:i=d.q.toNat
   ·rw[if_pos e,if_pos (show d.q=(i:Int) by omega),<- e]
    split<;>grind
   ·rw[if_neg e,if_neg (show ¬d.q=(i:Int) by omega)]
    split<;>grind
  rw[e,sm_add,sm_one (i:=d.q.toNat) (by omega) fun j _ hj=>if_neg hj,if_pos rfl]) ds
theorem zpp{n:Nat}{D:Nat->Bool}{g:Due->Rat}(ds:List Due):(∀d∈ds,0<=d.p/\d.p<n)->sm n (fun i=>if D i=true then zce ds (i:Int) g else 0)=dsum (fun d=>if D d.p.toNat=true then g d else 0) ds:=
 zaY (P:=fun ds=>(∀d∈ds,0<=d.p/\d.p<n)->sm n (fun i=>if D i=true then zce ds (i:Int) g else 0)=dsum (fun d=>if D d.p.toNat=true then g d else 0) ds) (fun _=>sm_zero fun i _=>by
  show(if D i=true then(0:Rat)else 0)=0
  split<;>rfl) (fun es d ih k=>by
  have h1:=ih fun e he=>k e (yr _ he)
  obtain⟨q0,q1⟩:=k d (ym _ (.head _))
  rw[zb7,<- h1]
  have e:sm n (fun i=>if D i=true then zce (es++[d]) (i:Int) g else 0)=sm n (fun i=>(if D i=true then zce es (i:Int) g else 0)+if i=d.p.toNat then(if D d.p.toNat=true then g d else 0)else 0):=sm_congr fun i _=>by
   rw[zdH]
   by_cases e:i=d.p.toNat
   ·rw[if_pos e,if_pos (show d.p=(i:Int) by omega),<- e]
    split<;>grind
   ·rw[if_neg e,if_neg (show ¬d.p=(i:Int) by omega)]
    split<;>grind
  rw[e,sm_add,sm_one (i:=d.p.toNat) (by omega) fun j _ hj=>if_neg hj,if_pos rfl]) ds
theorem znI{g h:Due->Rat}{m:Nat}(ds:List Due):zV ds (fun d=>g d-h d) m=zV ds g m-zV ds h m:=
 zaY (P:=fun ds=>zV ds (fun d=>g d-h d) m=zV ds g m-zV ds h m) (by show(0:Rat)=0-0;grind) (fun es d ih=>by
  rw[zaQ,zaQ,zaQ,ih];split<;>grind) ds
theorem znD{g h:Due->Rat}{m:Int}(ds:List Due):zce ds m (fun d=>g d-h d)=zce ds m g-zce ds m h:=
 zaY (P:=fun ds=>zce ds m (fun d=>g d-h d)=zce ds m g-zce ds m h) (by show(0:Rat)=0-0;grind) (fun es d ih=>by
  rw[zdH,zdH,zdH,ih];split<;>grind) ds
section
variable {n:Nat}{ds:List Due}{l x y p:Nat->Rat}
theorem zgl(hd:∀d∈ds,zM n d)(i r:Nat):0<=zD ds i r:=zdT ds fun d hm=>(hd d hm).2.2.2.2.2.2.2.1
theorem zl7{m:Nat}{es:List Due}:(∀d∈es,0<=d.p)->zce es (m:Int) (zaK ds y)=zgh es m (zae (zD ds m) (y m)):=
 zaY (P:=fun es=>(∀d∈es,0<=d.p)->zce es (m:Int) (zaK ds y)=zgh es m (zae (zD ds m) (y m))) (fun _=>rfl) (fun es d ih h=>by
  rw[zdH,zhX,ih fun e he=>h e (yr _ he)]
  have p0:=h d (ym _ (.head _))
  by_cases e:d.p=(m:Int)
  ·rw[if_pos e,if_pos e]
   have e':d.p.toNat=m:=by omega
   unfold zaK
   rw[e']
  ·rw[if_neg e,if_neg e]) es
theorem zi7(hd:∀d∈ds,zM n d){m:Nat}(h0:0<=y m)(h1:y m<=zab (zD ds m) 3):zce ds (m:Int) (zaK ds y)=y m:=by
 have hb:∀j,j<3->0<=zD ds m j:=fun j _=>zgl hd m j
 have h2:=zgI (ds:=ds) (m:=m) (S:=zae (zD ds m) (y m)) (fun d h=>⟨(hd d h).2.2.2.2.2.1,(hd d h).2.2.2.2.2.2.1⟩) ds.length (yg _)
 rw[yK]at h2
 rw[zl7 fun d h=>(hd d h).1,h2,zcI h0 (hb 0 (by omega)),zcI h0 (hb 1 (by omega)),zcI h0 (hb 2 (by omega))]
 refine zl9 h0 hb ?_
 have e:zab (zD ds m) 3=((zD ds m 0:Int):Rat)+((zD ds m 1:Int):Rat)+((zD ds m 2:Int):Rat):=by
  rw[zb8,zb8,zb8]
  show(0:Rat)+_+_+_=_
  grind
 rw[<- e];exact h1
theorem zhE(hd:∀d∈ds,zM n d)(h0:∀i,i<n->0<=l i)(h:∀i,i<n->l i<=y i):∀d∈ds,zaK ds l d<=zaK ds y d:=fun d hm=>by
 have hk:=hd d hm
 have hp0:=hk.1
 have hp1:=hk.2.1
 have hi:d.p.toNat<n:=by omega
 unfold zaK
 refine yJ (zgv (h0 _ hi) (h _ hi) (fun r _=>zgl hd _ r) ?_) (zaq hk.2.2.2.2.2.2.2.1)
 have:=hk.2.2.2.2.2.1
 have:=hk.2.2.2.2.2.2.1
 omega
theorem znP{ρ:Nat->Option Nat}{i j:Nat}(ds:List Due):(∀d∈ds,0<=d.a)->0<zat ρ ds i j->∃d∈ds,d.p=(i:Int)/\d.q=(j:Int)/\ρ i=some d.r.toNat/\0<d.a:=
 zaY (P:=fun ds=>(∀d∈ds,0<=d.a)->0<zat ρ ds i j->∃d∈ds,d.p=(i:Int)/\d.q=(j:Int)/\ρ i=some d.r.toNat/\0<d.a) (fun _ h=>absurd (show(0:Int)<0 from h) (by decide)) (fun es d ih h hp=>by
  rw[zbh]at hp
  have a0:=h d (ym _ (.head _))
  by_cases c:d.p=(i:Int)/\d.q=(j:Int)/\ρ i=some d.r.toNat
  ·by_cases z:0<d.a
   ·exact⟨d,ym _ (.head _),c.1,c.2.1,c.2.2,z⟩
   ·rw[if_pos c]at hp
    obtain⟨e,he,k⟩:=ih (fun e he=>h e (yr _ he)) (by omega)
    exact⟨e,yr _ he,k⟩
  ·rw[if_neg c]at hp
   obtain⟨e,he,k⟩:=ih (fun e he=>h e (yr _ he)) (by omega)
   exact⟨e,yr _ he,k⟩) ds
theorem znm{f:Nat->Int}{q q':Rat}(hq:0<=q)(hf:∀r,r<3->0<=f r){ρ:Nat}(h:zar f q 3=some ρ)(h1:q<q'):zae f q ρ < zae f q' ρ:=by
 obtain⟨h3,up,_⟩:=zbM h
 have fp:=zbm (zcW hq h)
 obtain⟨z,hz⟩:∃z,z=if q'<=zab f (ρ+1)then q' else zab f (ρ+1):=⟨_,rfl⟩
 have z1:q<z:=by rw[hz];split<;>grind
 have z2:z<=zab f (ρ+1):=by rw[hz];split<;>grind
 have z3:z<=q':=by rw[hz];split<;>grind
 have g:=zgu hq hf h (by grind:q<=z) z2 (r:=ρ) h3
 rw[if_pos rfl]at g
 have m:=zgv (q:=z) (q':=q') (by grind) z3 hf (r:=ρ) h3
 have d0:0<(z-q)/((f ρ:Int):Rat):=by
  rw[ybx]
  exact ybm (by grind) (Rat.inv_pos.mpr fp)
 grind
theorem greatest(hd:∀d∈ds,zM n d)(hc:crL n ds l=[])(I:CInv n ds p l 1)(x0:∀i,i<n->0<=x i)(xo:∀i,i<n->x i<=zab (zD ds i) 3)(xn:∀i,i<n->x i<=p i+zV ds (zaK ds x) i):∀i,i<n->x i<=l i:=by
 obtain⟨y,hy⟩:∃y:Nat->Rat,y=fun i=>if l i<x i then x i else l i:=⟨_,rfl⟩
 obtain⟨D,hD⟩:∃D:Nat->Bool,D=fun i=>decide (i<n/\l i<x i):=⟨_,rfl⟩
 have hDi:∀i,D i=true↔i<n/\l i<x i:=fun i=>by rw[hD];exact decide_eq_true_iff
 have ly:∀i,l i<=y i:=fun i=>by rw[hy];dsimp only;split<;>grind
 have xy:∀i,x i<=y i:=fun i=>by rw[hy];dsimp only;split<;>grind
 have yo:∀i,i<n->y i<=zab (zD ds i) 3:=fun i hi=>by rw[hy];dsimp only;have:=xo i hi;have:=I.hi i hi;split<;>grind
 have y0:∀i,i<n->0<=y i:=fun i hi=>by have:=I.lo i hi;have:=ly i;grind
 have yD:∀i,D i=true->y i=x i:=fun i h=>by rw[hy];exact if_pos ((hDi i).mp h).2
 have yN:∀i,i<n->D i≠true->y i=l i:=fun i hi h=>by rw[hy];exact if_neg fun z=>h ((hDi i).mpr ⟨hi,z⟩)
 have q01:∀d∈ds,0<=d.q/\d.q<n:=fun d hm=>⟨(hd d hm).2.2.1,(hd d hm).2.2.2.1⟩
 have p01:∀d∈ds,0<=d.p/\d.p<n:=fun d hm=>⟨(hd d hm).1,(hd d hm).2.1⟩
 obtain⟨e,he⟩:∃e:Due->Rat,e=fun d=>zaK ds y d-zaK ds l d:=⟨_,rfl⟩
 have e0:∀d∈ds,0<=e d:=fun d hm=>by
  have:=zhE hd I.lo (fun i _=>ly i) d hm
  rw[he];grind
 have eN:∀d∈ds,D d.p.toNat≠true->e d=0:=fun d hm h=>by
  have:=p01 d hm
  have:=yN d.p.toNat (by omega) h
  rw[he]
  show zaK ds y d-zaK ds l d=0
  unfold zaK
  rw[this];grind
 have sh:∀i,D i=true->stp ds l i≠none:=fun i h z=>by
  obtain⟨hi,hlt⟩:=(hDi i).mp h
  have h2:zab (zD ds i) 3<=l i:=zdz z 2 (by decide)
  have:=xo i hi
  grind
 have row:∀i,D i=true->y i-l i<=zV ds e i:=fun i h=>by
  obtain⟨hi,hlt⟩:=(hDi i).mp h
  have h1:=I.sh i hi (sh i h)
  have h2:=xn i hi
  have h3:=zlu (zhE (l:=x) (y:=y) hd x0 (fun i _=>xy i)) i
  have h4:zV ds e i=zV ds (zaK ds y) i-zV ds (zaK ds l) i:=by rw[he,znI]
  rw[yD i h,h4]
  grind
 have col:∀i,i<n->y i-l i=zce ds (i:Int) e:=fun i hi=>by
  rw[he,znD,zi7 hd (y0 i hi) (yo i hi),zi7 hd (I.lo i hi) (I.hi i hi)]
 have s1:sm n (fun i=>if D i=true then y i-l i else 0)<=sm n (fun i=>if D i=true then zV ds e i else 0):=sm_mono fun i _=>by
  by_cases g:D i=true
  ·rw[if_pos g,if_pos g];exact row i g
  ·rw[if_neg g,if_neg g];exact yG
 have s2:sm n (fun i=>if D i=true then y i-l i else 0)=sm n (fun i=>if D i=true then zce ds (i:Int) e else 0):=sm_congr fun i hi=>by rw[col i hi]
 rw[s2,zpX ds q01,zpp ds p01]at s1
 have s3:dsum (fun d=>if D d.q.toNat=true then e d else 0) ds+dsum (fun d=>if D d.p.toNat=true/\D d.q.toNat≠true then e d else 0) ds=dsum (fun d=>if D d.p.toNat=true then e d else 0) ds:=by
  rw[<- znc]
  refine zpO ds fun d hm=>?_
  by_cases g:D d.p.toNat=true
  ·rw[if_pos g]
   by_cases k:D d.q.toNat=true
   ·have z:¬(D d.p.toNat=true/\D d.q.toNat≠true):=fun z=>z.2 k
    rw[if_pos k,if_neg z];grind
   ·rw[if_neg k,if_pos ⟨g,k⟩];grind
  ·have z:¬(D d.p.toNat=true/\D d.q.toNat≠true):=fun z=>g z.1
   rw[if_neg g,if_neg z,eN d hm g]
   split<;>grind
 have s4:=(zmG (g:=fun d=>if D d.p.toNat=true/\D d.q.toNat≠true then e d else 0) ds fun d hm=>by
  split
  ·exact e0 d hm
  ·exact yG).2 (by grind)
 intro i hi
 refine yaA.mp fun hlt=>?_
 refine Rc.no_circle hc (S:=fun j=>D j=true) (fun j h=>⟨((hDi j).mp h).1,?_⟩) (fun j k h hk hg=>?_) ((hDi i).mpr ⟨hi,hlt⟩)
 ·unfold shB
  cases g:stp ds l j with
  | none=>exact absurd g (sh j h)
  | some _=>rfl
 ·obtain⟨hj,hjl⟩:=(hDi j).mp h
  have hg':0<zat (stp ds l) ds j k:=of_decide_eq_true hg
  obtain⟨d,hm,dp,dq,dr,da⟩:=znP ds (fun d hm=>(hd d hm).2.2.2.2.2.2.2.1) hg'
  have ej:d.p.toNat=j:=by omega
  have ek:d.q.toNat=k:=by omega
  refine yag fun nk=>?_
  have z:=s4 d hm
  rw[ej,ek,if_pos ⟨h,nk⟩,he]at z
  have z':zaK ds y d-zaK ds l d=0:=z
  unfold zaK at z'
  rw[ej]at z'
  have up:=znm (I.lo j hj) (fun r _=>zgl hd j r) (show zar (zD ds j) (l j) 3=some d.r.toNat from dr) (show l j<y j by rw[yD j h];exact hjl)
  have:=Rat.mul_lt_mul_of_pos_left up (zbm da)
  grind
end
def LeL(rs rs':List Rat):Prop:=∀m,m<rs.length->rs.getD m 0<=rs'.getD m 0
theorem zon{n m:Nat}{F:Nat->Rat}(h:m<n):((List.range n).map F).getD m 0=F m:=by rw[znq,if_pos h]
section
variable {n:Nat}{ds:List Due}{ps:List Int}{W P:Rat}{k:Nat}
theorem Clr.great(C:Clr n ds ps W P)(h:COk n ds (pQ ps) (prodN (fun _=>W) n*P*W) k (cst n ds (pQ ps) k).1 (cst n ds (pQ ps) k).2)(hf:zcv n ds (cst n ds (pQ ps) k).1 (cst n ds (pQ ps) k).2){s:List Rat}(hs:s.length=n)(s0:∀q∈s,0<=q)(sn:∀m,m<n->s.getD m 0<=zbd ds ps s m):LeL s (zba n ds ps k):=by
 have I:=h.inv
 rw[hf.2]at I
 have epay:∀d∈ds,zY ds s d=zaK ds (fun m=>s.getD m 0) d:=fun d _=>rfl
 have g:=greatest (x:=fun m=>s.getD m 0) C.hd hf.1 I (fun i hi=>by
  obtain⟨q,hq⟩:=zO (show i<s.length by omega)
  show 0<=s.getD i 0
  rw[ye,hq]
  exact s0 q (ya hq)) (fun i hi=>by
  have h1:=sn i hi
  have h2:=zkE (ds:=ds) (ps:=ps) (qs:=s) i
  have eo:zbc ds i=zab (zD ds i) 3:=by unfold zbc zab;rw[zcu]
  rw[eo]at h2
  exact yP h1 h2) (fun i hi=>by
  have h1:=sn i hi
  rw[<- zfP ds epay]
  unfold zbd at h1
  show s.getD i 0<=((ps.getD i 0:Int):Rat)+zV ds (zY ds s) i
  split at h1<;>grind)
 intro m hm
 rw[hs]at hm
 rw[zf6 hm]
 exact g m hm
end
abbrev zsg(n:Nat)(c:Int):List Rat:=(List.range n).map fun _=>((c:Int):Rat)
theorem zmr{x:Int}(h0:0<=x)(h1:x<=300000000000000):SzQ ((x:Int):Rat) 60 60:=by
 have:=zdv (x:=x) (z:=60) (zas (yab (show x.natAbs<=300000000000000 by omega) (by decide)))
 exact this.mono (yg _) (by decide)
def ziy(ds:List Due)(ρ:Nat->Option Nat)(m i:Nat)(d:Due):Prop:=ds[i]?=some d/\d.p=(m:Int)/\0<d.a/\ρ m=some d.r.toNat
set_option genInjectivity false in
set_option genSizeOf false in
structure Arr(n:Nat)(ds:List Due)(ρ:Nat->Option Nat)(on:Nat->Option Nat)(arr:Nat->Bool)(τ:Nat->Nat):Prop where
 none:∀m,m<n->ρ m=Option.none->arr m=true/\on m=Option.none
 some:∀m i,m<n->on m=Option.some i->∃d,ziy ds ρ m i d/\arr m=true/\arr d.q.toNat=true/\τ d.q.toNat < τ m
 away:∀m,m<n->arr m=false->on m=Option.none
 here:∀m,m<n->arr m=true->ρ m=Option.none\/∃i,on m=Option.some i
section
variable {n:Nat}{ds:List Due}{ρ on:Nat->Option Nat}{arr:Nat->Bool}{τ:Nat->Nat}
def above(τ:Nat->Nat):Nat->Nat
 | 0=>0
 | n+1=>max (above τ n) (τ n+1)
theorem zjj{m:Nat}:∀{n:Nat},m<n->τ m<above τ n
 | 0,h=>absurd h (yaB _)
 | n+1,h=>by
  show τ m<max (above τ n) (τ n+1)
  rcases yI (yQ h)with g | g
  ·have:=zjj (n:=n) g;omega
  ·rw[g];omega
theorem Arr.start:Arr n ds ρ (fun _=>Option.none) (fun m=>(ρ m).isNone) (fun _=>0):=
 ⟨fun m _ h=>⟨by rw[h];rfl,rfl⟩,(fun m i _ h=>by cases h),fun _ _ _=>rfl,fun m _ h=>.inl (by
  cases e:ρ m with
  | none=>rfl
  | some r=>rw[e]at h;cases h)⟩
theorem Arr.step(A:Arr n ds ρ on arr τ){m i:Nat}{d:Due}(hm:m<n)(hd:zM n d)(L:ziy ds ρ m i d)(h1:arr m=false)(h2:arr d.q.toNat=true):Arr n ds ρ (fun x=>if x=m then Option.some i else on x) (fun x=>if x=m then true else arr x) (fun x=>if x=m then above τ n else τ x):=by
 have q0:=hd.2.2.1
 have q1:=hd.2.2.2.1
 have hq:d.q.toNat≠m:=fun z=>by rw[z,h1]at h2;cases h2
 refine⟨fun x hx h=>?_,fun x j hx h=>?_,fun x hx h=>?_,fun x hx h=>?_⟩
 ·by_cases e:x=m
  ·have:=L.2.2.2
   rw[e,this]at h;cases h
  ·rw[if_neg e,if_neg e];exact A.none x hx h
 ·by_cases e:x=m
  ·rw[if_pos e]at h
   cases h
   refine⟨d,by rw[e];exact L,if_pos e,?_,?_⟩
   ·rw[if_neg hq];exact h2
   ·rw[if_neg hq,if_pos e];exact zjj (by omega)
  ·rw[if_neg e]at h
   obtain⟨d',L',a1,a2,a3⟩:=A.some x j hx h
   refine⟨d',L',by rw[if_neg e];exact a1,?_,?_⟩
   ·split
    ·rfl
    ·exact a2
   ·rw[if_neg e]
    by_cases g:d'.q.toNat=m
    ·rw[g,h1]at a2;cases a2
    ·rw[if_neg g];exact a3
 ·by_cases e:x=m
  ·rw[if_pos e]at h;cases h
  ·rw[if_neg e]at h ⊢;exact A.away x hx h
 ·by_cases e:x=m
  ·exact .inr ⟨i,if_pos e⟩
  ·rw[if_neg e]at h ⊢
   exact A.here x hx h
set_option genInjectivity false in
set_option genSizeOf false in
structure Pass(ds:List Due)(ρ:Nat->Option Nat)(arr arr':Nat->Bool)(i:Nat):Prop where
 up:∀m,arr m=true->arr' m=true
 all:∀j d m,j<i->ziy ds ρ m j d->arr d.q.toNat=true->arr' m=true
def zda(arr:Nat->Bool)(n:Nat):Nat:=nsum (fun m=>if arr m=true then 1 else 0) n
theorem zlS:zda arr n<=n:=by
 have:=zer (n:=n) (b:=1) (f:=fun m=>if arr m=true then 1 else 0) (fun m _=>by split<;>decide)
 unfold zda;omega
theorem zi5(h:n<=zda arr n):∀m,m<n->arr m=true:=fun m hm=>by
 refine yag fun z=>?_
 have:nsum (fun m=>if arr m=true then 1 else 0) n<nsum (fun _=>1) n:=zep (j:=m) (fun i _=>by split<;>decide) hm (by rw[if_neg z];decide)
 have h2:nsum (fun _=>1) n<=1*n:=zer fun _ _=>yg _
 unfold zda at h
 omega
end
section
variable {n:Nat}{ds:List Due}{l:Nat->Rat}{arr arr':Nat->Bool}
theorem zh1(hd:∀d∈ds,zM n d)(hc:crL n ds l=[])(h0:∀m,m<n->stp ds l m=none->arr m=true)(P:Pass ds (stp ds l) arr arr' ds.length):(∀m,m<n->arr m=true)\/zda arr n<zda arr' n:=by
 refine yag fun z=>?_
 have z1:¬∀m,m<n->arr m=true:=fun h=>z (.inl h)
 have z2:¬zda arr n<zda arr' n:=fun h=>z (.inr h)
 obtain⟨m,hm,hma⟩:∃m,m<n/\arr m≠true:=yag fun y=>z1 fun m hm=>yag fun x=>y ⟨m,hm,x⟩
 refine Rc.no_circle hc (S:=fun j=>j<n/\arr j≠true) (fun j h=>⟨h.1,?_⟩) (fun j k h hk hg=>⟨hk,fun hka=>?_⟩) ⟨hm,hma⟩
 ·unfold shB
  cases e:stp ds l j with
  | none=>exact absurd (h0 j h.1 e) h.2
  | some _=>rfl
 ·have hg':0<zat (stp ds l) ds j k:=of_decide_eq_true hg
  have key:∀es:List Due,(∀d∈es,0<=d.a)->0<zat (stp ds l) es j k->∃d∈es,d.p=(j:Int)/\d.q=(k:Int)/\stp ds l j=some d.r.toNat/\0<d.a:=
   zaY (P:=fun es=>(∀d∈es,0<=d.a)->0<zat (stp ds l) es j k->∃d∈es,d.p=(j:Int)/\d.q=(k:Int)/\stp ds l j=some d.r.toNat/\0<d.a) (fun _ h=>absurd (show(0:Int)<0 from h) (by decide)) (fun es d ih h hp=>by
    rw[zbh]at hp
    have a0:=h d (ym _ (.head _))
    by_cases c:d.p=(j:Int)/\d.q=(k:Int)/\stp ds l j=some d.r.toNat
    ·by_cases y:0<d.a
     ·exact⟨d,ym _ (.head _),c.1,c.2.1,c.2.2,y⟩
     ·rw[if_pos c]at hp
      obtain⟨e,he,w⟩:=ih (fun e he=>h e (yr _ he)) (by omega)
      exact⟨e,yr _ he,w⟩
    ·rw[if_neg c]at hp
     obtain⟨e,he,w⟩:=ih (fun e he=>h e (yr _ he)) (by omega)
     exact⟨e,yr _ he,w⟩)
  obtain⟨d,hdm,dp,dq,dr,da⟩:=key ds (fun d hm=>(hd d hm).2.2.2.2.2.2.2.1) hg'
  obtain⟨i,hi,ei⟩:=y9 hdm
  have hj':=P.all i d j hi ⟨by rw[yj hi,ei],dp,da,dr⟩ (by rw[show d.q.toNat=k by omega];exact hka)
  refine z2 (zep (j:=j) (fun x _=>?_) h.1 ?_)
  ·by_cases e:arr x=true
   ·rw[if_pos e,if_pos (P.up x e)];exact yg _
   ·rw[if_neg e];exact yF _
  ·rw[if_neg h.2,if_pos hj'];decide
end
inductive Road(ds:List Due)(on:Nat->Option Nat):Nat->List Nat->Prop
 | nil {m:Nat}:on m=none->Road ds on m []
 | cons {m i:Nat} {d:Due} {is:List Nat}:on m=some i->ds[i]?=some d->Road ds on d.q.toNat is->Road ds on m (i :: is)
def blL(n:Nat)(w:Nat->Bool):List V:=(List.range n).map fun m=>V.bl (w m)
theorem zev{n:Nat}{w:Nat->Bool}:(blL n w).length=n:=by simp[blL]
theorem zeu{n i:Nat}{w:Nat->Bool}(h:i<n):(blL n w)[i]?=some (V.bl (w i)):=by simp[blL,h]
theorem zex{n:Nat}{w:Nat->Bool}:blL (n+1) w=blL n w++[V.bl (w n)]:=by unfold blL;rw[yC,yl];rfl
theorem zkG{n j:Nat}{w:Nat->Bool}{o:Bool}:(blL n w).set j (V.bl o)=blL n fun m=>if m=j then o else w m:=by
 apply yaL
 intro i
 by_cases hi:i<n
 ·rw[zeu hi]
  by_cases e:i=j
  ·subst e
   rw[yaZ (by rw[zev];exact hi),if_pos rfl]
  ·rw[ya8 (fun z=>e z.symm),zeu hi,if_neg e]
 ·rw[yae (by rw[yan,zev];omega),yae (by rw[zev];omega)]
theorem zjL{τ:Nat->Nat}{b:Nat}:∀{n:Nat},(∀m,m<n->τ m<=b)->above τ n<=b+1
 | 0,_=>yF _
 | n+1,h=>by
  have h1:=zjL (n:=n) fun m hm=>h m (by omega)
  have h2:=h n (by omega)
  show max (above τ n) (τ n+1)<=b+1
  omega
theorem ziE{arr:Nat->Bool}{m:Nat}:∀{n:Nat},m<n->arr m=false->zda (fun x=>if x=m then true else arr x) n=zda arr n+1
 | 0,h,_=>absurd h (yaB _)
 | n+1,h,g=>by
  have same:∀k,k<=m->nsum (fun x=>if(if x=m then true else arr x)=true then 1 else 0) k=nsum (fun x=>if arr x=true then 1 else 0) k:=fun k=>by
   induction k with
   | zero=>intro _;rfl
   | succ k ih=>
    intro hk
    show nsum _ k+(if(if k=m then true else arr k)=true then 1 else 0)=nsum _ k+(if arr k=true then 1 else 0)
    rw[ih (by omega),if_neg (show ¬k=m by omega)]
  show nsum _ n+(if(if n=m then true else arr n)=true then 1 else 0)=(nsum _ n+(if arr n=true then 1 else 0))+1
  rcases yI (yQ h)with e | e
  ·have ih:=ziE (n:=n) e g
   unfold zda at ih
   rw[ih,if_neg (show ¬n=m by omega)];omega
  ·subst e
   rw[same m (yg _),if_pos rfl,if_pos rfl,if_neg (by rw[g];decide)]
set_option genInjectivity false in
set_option genSizeOf false in
structure ArrB(n:Nat)(ds:List Due)(ρ on:Nat->Option Nat)(arr:Nat->Bool)(τ:Nat->Nat):Prop where
 A:Arr n ds ρ on arr τ
 B:∀m,m<n->τ m<=zda arr n
def zkM(K:Fg):Sp:=fun vs H Q _=>∃(a b:Addr) (ds:List Due) (n:Nat) (l:Nat->Rat),vs=[.ref a,.ref b]/\IsSh K H a ds/\H b=some (.lst (z9 n (stp ds l)))/\n<=9/\(∀d∈ds,zM n d)/\ds.length<=64/\crL n ds l=[] /\
 ∀p H' on arr τ,H p=none->Same H H'->H' p=some (.lst (z9 n on))->ArrB n ds (stp ds l) on arr τ->(∀m,m<n->arr m=true)->Q (.ref p) H'
def zlZ:=fun {K:Fg} {a b:Addr} {ds:List Due} {n:Nat} {l:Nat->Rat} {H:Hp} {Q:VK} {E:XK} h hb n9 hd hl hc q=>@id (zkM K [.ref a,.ref b] H Q E) ⟨a,b,ds,n,l,rfl,h,hb,n9,hd,hl,hc,q⟩
def zgJ(K:Fg):Sp:=fun vs H Q _=>∃(a b:Addr) (m:Nat) (ds:List Due) (n:Nat) (ρ on:Nat->Option Nat) (arr:Nat->Bool) (τ:Nat->Nat),vs=[.ref a,.ref b,.int m]/\IsSh K H a ds/\H b=some (.lst (z9 n on))/\n<=9/\m<n/\(∀d∈ds,zM n d)/\ds.length<=64/\ArrB n ds ρ on arr τ /\
 ∀p H' rd,H p=none->Same H H'->H' p=some (.lst (zax rd))->Road ds on m rd->rd.length<=9->Q (.ref p) H'
def zje:=fun {K:Fg} {a b:Addr} {m:Nat} {ds:List Due} {n:Nat} {ρ on:Nat->Option Nat} {arr:Nat->Bool} {τ:Nat->Nat} {H:Hp} {Q:VK} {E:XK} h hb n9 hm hd hl A q=>@id (zgJ K [.ref a,.ref b,.int m] H Q E) ⟨a,b,m,ds,n,ρ,on,arr,τ,rfl,h,hb,n9,hm,hd,hl,A,q⟩
section
variable {n i:Nat}{ds:List Due}{ρ on:Nat->Option Nat}{arr arr':Nat->Bool}{τ:Nat->Nat}
theorem ArrB.start:ArrB n ds ρ (fun _=>Option.none) (fun m=>(ρ m).isNone) (fun _=>0):=⟨Arr.start,fun _ _=>yF _⟩
theorem ArrB.step(X:ArrB n ds ρ on arr τ){m i:Nat}{d:Due}(hm:m<n)(hd:zM n d)(L:ziy ds ρ m i d)(h1:arr m=false)(h2:arr d.q.toNat=true):ArrB n ds ρ (fun x=>if x=m then Option.some i else on x) (fun x=>if x=m then true else arr x) (fun x=>if x=m then above τ n else τ x):=by
 refine⟨X.A.step hm hd L h1 h2,fun x hx=>?_⟩
 rw[ziE hm h1]
 by_cases e:x=m
 ·rw[if_pos e];exact zjL X.B
 ·rw[if_neg e];exact ya5 (X.B x hx)
theorem Pass.start:Pass ds ρ arr arr 0:=⟨fun _ h=>h,fun _ _ _ h=>absurd h (yaB _)⟩
theorem Pass.came(P:Pass ds ρ arr arr' i){m:Nat}{d:Due}(hd:ds[i]?=some d)(hm:d.p=(m:Int)):Pass ds ρ arr (fun x=>if x=m then true else arr' x) (i+1):=by
 refine⟨fun x h=>?_,fun j e x hj L ha=>?_⟩
 ·split
  ·rfl
  ·exact P.up x h
 ·by_cases g:x=m
  ·rw[if_pos g]
  ·rw[if_neg g]
   rcases yI (yQ hj)with w | w
   ·exact P.all j e x w L ha
   ·have h1:=L.1
    rw[w,hd]at h1
    have h2:=L.2.1
    rw[<- yn h1,hm]at h2
    omega
theorem Pass.off(P:Pass ds ρ arr arr' i){d:Due}(hd:ds[i]?=some d)(h:∀m:Nat,d.p=(m:Int)->0<d.a->ρ m=some d.r.toNat->arr' d.q.toNat=true->arr' m=true):Pass ds ρ arr arr' (i+1):=by
 refine⟨P.up,fun j e x hj L ha=>?_⟩
 rcases yI (yQ hj)with w | w
 ·exact P.all j e x w L ha
 ·have h1:=L.1
  rw[w,hd]at h1
  have h2:=yn h1
  subst h2
  exact h x L.2.1 L.2.2.1 L.2.2.2 (P.up _ ha)
end
theorem zfr{n k:Nat}{ds:List Due}{ps:List Int}:zmJ ds (zba n ds ps k)=z9 n (stp ds (cst n ds (pQ ps) k).1):=by
 show z9 (zba n ds ps k).length _=_
 rw[zdm]
 exact zkW fun i hi=>by rw[zf6 hi];rfl
set_option genInjectivity false in
set_option genSizeOf false in
structure Roads(n:Nat)(ds:List Due)(on:Nat->Option Nat)(rds:List (List Nat)):Prop where
 len:rds.length=n
 road:∀m rd,rds[m]?=some rd->Road ds on m rd/\rd.length<=9
def zkJ(K:Fg):Sp:=fun vs H Q _=>∃(a u:Addr) (n:Nat) (ds:List Due) (ps:List Int) (W P:Rat),vs=[.ref a,.ref u]/\IsSh K H a ds/\H u=some (.lst (ps.map V.int))/\Clr n ds ps W P /\
 ∀p H' as rds on arr τ k,H p=none->Same H H'->H' p=some (.lst (List.map V.ref as))->LsOf H' as rds->(∀b∈as,H b=none)->as.Nodup->Roads n ds on rds->ArrB n ds (stp ds (cst n ds (pQ ps) k).1) on arr τ->(∀m,m<n->arr m=true)->zcv n ds (cst n ds (pQ ps) k).1 (cst n ds (pQ ps) k).2->(∀j,j<k->¬zcv n ds (cst n ds (pQ ps) j).1 (cst n ds (pQ ps) j).2)->Q (.ref p) H'
def zmd:=fun {K:Fg} {a u:Addr} {n:Nat} {ds:List Due} {ps:List Int} {W P:Rat} {H:Hp} {Q:VK} {E:XK} h hu C q=>@id (zkJ K [.ref a,.ref u] H Q E) ⟨a,u,n,ds,ps,W,P,rfl,h,hu,C,q⟩
def zky(K:Fg):Sp:=fun vs H Q _=>∃(a b r:Addr) (m:Nat) (ds:List Due) (n:Nat) (ρ on:Nat->Option Nat) (arr:Nat->Bool) (τ:Nat->Nat) (rd:List Nat),vs=[.ref a,.ref b,.int m,.ref r]/\IsSh K H a ds/\H b=some (.lst (z9 n ρ))/\H r=some (.lst (zax rd))/\n<=9/\m<n/\(∀d∈ds,zM n d)/\ds.length<=64/\ArrB n ds ρ on arr τ/\(∀m,m<n->arr m=true)/\Road ds on m rd/\rd.length<=9/\∀H',Same H H'->Q (.bl true) H'
def zmx:=fun {K:Fg} {a b r:Addr} {m:Nat} {ds:List Due} {n:Nat} {ρ on:Nat->Option Nat} {arr:Nat->Bool} {τ:Nat->Nat} {rd:List Nat} {H:Hp} {Q:VK} {E:XK} h hb hr n9 hm hd hl A all R r9 q=>@id (zky K [.ref a,.ref b,.int m,.ref r] H Q E) ⟨a,b,r,m,ds,n,ρ,on,arr,τ,rd,rfl,h,hb,hr,n9,hm,hd,hl,A,all,R,r9,q⟩
theorem zpt{K:Fg}{H:Hp}{Q:VK}{r:Int}{o:Option Nat}(h:o=some r.toNat)(h0:0<=r)(q:Q (.bl false) H):zcx K (.int r) (zbb o) H Q:=by
 rw[h,show zbb (some r.toNat)=V.int r by show V.int ((r.toNat:Nat):Int)=_;congr 1;omega]
 exact zoH (by rw[decide_eq_true rfl];exact q)
theorem Road.step{ds:List Due}{on:Nat->Option Nat}{m:Nat}{rd:List Nat}{i j:Nat}(R:Road ds on m (rd.drop j))(h:rd[j]?=some i):on m=some i/\∃d,ds[i]?=some d/\Road ds on d.q.toNat (rd.drop (j+1)):=by
 obtain⟨hj,e⟩:=yk.mp h
 rw[List.drop_eq_getElem_cons hj,e]at R
 cases R with
 | cons h1 h2 h3=>exact⟨h1,_,h2,h3⟩
set_option genInjectivity false in
set_option genSizeOf false in
structure DeepV(ds:List Due)(qs:List Rat)(D:Nat):Prop where
 pos:0<D
 lay:∀q∈qs,DvB D q
 zs:sz ((D*zcV ds:Nat):Int)<=7800
theorem DeepV.szD{ds:List Due}{qs:List Rat}{D:Nat}(h:DeepV ds qs D):sz ((D:Nat):Int)<=7800:=by
 have:=sz_le.mp h.zs
 refine zas ?_
 rw[yac]at this ⊢
 have h2:=Nat.le_mul_of_pos_right D (ziU ds)
 omega
theorem DeepV.up{ds:List Due}{qs:List Rat}{D:Nat}(h:DeepV ds qs D){x:Rat}(hx:DvB (D*zcV ds) x):SzQ x 7857 7800:=hx.sz (Nat.mul_pos h.pos (ziU ds)) h.zs
theorem DeepV.pay{ds:List Due}{qs:List Rat}{D:Nat}(h:DeepV ds qs D)(hd:∀d∈ds,zM qs.length d/\d.a<=1000000000000):∀d∈ds,Dv (D*zcV ds) (zY ds qs d)/\0<=zY ds qs d/\zY ds qs d<=((1000000000000:Int):Rat):=fun d hm=>by
 obtain⟨⟨p0,p1,q0,q1,pq,r0,r1,a0,a1⟩,a2⟩:=hd d hm
 have hr:∀r,r<3->0<=zD ds d.p.toNat r:=fun r _=>(zci (m:=d.p.toNat) (r:=r) ds fun d h=>⟨(hd d h).1.2.2.2.2.2.2.2.1,(hd d h).2⟩).1
 have hb:=znJ h.lay hr (show d.p.toNat<qs.length by omega) (show d.r.toNat<3 by omega) a0
 refine⟨zo3 h.lay hm (by omega),hb.1,?_⟩
 have:((d.a:Int):Rat)<=((1000000000000:Int):Rat):=zaX a2
 have:=hb.2
 grind
theorem DeepV.gain{ds:List Due}{qs:List Rat}{D:Nat}(h:DeepV ds qs D)(hd:∀d∈ds,zM qs.length d/\d.a<=1000000000000)(m:Nat):∀q∈zbK ds (zY ds qs) m,Dv (D*zcV ds) q/\0<=q/\q<=((1000000000000:Int):Rat):=fun q hq=>by
 obtain⟨d,hdm,e⟩:=zlO hq
 rw[e];exact h.pay hd d hdm
theorem DeepV.got{ds:List Due}{qs:List Rat}{D:Nat}(h:DeepV ds qs D)(hd:∀d∈ds,zM qs.length d/\d.a<=1000000000000)(hl:ds.length<=64)(m:Nat):Dv (D*zcV ds) (zV ds (zY ds qs) m)/\0<=zV ds (zY ds qs) m/\zV ds (zY ds qs) m<=((64000000000000:Int):Rat):=by
 have hgl:(zbK ds (zY ds qs) m).length<=64:=yc zfq hl
 have h1:=zha (zbK ds (zY ds qs) m).length (h.gain hd m) (yg _)
 rw[yK]at h1
 refine⟨h1.1,h1.2.1,?_⟩
 have h2:=h1.2.2
 have:((1000000000000*((zbK ds (zY ds qs) m).length:Int):Int):Rat)<=((64000000000000:Int):Rat):=zaX (by omega)
 show zdf _<=_
 grind
def LayV(q:Rat):Prop:=∃D:Nat,0<D/\sz ((D:Nat):Int)<=7800/\DvB D q
def DeepG(ds:List Due)(qs:List Rat):Prop:=∃D,DeepV ds qs D
theorem LayV.rest{f:Nat->Int}{q:Rat}(h:LayV q)(hf:∀j,j<3->0<=f j/\f j<=100000000000000){r:Nat}(hr:r<=3):SzQ (zaC f q r) 7857 7800:=by
 obtain⟨D,h0,hz,h⟩:=h
 exact(zjR h (fun j hj=>(hf j hj).1) hr).sz h0 hz
theorem LayV.laid{f:Nat->Int}{q:Rat}(h:LayV q)(hf:∀j,j<3->0<=f j/\f j<=100000000000000){r:Nat}(hr:r<3):SzQ (zaa f q r) 7857 7800:=by
 obtain⟨D,h0,hz,h⟩:=h
 exact(zn0 h (fun j hj=>(hf j hj).1) hr).sz h0 hz
theorem DeepG.lay{ds:List Due}{qs:List Rat}(h:DeepG ds qs){q:Rat}(hq:q∈qs):LayV q:=by
 obtain⟨D,h⟩:=h
 exact⟨D,h.pos,h.szD,h.lay q hq⟩
theorem DeepG.share{ds:List Due}{qs:List Rat}(h:DeepG ds qs)(hd:∀d∈ds,zM qs.length d/\d.a<=1000000000000){d:Due}(hm:d∈ds){q:Rat}(hq:qs[d.p.toNat]?=some q):SzQ (zae (zD ds d.p.toNat) q d.r.toNat) 7857 7800:=by
 obtain⟨D,h⟩:=h
 obtain⟨⟨p0,p1,q0,q1,pq,r0,r1,a0,a1⟩,a2⟩:=hd d hm
 have hr:∀r,r<3->0<=zD ds d.p.toNat r:=fun r _=>(zci (m:=d.p.toNat) (r:=r) ds fun d h=>⟨(hd d h).1.2.2.2.2.2.2.2.1,(hd d h).2⟩).1
 have h1:=zm0 (h.lay q (ya hq)) hr (show d.r.toNat<3 by omega)
 exact h.up ⟨h1.1,h1.2.1,h1.2.2.dvd (Nat.mul_dvd_mul_left _ (zfe (F:=rkD ds) hm))⟩
theorem DeepG.gain{ds:List Due}{qs:List Rat}(h:DeepG ds qs)(hd:∀d∈ds,zM qs.length d/\d.a<=1000000000000)(m:Nat):∀q∈zbK ds (zY ds qs) m,OkQ q:=fun q hq=>by
 obtain⟨D,h⟩:=h
 obtain⟨h1,h2,h3⟩:=h.gain hd m q hq
 exact(h.up ⟨h2,by have:((1000000000000:Int):Rat)<=((100000000000000000:Int):Rat):=zaX (by decide);grind,h1⟩).ok (by decide) (by decide)
theorem DeepG.sums{ds:List Due}{qs:List Rat}(h:DeepG ds qs)(hd:∀d∈ds,zM qs.length d/\d.a<=1000000000000)(hl:ds.length<=64)(m:Nat):∀i,OkQ (zdf ((zbK ds (zY ds qs) m).take i)):=fun i=>by
 obtain⟨D,h⟩:=h
 exact(h.up (znl (h.gain hd m) (yc zfq hl) i)).ok (by decide) (by decide)
theorem DeepG.got{ds:List Due}{qs:List Rat}(h:DeepG ds qs)(hd:∀d∈ds,zM qs.length d/\d.a<=1000000000000)(hl:ds.length<=64)(m:Nat):SzQ (zV ds (zY ds qs) m) 7857 7800:=by
 obtain⟨D,h⟩:=h
 have h1:=h.got hd hl m
 exact h.up ⟨h1.2.1,by have:((64000000000000:Int):Rat)<=((100000000000000000:Int):Rat):=zaX (by decide);grind,h1.1⟩
theorem DeepG.next{ds:List Due}{qs:List Rat}{ps:List Int}(h:DeepG ds qs)(hd:∀d∈ds,zM qs.length d/\d.a<=1000000000000)(hl:ds.length<=64){p:Int}(p0:0<=p)(p1:p<=100000000000000)(m:Nat):SzQ (((p:Int):Rat)+zV ds (zY ds qs) m) 7857 7800:=by
 obtain⟨D,h⟩:=h
 have h1:=h.got hd hl m
 have h2:=zaq p0
 have h3:=zaX p1
 refine h.up ⟨by grind,?_,(Dv.int _).add h1.1⟩
 have:((100000000000000:Int):Rat)+((64000000000000:Int):Rat)<=((100000000000000000:Int):Rat):=by rw[<- yS];exact zaX (by decide)
 grind
def zfu(K:Fg):Sp:=fun vs H Q _=>∃(l y:Addr) (f:Nat->Int) (q:Rat),vs=[.ref l,.ref y]/\H l=some (.lst ((vec 3 f).map V.int))/\(∀j,j<3->0<=f j/\f j<=100000000000000)/\IsQ H y q/\LayV q/\∀p H' vs,H p=none->Same H H'->H' p=some (.lst vs)->IsQs H' vs ((List.range 3).map (zae f q))->Q (.ref p) H'
def zkj:=fun {K:Fg} {l y:Addr} {f:Nat->Int} {q:Rat} {H:Hp} {Q:VK} {E:XK} hl hf hy hs k=>@id (zfu K [.ref l,.ref y] H Q E) ⟨l,y,f,q,rfl,hl,hf,hy,hs,k⟩
def zhk(K:Fg):Sp:=fun vs H Q _=>∃(a y:Addr) (ds:List Due) (ws:List V) (qs:List Rat),vs=[.ref a,.ref y]/\IsSh K H a ds/\H y=some (.lst ws)/\IsQs H ws qs/\(∀d∈ds,zM qs.length d/\d.a<=1000000000000)/\ds.length<=64/\qs.length<=9/\DeepG ds qs/\∀p H' vs,H p=none->Same H H'->H' p=some (.lst vs)->IsQs H' vs (ds.map (zY ds qs))->Q (.ref p) H'
def zlI:=fun {K:Fg} {a y:Addr} {ds:List Due} {ws:List V} {qs:List Rat} {H:Hp} {Q:VK} {E:XK} h hy hq hd hl h9 hs k=>@id (zhk K [.ref a,.ref y] H Q E) ⟨a,y,ds,ws,qs,rfl,h,hy,hq,hd,hl,h9,hs,k⟩
def zjY(K:Fg):Sp:=fun vs H Q _=>∃(a y:Addr) (ds:List Due) (ws:List V) (qs:List Rat),vs=[.ref a,.ref y]/\IsSh K H a ds/\H y=some (.lst ws)/\IsQs H ws qs/\(∀d∈ds,zM qs.length d/\d.a<=1000000000000)/\ds.length<=64/\qs.length<=9/\DeepG ds qs/\∀p H' vs,H p=none->Same H H'->H' p=some (.lst vs)->IsQs H' vs ((List.range qs.length).map (zV ds (zY ds qs)))->Q (.ref p) H'
def znw:=fun {K:Fg} {a y:Addr} {ds:List Due} {ws:List V} {qs:List Rat} {H:Hp} {Q:VK} {E:XK} h hy hq hd hl h9 hs k=>@id (zjY K [.ref a,.ref y] H Q E) ⟨a,y,ds,ws,qs,rfl,h,hy,hq,hd,hl,h9,hs,k⟩
theorem zpK{ds:List Due}(h:sz ((zcV ds ^ (3+1):Nat):Int)<=3000):sz ((zcV ds:Nat):Int)<=750:=by
 have h1:=sz_le.mp h
 rw[yac]at h1
 refine zas ?_
 rw[yac]
 refine yag fun z=>?_
 have h2:=Nat.pow_le_pow_left (Nat.le_of_not_lt z) (3+1)
 rw[<- Nat.pow_mul]at h2
 exact absurd (yab h2 h1) (yaa _)
section
variable {n:Nat}{ds:List Due}{ps:List Int}{W P:Rat}{k:Nat}
theorem Clr.deep(C:Clr n ds ps W P)(hT:sz ((zcV ds:Nat):Int)<=750)(h:COk n ds (pQ ps) (prodN (fun _=>W) n*P*W) k (cst n ds (pQ ps) k).1 (cst n ds (pQ ps) k).2):DeepG ds (zba n ds ps k):=by
 obtain⟨D,D0,D1,hl,_⟩:=C.dv h
 refine⟨D,D0,fun q hq=>?_,?_⟩
 ·obtain⟨i,hi,rfl⟩:=yaz.mp hq
  have hi':=yU.mp hi
  refine⟨h.inv.lo i hi',yP (h.inv.hi i hi') (zaX ?_),hl i hi'⟩
  have:=(C.cum i (yg 3)).2
  omega
 ·rw[Int.natCast_mul]
  have hD:sz ((D:Nat):Int)<=7001:=zas (by
   rw[yac]
   exact yab D1 (yba (by decide) (by decide)))
  exact yc (zbN hD hT) (by decide)
end
def zrW(ds:List Due)(ps:List Int)(qs:List Rat)(m:Nat):Rat:=((ps.getD m 0:Int):Rat)+zV ds (zY ds qs) m-qs.getD m 0
abbrev zse(ds:List Due)(ps:List Int)(qs:List Rat):List Rat:=(List.range ps.length).map (zrW ds ps qs)
section
variable {n:Nat}{ds:List Due}{ps ps':List Int}{W P W' P':Rat}{k k':Nat}
end
section
variable {n:Nat}{ds:List Due}{ps:List Int}{W P:Rat}{k:Nat}
end
section
variable {n:Nat}{ds:List Due}{ps:List Int}{W P:Rat}{k:Nat}
end
open PySem
def zoP(ds:List Due)(n m:Nat):Nat:=match ziY ds n m with
 | some j=>match ds[j]? with
  | some d=>d.q.toNat
  | none=>0
 | none=>0
def zrg(ds:List Due)(n m:Nat):Int:=match ziY ds n m with
 | some j=>j
 | none=>0
set_option genInjectivity false in
set_option genSizeOf false in
structure Walked(ds:List Due)(n:Nat)(ms:List Nat)(x:Nat):Prop where
 nd:ms.Nodup
 ok:∀m∈ms,m<n/\ziY ds n m≠none
 at':x<n/\ziY ds n x≠none
 nx:∀(i m:Nat),ms[i]?=some m->zoP ds n m=(ms++[x])[i+1]?.getD 0
set_option genInjectivity false in
set_option genSizeOf false in
structure Round(ds:List Due)(n:Nat)(ms:List Nat):Prop where
 ne:ms≠[]
 nd:ms.Nodup
 ok:∀m∈ms,m<n/\ziY ds n m≠none
 nx:∀(i m:Nat),ms[i]?=some m->zoP ds n m=ms[(i+1)%ms.length]?.getD 0
open PySem PySem.Spec PyProof.Rows
section
variable {X:Cx}
end
def amF(es:List Due)(i:Nat):Int:=(es.map Due.a).getD i 0
def zng(ds:List Due)(n m:Nat):Nat:=(zrg ds n m).toNat
def zrV(g:Nat->Int)(js:List Nat)(f:Int)(i:Nat):Int:=if i∈js then g i-f else g i
set_option genInjectivity false in
set_option genSizeOf false in
structure CutAt(es:List Due)(n:Nat)(g:Nat->Int)(ms:List Nat)(f:Int)(g':Nat->Int):Prop where
 rd:Round (zgX es g) n ms
 le:∀m∈ms,f<=g (zng (zgX es g) n m)
 at':∃m∈ms,f=g (zng (zgX es g) n m)
 eq:∀i,g' i=zrV g (ms.map (zng (zgX es g) n)) f i
section
variable {es:List Due}{n:Nat}{g g':Nat->Int}{ms:List Nat}{f:Int}
end
section
variable {es:List Due}{n:Nat}{L:Nat->Nat->Int}{cs:List (List Nat × Int)}
end
section
variable {es:List Due}{n:Nat}{L L':Nat->Nat->Int}{cs:List (List Nat × Int)}{bad:List Addr}{H H':Hp}{vs:List V}
end
open PySem PySem.Spec PyProof.Rows Dt
set_option genInjectivity false in
set_option genSizeOf false in
structure Gr(n:Nat)(ds:List Due)(ps:List Int)(qs:List Rat):Prop where
 len:qs.length=n
 nn:∀q∈qs,0<=q
 fix:∀m,m<n->qs.getD m 0=zbd ds ps qs m
 top:∀s:List Rat,s.length=n->(∀q∈s,0<=q)->(∀m,m<n->s.getD m 0<=zbd ds ps s m)->LeL s qs
theorem Clr.gr{n:Nat}{ds:List Due}{ps:List Int}{W P:Rat}{k:Nat}(C:Clr n ds ps W P)(h:COk n ds (pQ ps) (prodN (fun _=>W) n*P*W) k (cst n ds (pQ ps) k).1 (cst n ds (pQ ps) k).2)(hf:zcv n ds (cst n ds (pQ ps) k).1 (cst n ds (pQ ps) k).2):Gr n ds ps (zba n ds ps k):=
 ⟨zdm,fun q hq=>(C.wide h q hq).1,fun m hm=>by
  rw[show(zba n ds ps k).getD m 0=((List.range ps.length).map (zbd ds ps (zba n ds ps k))).getD m 0 by rw[C.next h hf],zon (by rw[C.pl];exact hm)],fun s h1 h2 h3=>C.great h hf h1 h2 h3⟩
section
variable {n:Nat}{ds:List Due}{g:Nat->Int}{ps:List Int}{qs qs':List Rat}{full:Nat->Bool}
set_option genInjectivity false in
set_option genSizeOf false in
structure SafeC(n:Nat)(ds:List Due)(full:Nat->Bool)(g:Nat->Int):Prop where
 bd:∀i,i<ds.length->0<=g i/\g i<=amF ds i
 off:∀i d,ds[i]?=some d->(full d.p.toNat=false\/full d.q.toNat=false)->g i=d.a
 net:∀m,m<n->zoG (zgX ds g) m=zoG ds m
abbrev zsj(n:Nat)(ds':List Due)(full:Nat->Bool)(qs:List Rat):List Rat:=(List.range n).map fun m=>if full m=true then zbc ds' m else qs.getD m 0
theorem zpG(h:∀q∈qs,0<=q)(m:Nat):0<=qs.getD m 0:=by
 rw[ye]
 cases e:qs[m]? with
 | none=>exact yG
 | some q=>exact h q (ya e)
end
section
variable {n:Nat}{ds:List Due}{ps:List Int}{W P:Rat}{k:Nat}
end
section
variable {X:Cx}
def zlF:R2:=fun x y H Q=>∃b c,x=.bl b/\y=.bl c/\Q (.bl (!decide (b=c))) H
theorem zo9:OpR X (compareOp .IsNot) zlF:=by
 intro pins s σ H x y v u Q I rx ry h
 obtain⟨b,c,rfl,rfl,q⟩:=h
 cases rx
 cases ry
 cases b<;>cases c<;>exact wpAny_pure (zag I q rfl)
end
theorem zqR{H:Hp}{Q:VK}{b c:Bool}(q:Q (.bl (!decide (b=c))) H):zlF (.bl b) (.bl c) H Q:=⟨b,c,rfl,rfl,q⟩
theorem zjB:∀bs:List Bool,(∀b∈bs,b=true)->inV (.bl false) (bs.map V.bl)=false
 | [],_=>rfl
 | b :: bs,h=>by
  have ih:=zjB bs fun c hc=>h c (.tail _ hc)
  have hb:=h b (.head _)
  subst hb
  unfold inV at ih ⊢
  rw[yai,ybG,ih]
  rfl
theorem zkF{n:Nat}{w:Nat->Bool}:blL n w=((List.range n).map w).map V.bl:=by unfold blL;rw[List.map_map];rfl
theorem zog{K:Fg}{H:Hp}{Q:VK}{a:Addr}{n:Nat}{w:Nat->Bool}(h:H a=some (.lst (blL n w)))(all:∀m,m<n->w m=true)(q:Q (.bl true) H):rIn K true (.bl false) (.ref a) H Q:=
 ⟨a,_,rfl,.inl (.of h),rfl,by unfold blL;rw[List.all_map];exact ya9.mpr fun _ _=>rfl,by
  rw[if_pos rfl,zkF,zjB _ fun b hb=>by
   obtain⟨m,hm,rfl⟩:=yaz.mp hb
   exact all m (yU.mp hm)]
  exact q⟩
theorem zkQ:∀qs rs:List Rat,PyData.eqvAll (qs.map dQ) (rs.map dQ)=decide (qs=rs)
 | [],[]=>by simp[PyData.eqvAll]
 | [],_ :: _=>by simp[PyData.eqvAll]
 | _ :: _,[]=>by simp[PyData.eqvAll]
 | q :: qs,r :: rs=>by
  have ih:=zkQ qs rs
  rw[yai,yai,PyData.eqvAll,zqe,ih]
  by_cases e:q=r<;>by_cases g:qs=rs<;>simp[e,g]
theorem zpf{K:Fg}{H:Hp}{Q:VK}{a b:Addr}{vs ws:List V}{qs rs:List Rat}(h1:H a=some (.lst vs))(h2:H b=some (.lst ws))(i1:IsQs H vs qs)(i2:IsQs H ws rs)(q:Q (.bl (decide (qs=rs))) H):zaN K (.ref a) (.ref b) H Q:=by
 refine zlr (.lst (SqL.of h1) i1.rep) (.lst (SqL.of h2) i2.rep) (by have:=zpg qs;omega) ?_
 rw[show PyData.eqv (.list (qs.map dQ)) (.list (rs.map dQ))=PyData.eqvAll (qs.map dQ) (rs.map dQ) by simp[PyData.eqv],zkQ]
 exact q
theorem znC{K:Fg}{H:Hp}{Q:VK}{r:Int}{o:Option Nat}(h:0<=r)(q:Q (.bl (decide (o=some r.toNat))) H):zaN K (zbb o) (.int r) H Q:=by
 cases o with
 | none=>
  refine .inr ⟨rfl,?_⟩
  have e:decide ((none:Option Nat)=some r.toNat)=false:=by simp
  rw[e]at q
  have e2:decide (zbb none=V.int r)=false:=by simp[zbb]
  rw[e2];exact q
 | some m=>
  refine zlc ?_
  have e:decide (((m:Nat):Int)=r)=decide (some m=some r.toNat):=by
   rw[decide_eq_decide]
   constructor
   ·intro h;congr 1;omega
   ·intro h;have:=yn h;omega
  rw[e];exact q
def zg5(K:Fg):Sp:=fun vs H Q _=>∃(a u y:Addr) (ds:List Due) (ps:List Int) (ws:List V) (qs:List Rat),vs=[.ref a,.ref u,.ref y]/\IsSh K H a ds/\H u=some (.lst (ps.map V.int))/\H y=some (.lst ws)/\IsQs H ws qs/\(∀d∈ds,zM qs.length d/\d.a<=1000000000000)/\ds.length<=64/\qs.length<=9/\ps.length=qs.length/\zds ps/\DeepG ds qs/\∀p H' vs,H p=none->Same H H'->H' p=some (.lst vs)->IsQs H' vs ((List.range ps.length).map (zbd ds ps qs))->Q (.ref p) H'
def zm5:=fun {K:Fg} {a u y:Addr} {ds:List Due} {ps:List Int} {ws:List V} {qs:List Rat} {H:Hp} {Q:VK} {E:XK} h hu hy hq hd hl h9 hpl hp hs k=>@id (zg5 K [.ref a,.ref u,.ref y] H Q E) ⟨a,u,y,ds,ps,ws,qs,rfl,h,hu,hy,hq,hd,hl,h9,hpl,hp,hs,k⟩
def zfz(ds:List Due)(qs:List Rat):Prop:=∀m,m<qs.length->0<=qs.getD m 0/\qs.getD m 0<=zbc ds m
def zej(ds:List Due)(qs:List Rat)(m:Nat):Bool:=!decide (qs.getD m 0<0)&&!decide (zbc ds m<qs.getD m 0)
theorem layB_iff{ds:List Due}{qs:List Rat}:((List.range qs.length).map (zej ds qs)).all id=true↔zfz ds qs:=by
 rw[ya9]
 constructor
 ·intro h m hm
  have:=h (zej ds qs m) (yaz.mpr ⟨m,yU.mpr hm,rfl⟩)
  unfold zej at this
  simp only[id,yah,ybK,decide_eq_false_iff_not]at this
  exact⟨yaA.mp this.1,yaA.mp this.2⟩
 ·intro h b hb
  obtain⟨m,hm,rfl⟩:=yaz.mp hb
  have:=h m (yU.mp hm)
  unfold zej
  simp only[id,yah,ybK,decide_eq_false_iff_not]
  exact⟨yaA.mpr this.1,yaA.mpr this.2⟩
def zhC(K:Fg):Sp:=fun vs H Q _=>∃(a y:Addr) (ds:List Due) (ws:List V) (qs:List Rat),vs=[.ref a,.ref y]/\IsSh K H a ds/\H y=some (.lst ws)/\IsQs H ws qs/\(∀d∈ds,zM qs.length d/\d.a<=1000000000000)/\ds.length<=64/\qs.length<=9/\(∀q∈qs,SzQ q 60000 60000)/\(∀H',Same H H'->zfz ds qs->Q (.bl true) H')/\(∀H',Same H H'->¬zfz ds qs->Q (.bl false) H')
def zj5:=fun {K:Fg} {a y:Addr} {ds:List Due} {ws:List V} {qs:List Rat} {H:Hp} {Q:VK} {E:XK} h hy hq hd hl h9 hs k k'=>@id (zhC K [.ref a,.ref y] H Q E) ⟨a,y,ds,ws,qs,rfl,h,hy,hq,hd,hl,h9,hs,k,k'⟩
def zk5(ds:List Due)(ps:List Int)(qs:List Rat):Prop:=zfz ds qs/\(List.range ps.length).map (zbd ds ps qs)=qs
def zkk(K:Fg):Sp:=fun vs H Q _=>∃(a u y:Addr) (ds:List Due) (ps:List Int) (ws:List V) (qs:List Rat),vs=[.ref a,.ref u,.ref y]/\IsSh K H a ds/\H u=some (.lst (ps.map V.int))/\H y=some (.lst ws)/\IsQs H ws qs/\(∀d∈ds,zM qs.length d/\d.a<=1000000000000)/\ds.length<=64/\qs.length<=9/\ps.length=qs.length/\zds ps/\(∀q∈qs,SzQ q 60000 60000)/\(zfz ds qs->DeepG ds qs)/\(∀H',Same H H'->zk5 ds ps qs->Q (.bl true) H')/\(∀H',Same H H'->¬zk5 ds ps qs->Q (.bl false) H')
def zmC:=fun {K:Fg} {a u y:Addr} {ds:List Due} {ps:List Int} {ws:List V} {qs:List Rat} {H:Hp} {Q:VK} {E:XK} h hu hy hq hd hl h9 hpl hp hs hg k k'=>@id (zkk K [.ref a,.ref u,.ref y] H Q E) ⟨a,u,y,ds,ps,ws,qs,rfl,h,hu,hy,hq,hd,hl,h9,hpl,hp,hs,hg,k,k'⟩
def zgV(K:Fg):Sp:=fun vs H Q _=>∃(a b:Addr) (ds:List Due) (n:Nat) (l:Nat->Rat),vs=[.ref a,.ref b]/\IsSh K H a ds/\H b=some (.lst (z9 n (stp ds l)))/\n<=9/\(∀d∈ds,zM n d)/\ds.length<=64/\crL n ds l=[]/\∀H',Same H H'->Q (.bl true) H'
def zjA:=fun {K:Fg} {a b:Addr} {ds:List Due} {n:Nat} {l:Nat->Rat} {H:Hp} {Q:VK} {E:XK} h hb n9 hd hl hc q=>@id (zgV K [.ref a,.ref b] H Q E) ⟨a,b,ds,n,l,rfl,h,hb,n9,hd,hl,hc,q⟩
def zgE(K:Fg):Sp:=fun vs H Q _=>∃(a u y:Addr) (n:Nat) (ds:List Due) (ps:List Int) (W P:Rat) (k:Nat) (ws:List V),vs=[.ref a,.ref u,.ref y]/\IsSh K H a ds/\H u=some (.lst (ps.map V.int))/\H y=some (.lst ws)/\IsQs H ws (zba n ds ps k)/\Clr n ds ps W P/\zcv n ds (cst n ds (pQ ps) k).1 (cst n ds (pQ ps) k).2/\COk n ds (pQ ps) (prodN (fun _=>W) n*P*W) k (cst n ds (pQ ps) k).1 (cst n ds (pQ ps) k).2/\∀H',Same H H'->Q (.bl true) H'
def zfk:=fun {K:Fg} {a u y:Addr} {n:Nat} {ds:List Due} {ps:List Int} {W P:Rat} {k:Nat} {ws:List V} {H:Hp} {Q:VK} {E:XK} h hu hy hq C hf ok q=>@id (zgE K [.ref a,.ref u,.ref y] H Q E) ⟨a,u,y,n,ds,ps,W,P,k,ws,rfl,h,hu,hy,hq,C,hf,ok,q⟩
section
variable {n:Nat}{ds:List Due}{ps:List Int}{W P:Rat}{k:Nat}
theorem Clr.isClr(C:Clr n ds ps W P)(h:COk n ds (pQ ps) (prodN (fun _=>W) n*P*W) k (cst n ds (pQ ps) k).1 (cst n ds (pQ ps) k).2)(hf:zcv n ds (cst n ds (pQ ps) k).1 (cst n ds (pQ ps) k).2):zk5 ds ps (zba n ds ps k):=by
 refine⟨fun m hm=>?_,C.next h hf⟩
 rw[zdm]at hm
 have G:=C.gr h hf
 exact⟨zpG G.nn m,by rw[G.fix m hm];exact zkE m⟩
end
theorem zmp{xs:List V}:zd3 xs (some 1) none=xs.drop 1:=by
 unfold zd3
 rw[show(1:Int)=((1:Nat):Int)from rfl,HT.sIx_nat,HT.sIx_none]
 cases xs with
 | nil=>rfl
 | cons x xs=>rw[Nat.min_eq_left (by simp)];simp
end Internal
namespace Internal.K
open PySem Internal
local macro_rules | `(tactic| walk_at "z")=>`(tactic| first
 | assumption
 | exact sz200 (by omega) (by omega)
 | ((with_reducible apply zbN);(focus walk_at "z");walk_at "z")
 | exact szL (by decide) (by omega) (by omega)
 | ((with_reducible apply yc (m:=_));(focus assumption);omega))
local macro_rules | `(tactic| walk_at "h")=>`(tactic| first
 | assumption
 | (with_reducible exact Same.refl _)
 | ((with_reducible apply Same.isQ);(focus assumption);walk_at "h")
 | ((with_reducible apply LBut.isQ);(focus assumption);walk_at "h")
 | ((with_reducible apply IsQs.same);(focus assumption);walk_at "h")
 | ((with_reducible apply LBut.isQs);(focus assumption);walk_at "h")
 | ((with_reducible apply Same.at);(focus assumption);walk_at "h")
 | ((with_reducible apply LBut.tup);(focus assumption);walk_at "h")
 | ((with_reducible apply LBut.lst);(focus assumption);(focus walk_at "h");walk_at "h")
 | ((with_reducible apply SqL.keep);(focus (show SqL _ _ _ _;assumption));walk_at "h")
 | ((with_reducible apply SqL.of);walk_at "h")
 | ((with_reducible apply Same.after);(focus assumption);walk_at "h")
 | ((with_reducible apply LBut.same);(focus assumption);(focus walk_at "h");walk_at "h")
 | ((with_reducible apply Same.none);(focus assumption);walk_at "h")
 | ((with_reducible apply Same.isTs);(focus assumption);walk_at "h")
 | ((with_reducible apply LBut.isTs);(focus assumption);walk_at "h")
 | ((with_reducible apply Same.isSh);(focus assumption);walk_at "h")
 | ((with_reducible apply zqc);(focus assumption);walk_at "h")
 | ((with_reducible apply zcK);(focus assumption);walk_at "h"))
local macro_rules | `(tactic| walk_at "x1")=>`(tactic| first
 | ((with_reducible apply zrm);(focus (exact rfl)))
 | (with_reducible (first
   | apply zrT
   | apply zqw
   | apply zlc
   | apply zoH
   | apply zrG
   | apply zr1
   | apply zrz
   | apply zqd
   | apply zrw
   | apply zrf
   | apply zrI
   | apply zq2
   | apply zqp
   | apply zpS
   | apply zi1
   | apply zgz
   | apply zpJ
   | apply zoU))
 | (with_reducible refine zqP (by assumption) ?_)
 | (with_reducible refine zqT (by assumption) ?_)
 | (with_reducible refine zpz (by assumption) ?_)
 | (with_reducible refine zrF (fun _=>?_) (fun _=>?_))
 | (with_reducible refine zp1 (fun _=>?_) (fun _=>?_))
 | (with_reducible refine zp7 (fun _=>?_) (fun _=>?_))
 | (with_reducible refine zpZ (fun _=>?_) (fun _=>?_))
 | (with_reducible (first
   | apply zrb
   | apply zrp))
 | ((with_reducible show rIx _ (V.ref _) (V.int _) _ _);first
   | refine zmm (by assumption) (by rfl) ?_
   | refine zku (by assumption) (by omega) (by omega) ?_
   | refine zpL (by assumption) (by omega) (by assumption) ?_
   | refine zmm (by walk_at "h") (by rfl) ?_
   | refine zku (by walk_at "h") (by omega) (by omega) ?_
   | refine zgU (by walk_at "h") (by assumption) ?_
   | refine zlB (by walk_at "h") (by assumption) ?_
   | refine zgU (by walk_at "h") (by rfl) ?_)
 | ((with_reducible show zcU _ [V.int _,_] _ _);refine ziu ?_)
 | ((with_reducible show zcU _ [V.bl _,_] _ _);refine ziu ?_)
 | (with_reducible (first
   | apply zp2
   | apply zp0))
 | ((with_reducible show zcU _ [V.ref _,V.ty "tuple"] _ _);refine ziu ?_;first | refine IsQ.isT (by walk_at "h") ?_ | refine zm9 (by walk_at "h") ?_ | refine x_isLT (by walk_at "h") ?_)
 | ((with_reducible show zcU _ [V.ref _,V.ty "list"] _ _);refine ziu ?_;first | refine zqg (by walk_at "h") ?_ | refine x_isTL (by walk_at "h") ?_)
 | ((with_reducible show zfh _ [] _);refine zc3 (by first | decide | simp) (fun _ _ _ _ _=>?_))
 | ((with_reducible show zfh _ [_] _);refine zc3 (by first | decide | simp) (fun _ _ _ _ _=>?_))
 | ((with_reducible show zfh _ (_ :: _ :: _ :: _) _);refine zc3 (by first | decide | simp) (fun _ _ _ _ _=>?_))
 | ((with_reducible show zaO _ [V.ref _] _ _);first | refine IsQ.len (by walk_at "h") ?_ | refine zqZ (by walk_at "h") ?_ | refine x_lenT' (by walk_at "h") ?_)
 | (with_reducible (first
   | apply zmK
   | apply zoY))
 | ((with_reducible show zjK _ _ _ _ _);refine zn6 (by walk_at "h") (by first | decide | omega) ?_)
 | ((with_reducible show zjE _ _ _ _);refine znX (by walk_at "h") (by walk_at "h") (by walk_at "h") (by walk_at "h") ?_)
 | ((with_reducible show zhc _ _ _ _);refine zmT (by walk_at "h") (by walk_at "h") (by walk_at "h") (by walk_at "h") ?_)
 | ((with_reducible show zhd _ _ _ _);refine zm3 (by walk_at "h") (by walk_at "h") (by walk_at "h") (by walk_at "h") ?_)
 | (with_reducible (first
   | apply zra
   | apply zp8
   | apply znF
   | apply zqF
   | apply zrO))
 | ((with_reducible show zou _ _ _ _ _ _);refine zrt rfl ?_)
 | (with_reducible (first
   | apply zqW
   | apply zpn))
 | ((with_reducible show zbx _ _ _ (V.ref _) _ _ _);refine zqn (by assumption) rfl ?_)
 | ((with_reducible show zeQ _ (V.ref _) (V.int _) _ _);first
   | refine znY (by walk_at "h") (by omega) (by omega) ?_
   | refine zmX (by walk_at "h") (by assumption) ?_)
 | ((with_reducible show zgD (V.ref _) (V.int _) (V.int _) _ _);refine zob (by walk_at "h") (by omega) (by omega) (fun _ _ _=>?_))
 | ((with_reducible show zeK (V.ref _) (V.int _) _ _);first | refine znr (by walk_at "h") (by omega) (by omega) (fun _ _ _ _ _=>?_) | refine znk (by walk_at "h") (by omega) (by omega) (fun _ _ _ _ _=>?_) | refine x_repBl (by walk_at "h") (by omega) (by omega) (fun _ _ _ _ _=>?_))
 | ((with_reducible show rIn _ false (V.int _) (V.ref _) _ _);refine zrQ (by walk_at "h") ?_)
 | ((with_reducible show rIn _ true (V.int _) (V.ref _) _ _);refine zpd (by walk_at "h") ?_)
 | ((with_reducible show zg0 _ _ _ _ _);refine zl4 (by walk_at "h") (by assumption) (by omega) (by omega) (by omega) (by omega) (fun _ _ _ _=>?_))
 | ((with_reducible show zgb _ _ _ _ _);refine zll (by walk_at "h") (by assumption) (by omega) (by omega) (by omega) (fun _ _ _=>?_))
 | ((with_reducible show zhq _ _ _ _ _);refine zlT (by walk_at "h") (by assumption) (fun _ _ _=>?_))
 | ((with_reducible show zga _ _ _ _ _);refine zle (by walk_at "h") (by assumption) (by omega) (by omega) (fun _ _ _ _=>?_))
 | ((with_reducible show zhj _ _ _ _ _);refine zlQ (by walk_at "h") (by omega) (by omega) (by assumption) (fun _ _ _ _ _ _ _ _ _=>?_))
 | ((with_reducible show ziG _ _ _ _);refine znT (by omega) (by omega) ?_)
 | ((with_reducible show zge _ _ _ _ _);refine zkZ (by walk_at "h") (by assumption) (by walk_at "h") (by assumption) (fun _ _=>?_))
 | ((with_reducible show zhm _ _ _ _ _);refine zmo (by walk_at "h") (by walk_at "h") (by omega) (by assumption) (fun _ _ _ _ _ _ _ _ _=>?_))
 | ((with_reducible show zhf _ _ _ _ _);refine zmF (by walk_at "h") (by assumption) (by walk_at "h") (by omega) (by omega) (fun _ _ _ _ _=>?_))
 | ((with_reducible show zgi _ _ _ _ _);refine zlk (by walk_at "h") (by assumption) (by walk_at "h") (by walk_at "h") (by omega) (fun _ _ _ _ _=>?_))
 | ((with_reducible show zgB _ _ _ _);refine zp3 (by walk_at "h") ?_)
 | ((with_reducible show zkU _ _ _ _ _);refine zpR (by walk_at "h") (by assumption) (by walk_at "h") (by walk_at "h") (by assumption) (by omega) (by omega) (fun _ _ _ _ _ _ _ _ _=>?_))
 | ((with_reducible show zfQ _ _ _ _ _);refine ze0 (by walk_at "h") (by walk_at "h") (by walk_at "h") (by assumption) (by omega) (by omega) (by assumption) (fun _ _ _ _ _=>?_))
 | (with_reducible refine zqU ?_)
 | ((with_reducible show zk3 _ [V.int _,V.int _,V.int _] _);refine zpr (by omega) (by omega) (by omega) (by omega) ?_)
 | ((with_reducible show zg1 _ _ _ _);refine zhW (by walk_at "h") (by walk_at "h") (by assumption) (by assumption) (by assumption) ?_)
 | ((with_reducible show zfu _ _ _ _ _);refine zkj (by walk_at "h") (by assumption) (by walk_at "h") (by assumption) (fun _ _ _ _ _ _ _=>?_))
 | ((with_reducible show zhk _ _ _ _ _);refine zlI (by walk_at "h") (by walk_at "h") (by walk_at "h") (by assumption) (by omega) (by omega) (by assumption) (fun _ _ _ _ _ _ _=>?_))
 | ((with_reducible show zjY _ _ _ _ _);refine znw (by walk_at "h") (by walk_at "h") (by walk_at "h") (by assumption) (by omega) (by omega) (by assumption) (fun _ _ _ _ _ _ _=>?_))
 | ((with_reducible show zft _ _ _ _ _);refine zkb (by walk_at "h") (by walk_at "h") (by walk_at "h") (by assumption) (by omega) (by omega) (by assumption) (fun _ _ _ _ _ _ _=>?_))
 | ((with_reducible show zg5 _ _ _ _ _);refine zm5 (by walk_at "h") (by walk_at "h") (by walk_at "h") (by walk_at "h") (by assumption) (by omega) (by omega) (by omega) (by assumption) (by assumption) (fun _ _ _ _ _ _ _=>?_))
 | ((with_reducible show zeU _ _ _ _ _);refine zjo (by walk_at "h") (by walk_at "h") (by walk_at "h") (by walk_at "h") (by assumption) (by omega) (by omega) (by omega) (by assumption) (by assumption) (fun _ _ _ _ _ _ _=>?_))
 | ((with_reducible show zgp _ _ _ _ _);refine zlE (by walk_at "h") (by assumption) (by omega) (by omega) (by omega) (by omega) (fun _ _ _=>?_))
 | ((with_reducible show ze2 _ _ _ _ _);refine zj6 (by walk_at "h") (by assumption) (by omega) (by omega) (by omega) (by omega) (fun _ _ _ _ _ _ _ _=>?_))
 | ((with_reducible show zht _ _ _ _ _);refine zmg (by walk_at "h") (by assumption) (fun _ _ _ _=>?_))
 | ((with_reducible show ze4 _ _ _ _ _);refine zj4 (by walk_at "h") (by assumption) (by omega) (by omega) (by omega) (by omega) (fun _ _ _ _=>?_))
 | ((with_reducible show zjs _ _ _ _ _);refine znf (by walk_at "h") (by assumption) (by omega) (by omega) (by omega) (by omega) (by omega) (by omega) (fun _ _ _ _ _ _ _ _ _=>?_))
 | ((with_reducible show zgd _ _ _ _ _);refine zk9 (by walk_at "h") (by assumption) (by omega) (by omega) (by omega) (by omega) (by assumption) (by omega) (by omega) (fun _ _ _ _ _ _ _ _ _ _ _=>?_))
 | ((with_reducible show zfy _ _ _ _);refine zkf (by walk_at "h") ?_)
 | ((with_reducible show zf9 _ _ _ _ _);refine zlo (by walk_at "h") (by walk_at "h") (by first | assumption | omega) ?_)
 | ((with_reducible show zg3 _ _ _ _ _);refine zh7 (by walk_at "h") (by walk_at "h") (by assumption) (by assumption) (by omega) ?_)
 | ((with_reducible show zhe _ _ _ _ _);refine zlP (by walk_at "h") (by walk_at "h") (by assumption) (by assumption) ?_)
 | ((with_reducible show zeg _ [V.ref _] _ _);refine zfF (by walk_at "h") ?_)
 | ((with_reducible show zlm _ [V.int _] _);refine zpW (by omega) (by omega) ?_)
 | ((with_reducible show zlw _ [V.int _,V.int _] _);refine zo8 (by omega) (by omega) (by omega) (by omega) ?_)
 | ((with_reducible show znS _ _ (V.ref _) _);refine zoQ (by walk_at "h") ?_)
 | ((with_reducible show zk7 _ _ [V.ref _] _);refine zpA (by walk_at "h") ?_)
 | ((with_reducible show znh _ _ [V.ref _,V.ref _] _);refine zqM (by walk_at "h") (by walk_at "h") ?_)
 | ((with_reducible show zjV _ _ _ _ _);refine zos (by walk_at "h") (by omega) (by omega) (by assumption) (fun _ _ _ _ _=>?_))
 | ((with_reducible show zf3 _ _ _ _ _);refine zlx (by walk_at "h") (by omega) (by omega) (by assumption) (fun _ _ _ _ _ _ _ _ _=>?_))
 | ((with_reducible show zaN _ (V.ref _) (V.ref _) _ _);first | refine x_eqInts (by walk_at "h") (by walk_at "h") rfl ?_ | refine x_eqSh (by walk_at "h") (by walk_at "h") rfl ?_ | refine zqx (by walk_at "h") (by walk_at "h") (by walk_at "h") (by walk_at "h") ?_)
 | ((with_reducible show zcx _ (V.ref _) (V.ref _) _ _);first | refine ziD (by walk_at "h") (by walk_at "h") rfl ?_ | refine x_neRows (by walk_at "h") (by walk_at "h") (by walk_at "h") (by walk_at "h") (by omega) (fun _ _ _ _=>rfl) ?_ | refine x_neSh (by walk_at "h") (by walk_at "h") rfl ?_ | refine x_neQs (by walk_at "h") (by walk_at "h") (by walk_at "h") (by walk_at "h") ?_)
 | (with_reducible (first
   | apply zqy
   | apply zp4
   | apply zrn
   | apply zrZ
   | apply zqu
   | apply zpe))
 | ((with_reducible show tyV _ "list" (V.ref _) _/\_);refine zrk (by walk_at "h") ?_)
 | ((with_reducible show zcs (V.ref _) [_] _ _);refine zqf (by walk_at "h") (by omega) (fun _ _ _=>?_))
 | ((with_reducible show zeB _ _ _ _ _);refine zjC (by walk_at "h") (by walk_at "h") (by omega) (by omega) (by omega) (by assumption) (by assumption) (by assumption) (fun _ _ _ _ _=>?_))
 | ((with_reducible show zjQ _ _ _ _);refine zoj (by omega) (by walk_at "z") ?_)
 | ((with_reducible show NewQ _ _ _);intro _ _ _ _)
 | ((with_reducible show zn1 _ _ _);refine zqN (by first | decide | simp) (fun _ _ _ _ _=>?_))
 | ((with_reducible show zaT _ _ _ _);refine zm2 (by walk_at "h") (fun _ _ _ _ _=>?_))
 | ((with_reducible show zfo _ _ _ _ _ _);refine zq0 (by walk_at "h") (fun _ _ _ _ _=>?_))
 | ((with_reducible show zhs _ _ _ _ _);refine zhH (by walk_at "h") (by walk_at "h") (by walk_at "h") (by walk_at "h") ?_)
 | ((with_reducible show zfR _ _ _ _ _);refine zhD (by walk_at "h") (by walk_at "h") (by walk_at "h") (by walk_at "h") ?_)
 | ((with_reducible show zkS _ _ _ _);refine zq9 (by first | decide | omega) ?_)
 | ((with_reducible show zeK _ _ _ _);refine zk1 (by first | assumption | (apply CMulS.of;(focus walk_at "z");(focus walk_at "z");first | decide | omega)) ?_)
 | ((with_reducible show zix _ _ _ _);refine zrC (by first | walk_at "h" | decide) (by first | walk_at "h" | exact szL (by decide) (by decide) (by decide)) ?_)
 | ((with_reducible show rI zlt _ _ _ _ _);refine zrl ⟨by decide,by decide,by decide⟩ rfl ?_;(try simp only[Int.reduceToNat,Int.reducePow]))
 | ((with_reducible show Ends.nx _ _ _);dsimp only[List.set,Ends.gone]))
local macro_rules | `(tactic| walk_at "x")=>`(tactic| repeat' (walk_at "x1"))
def top(i:Nat):Stmt:=PySem.Challenge.pw_quits_k43_whole_the_greatest.main.body.getD i (.Pass ⟨0,0,0,0⟩)
abbrev zcG:Stmt:=top 5
abbrev zd6:Stmt:=top 7
abbrev zdW:Stmt:=top 8
abbrev zdi:Stmt:=top 9
abbrev zdt:Stmt:=top 10
abbrev zdZ:Stmt:=top 11
abbrev zdj:Stmt:=top 12
abbrev zdq:Stmt:=top 13
abbrev zdp:Stmt:=top 14
abbrev zd0:Stmt:=top 16
abbrev zcX:Stmt:=top 17
abbrev zd9:Stmt:=top 19
abbrev zbq:Stmt:=top 20
abbrev zcB:Stmt:=top 21
abbrev zeF:Stmt:=top 22
abbrev zbu:Stmt:=top 23
abbrev zcd:Stmt:=top 24
abbrev zbW:Stmt:=top 25
abbrev zcZ:Stmt:=top 27
abbrev zbR:Stmt:=top 28
abbrev zbE:Stmt:=top 29
abbrev zdn:Stmt:=top 30
abbrev zbS:Stmt:=top 31
abbrev zcz:Stmt:=top 33
abbrev zcc:Stmt:=top 34
abbrev za5:Stmt:=top 35
abbrev zcl:Stmt:=top 36
abbrev zck:Stmt:=top 37
abbrev zaW:Stmt:=top 38
abbrev za8:Stmt:=top 39
abbrev zcm:Stmt:=top 40
abbrev zbA:Stmt:=top 41
abbrev zdo:Stmt:=top 42
abbrev zdk:Stmt:=top 44
abbrev zdl:Stmt:=top 45
abbrev zbz:Stmt:=top 46
abbrev zbZ:Stmt:=top 47
abbrev zbY:Stmt:=top 49
abbrev zb0:Stmt:=top 50
abbrev zbG:Stmt:=top 51
abbrev zbO:Stmt:=top 52
abbrev zbC:Stmt:=top 53
abbrev zbV:Stmt:=top 54
abbrev zbv:Stmt:=top 55
abbrev zcf:Stmt:=top 56
abbrev zbI:Stmt:=top 57
abbrev zbD:Stmt:=top 58
abbrev zbr:Stmt:=top 59
abbrev zbB:Stmt:=top 60
abbrev zbe:Stmt:=top 61
abbrev zbg:Stmt:=top 62
abbrev zbH:Stmt:=top 63
abbrev zbP:Stmt:=top 64
abbrev zcj:Stmt:=top 65
abbrev zbQ:Stmt:=top 66
abbrev zbU:Stmt:=top 67
abbrev zbF:Stmt:=top 68
abbrev zby:Stmt:=top 69
abbrev zaV:Stmt:=top 70
abbrev za7:Stmt:=top 71
abbrev zez:Stmt:=top 72
theorem sc_divisor:FnScope ["one", "other", "kept", "rest", "further"] ["one", "other"] (zw zcG):=⟨rfl,rfl,rfl,by decide +kernel,rfl,by decide +kernel,by decide +kernel⟩
theorem sc_part:FnScope ["top", "bottom", "common"] ["top", "bottom"] (zw zd6):=⟨rfl,rfl,rfl,by decide +kernel,rfl,by decide +kernel,by decide +kernel⟩
theorem sc_plus:FnScope ["one", "other", "shared", "top", "common"] ["one", "other"] (zw zdW):=⟨rfl,rfl,rfl,by decide +kernel,rfl,by decide +kernel,by decide +kernel⟩
theorem znZ:FnScope ["one", "other"] ["one", "other"] (zw zdi):=⟨rfl,rfl,rfl,by decide +kernel,rfl,by decide +kernel,by decide +kernel⟩
theorem sc_times:FnScope ["one", "other", "down", "across", "top", "bottom"] ["one", "other"] (zw zdt):=⟨rfl,rfl,rfl,by decide +kernel,rfl,by decide +kernel,by decide +kernel⟩
theorem zpD:FnScope ["one", "other"] ["one", "other"] (zw zdZ):=⟨rfl,rfl,rfl,by decide +kernel,rfl,by decide +kernel,by decide +kernel⟩
theorem zny:FnScope ["one", "other"] ["one", "other"] (zw zdj):=⟨rfl,rfl,rfl,by decide +kernel,rfl,by decide +kernel,by decide +kernel⟩
theorem zok:FnScope ["one", "other"] ["one", "other"] (zw zdq):=⟨rfl,rfl,rfl,by decide +kernel,rfl,by decide +kernel,by decide +kernel⟩
theorem sc_total:FnScope ["some", "added", "each"] ["some"] (zw zdp):=⟨rfl,rfl,rfl,by decide +kernel,rfl,by decide +kernel,by decide +kernel⟩
theorem sc_owes:FnScope ["many", "sheet", "sums", "payer", "payee", "rank", "amount"] ["many", "sheet"] (zw zd0):=⟨rfl,rfl,rfl,by decide +kernel,rfl,by decide +kernel,by decide +kernel⟩
theorem sc_ranked:FnScope ["many", "sheet", "sums", "payer", "payee", "rank", "amount"] ["many", "sheet"] (zw zcX):=⟨rfl,rfl,rfl,by decide +kernel,rfl,by decide +kernel,by decide +kernel⟩
theorem sc_paid:FnScope ["sheet", "lays", "owed", "shares"] ["sheet", "lays"] (zw zd9):=⟨rfl,rfl,rfl,by decide +kernel,rfl,by decide +kernel,by decide +kernel⟩
theorem sc_shares_paid:FnScope ["owed", "lay", "shares", "rest", "here", "laid"] ["owed", "lay"] (zw zbq):=⟨rfl,rfl,rfl,by decide +kernel,rfl,by decide +kernel,by decide +kernel⟩
theorem sc_stop_of:FnScope ["owed", "lay", "end", "rank", "here"] ["owed", "lay"] (zw zcB):=⟨rfl,rfl,rfl,by decide +kernel,rfl,by decide +kernel,by decide +kernel⟩
theorem sc_got:FnScope ["sheet", "lays", "gains", "number", "gain"] ["sheet", "lays"] (zw zeF):=⟨rfl,rfl,rfl,by decide +kernel,rfl,by decide +kernel,by decide +kernel⟩
theorem zho:FnScope ["sheet", "purses", "lays"] ["sheet", "purses", "lays"] (zw zbu):=⟨rfl,rfl,rfl,by decide +kernel,rfl,by decide +kernel,by decide +kernel⟩
theorem sc_are_lays:FnScope ["sheet", "lays", "owed"] ["sheet", "lays"] (zw zcd):=⟨rfl,rfl,rfl,by decide +kernel,rfl,by decide +kernel,by decide +kernel⟩
theorem sc_next_lays:FnScope ["sheet", "purses", "lays", "owed", "gains"] ["sheet", "purses", "lays"] (zw zbW):=⟨rfl,rfl,rfl,by decide +kernel,rfl,by decide +kernel,by decide +kernel⟩
theorem sc_solved:FnScope ["rows", "right", "count", "table", "before", "place"] ["rows", "right"] (zw zcZ):=⟨rfl,rfl,rfl,by decide +kernel,rfl,by decide +kernel,by decide +kernel⟩
theorem sc_whole_row:FnScope ["row", "common", "top", "bottom"] ["row"] (zw zbR):=⟨rfl,rfl,rfl,by decide +kernel,rfl,by decide +kernel,by decide +kernel⟩
theorem sc_with_first:FnScope ["table", "place", "found", "swapped"] ["table", "place"] (zw zbE):=⟨rfl,rfl,rfl,by decide +kernel,rfl,by decide +kernel,by decide +kernel⟩
theorem sc_swept:FnScope ["table", "place", "before", "sweeper", "made", "number", "row"] ["table", "place", "before"] (zw zdn):=⟨rfl,rfl,rfl,by decide +kernel,rfl,by decide +kernel,by decide +kernel⟩
theorem sc_swept_row:FnScope ["row", "sweeper", "place", "before", "keep", "take"] ["row", "sweeper", "place", "before"] (zw zbS):=⟨rfl,rfl,rfl,by decide +kernel,rfl,by decide +kernel,by decide +kernel⟩
theorem sc_cleared:FnScope ["sheet", "purses", "owed", "lays", "opened", "ranks", "flows", "circle", "rates", "step", "shut"] ["sheet", "purses"] (zw zcz):=⟨rfl,rfl,rfl,by decide +kernel,rfl,by decide +kernel,by decide +kernel⟩
theorem sc_flows_of:FnScope ["sheet", "ranks", "flows", "payer", "payee", "rank", "amount"] ["sheet", "ranks"] (zw zcc):=⟨rfl,rfl,rfl,by decide +kernel,rfl,by decide +kernel,by decide +kernel⟩
theorem sc_closed_circle:FnScope ["flows", "ranks", "circles", "member", "reached"] ["flows", "ranks"] (zw za5):=⟨rfl,rfl,rfl,by decide +kernel,rfl,by decide +kernel,by decide +kernel⟩
theorem sc_reach_of:FnScope ["flows", "member", "reached", "place", "here"] ["flows", "member"] (zw zcl):=⟨rfl,rfl,rfl,by decide +kernel,rfl,by decide +kernel,by decide +kernel⟩
theorem sc_balances:FnScope ["flows", "members", "rows", "place", "member"] ["flows", "members"] (zw zck):=⟨rfl,rfl,rfl,by decide +kernel,rfl,by decide +kernel,by decide +kernel⟩
theorem sc_circling_rates:FnScope ["flows", "circle", "rows", "right"] ["flows", "circle"] (zw zaW):=⟨rfl,rfl,rfl,by decide +kernel,rfl,by decide +kernel,by decide +kernel⟩
theorem sc_opening_rates:FnScope ["flows", "ranks", "purses", "short", "right"] ["flows", "ranks", "purses"] (zw za8):=⟨rfl,rfl,rfl,by decide +kernel,rfl,by decide +kernel,by decide +kernel⟩
theorem sc_rates_of:FnScope ["flows", "members", "shares", "rates", "place", "member"] ["flows", "members", "shares"] (zw zcm):=⟨rfl,rfl,rfl,by decide +kernel,rfl,by decide +kernel,by decide +kernel⟩
theorem sc_least_room:FnScope ["owed", "ranks", "lays", "rates", "room", "member", "rate", "end", "here"] ["owed", "ranks", "lays", "rates"] (zw zbA):=⟨rfl,rfl,rfl,by decide +kernel,rfl,by decide +kernel,by decide +kernel⟩
theorem zns:FnScope ["lays", "rates", "step"] ["lays", "rates", "step"] (zw zdo):=⟨rfl,rfl,rfl,by decide +kernel,rfl,by decide +kernel,by decide +kernel⟩
theorem sc_stops:FnScope ["sheet", "lays", "owed"] ["sheet", "lays"] (zw zdk):=⟨rfl,rfl,rfl,by decide +kernel,rfl,by decide +kernel,by decide +kernel⟩
theorem sc_roads:FnScope ["sheet", "purses", "ranks", "onward"] ["sheet", "purses"] (zw zdl):=⟨rfl,rfl,rfl,by decide +kernel,rfl,by decide +kernel,by decide +kernel⟩
theorem sc_first_dues:FnScope ["sheet", "ranks", "onward", "arrived", "turn", "number", "due"] ["sheet", "ranks"] (zw zbz):=⟨rfl,rfl,rfl,by decide +kernel,rfl,by decide +kernel,by decide +kernel⟩
theorem sc_road_from:FnScope ["sheet", "onward", "member", "road", "here"] ["sheet", "onward", "member"] (zw zbZ):=⟨rfl,rfl,rfl,by decide +kernel,rfl,by decide +kernel,by decide +kernel⟩
theorem zjP:FnScope ["_law_script", "_law_k"] ["_law_script", "_law_k"] (zw zbY):=⟨rfl,rfl,rfl,by decide +kernel,rfl,by decide +kernel,by decide +kernel⟩
theorem ziT:FnScope ["_law_script", "_law_k", "_law_prime", "_law_many_here"] ["_law_script", "_law_k", "_law_prime", "_law_many_here"] (zw zb0):=⟨rfl,rfl,rfl,by decide +kernel,rfl,by decide +kernel,by decide +kernel⟩
theorem sc__law_great:FnScope ["_law_script", "_law_k", "_law_most_here", "_law_mixed"] ["_law_script", "_law_k", "_law_most_here"] (zw zbG):=⟨rfl,rfl,rfl,by decide +kernel,rfl,by decide +kernel,by decide +kernel⟩
theorem sc__law_many:FnScope ["_law_script", "_law_way"] ["_law_script"] (zw zbO):=⟨rfl,rfl,rfl,by decide +kernel,rfl,by decide +kernel,by decide +kernel⟩
theorem sc__law_count:FnScope ["_law_script", "_law_many_here", "_law_way"] ["_law_script", "_law_many_here"] (zw zbC):=⟨rfl,rfl,rfl,by decide +kernel,rfl,by decide +kernel,by decide +kernel⟩
theorem zi6:FnScope ["_law_script", "_law_many_here", "_law_count_here"] ["_law_script", "_law_many_here", "_law_count_here"] (zw zbV):=⟨rfl,rfl,rfl,by decide +kernel,rfl,by decide +kernel,by decide +kernel⟩
theorem sc__law_amount:FnScope ["_law_script", "_law_k", "_law_most_here", "_law_way"] ["_law_script", "_law_k", "_law_most_here"] (zw zbv):=⟨rfl,rfl,rfl,by decide +kernel,rfl,by decide +kernel,by decide +kernel⟩
theorem sc__law_due:FnScope ["_law_script", "_law_k", "_law_many_here", "_law_most_here", "_law_shape", "_law_payer", "_law_payee", "_law_rank"] ["_law_script", "_law_k", "_law_many_here", "_law_most_here"] (zw zcf):=⟨rfl,rfl,rfl,by decide +kernel,rfl,by decide +kernel,by decide +kernel⟩
theorem zii:FnScope ["_law_script", "_law_many_here", "_law_count_here", "_law_most_here"] ["_law_script", "_law_many_here", "_law_count_here", "_law_most_here"] (zw zbI):=⟨rfl,rfl,rfl,by decide +kernel,rfl,by decide +kernel,by decide +kernel⟩
theorem sc__law_purse:FnScope ["_law_script", "_law_k", "_law_way", "_law_most_here", "_law_here"] ["_law_script", "_law_k", "_law_way", "_law_most_here"] (zw zbD):=⟨rfl,rfl,rfl,by decide +kernel,rfl,by decide +kernel,by decide +kernel⟩
theorem sc__law_purses:FnScope ["_law_script", "_law_many_here", "_law_most_here", "_law_way"] ["_law_script", "_law_many_here", "_law_most_here"] (zw zbr):=⟨rfl,rfl,rfl,by decide +kernel,rfl,by decide +kernel,by decide +kernel⟩
theorem zif:FnScope ["_law_thing"] ["_law_thing"] (zw zbB):=⟨rfl,rfl,rfl,by decide +kernel,rfl,by decide +kernel,by decide +kernel⟩
theorem sc__law_divisor:FnScope ["_law_one", "_law_other", "_law_rest"] ["_law_one", "_law_other"] (zw zbe):=⟨rfl,rfl,rfl,by decide +kernel,rfl,by decide +kernel,by decide +kernel⟩
theorem zgA:FnScope ["_law_thing"] ["_law_thing"] (zw zbg):=⟨rfl,rfl,rfl,by decide +kernel,rfl,by decide +kernel,by decide +kernel⟩
theorem sc__law_parts:FnScope ["_law_told", "_law_many_here", "_law_one"] ["_law_told", "_law_many_here"] (zw zbH):=⟨rfl,rfl,rfl,by decide +kernel,rfl,by decide +kernel,by decide +kernel⟩
theorem sc__law_sums:FnScope ["_law_sheet_here", "_law_many_here", "_law_made", "_law_due_here"] ["_law_sheet_here", "_law_many_here"] (zw zbP):=⟨rfl,rfl,rfl,by decide +kernel,rfl,by decide +kernel,by decide +kernel⟩
theorem sc__law_got:FnScope ["_law_sheet_here", "_law_lays", "_law_sums_here", "_law_made", "_law_due_here", "_law_lay", "_law_most_here", "_law_ahead", "_law_top", "_law_bottom", "_law_last"] ["_law_sheet_here", "_law_lays"] (zw zcj):=⟨rfl,rfl,rfl,by decide +kernel,rfl,by decide +kernel,by decide +kernel⟩
theorem sc__law_next:FnScope ["_law_sheet_here", "_law_purses_here", "_law_lays", "_law_sums_here", "_law_come", "_law_made", "_law_k", "_law_top"] ["_law_sheet_here", "_law_purses_here", "_law_lays"] (zw zbQ):=⟨rfl,rfl,rfl,by decide +kernel,rfl,by decide +kernel,by decide +kernel⟩
theorem sc__law_same:FnScope ["_law_ones", "_law_others", "_law_k"] ["_law_ones", "_law_others"] (zw zbU):=⟨rfl,rfl,rfl,by decide +kernel,rfl,by decide +kernel,by decide +kernel⟩
theorem sc__law_stand:FnScope ["_law_sheet_here", "_law_lays", "_law_sums_here", "_law_made", "_law_k", "_law_here", "_law_rank"] ["_law_sheet_here", "_law_lays"] (zw zbF):=⟨rfl,rfl,rfl,by decide +kernel,rfl,by decide +kernel,by decide +kernel⟩
theorem sc__law_leads:FnScope ["_law_sheet_here", "_law_stand_here", "_law_first", "_law_road", "_law_here", "_law_came", "_law_at", "_law_due_here"] ["_law_sheet_here", "_law_stand_here", "_law_first", "_law_road"] (zw zby):=⟨rfl,rfl,rfl,by decide +kernel,rfl,by decide +kernel,by decide +kernel⟩
theorem sc__law_all_reach:FnScope ["_law_sheet_here", "_law_stand_here", "_law_good", "_law_turn", "_law_due_here"] ["_law_sheet_here", "_law_stand_here"] (zw zaV):=⟨rfl,rfl,rfl,by decide +kernel,rfl,by decide +kernel,by decide +kernel⟩
theorem zf4:FnScope ["_law_sheet_here", "_law_purses_here", "_law_lays"] ["_law_sheet_here", "_law_purses_here", "_law_lays"] (zw za7):=⟨rfl,rfl,rfl,by decide +kernel,rfl,by decide +kernel,by decide +kernel⟩
theorem sc_law:FnScope ["_law_script", "_law_many_here", "_law_count_here", "_law_most_here", "_law_sheet_here", "_law_purses_here", "_law_lays", "_law_stand_here", "_law_told", "_law_k", "_law_less"] ["_law_script"] (zw zez):=⟨rfl,rfl,rfl,by decide +kernel,rfl,by decide +kernel,by decide +kernel⟩
theorem zk2{α:Type}{us:List α}(h:us.length=0):us=[]:=yaf h
theorem zei{α:Type}{us:List α}{n:Nat}(h:us.length=n+1):∃a vs,us=a :: vs/\vs.length=n:=by
 cases us with
 | nil=>cases h
 | cons a vs=>exact⟨a,vs,rfl,Nat.succ.inj h⟩
theorem len1{α:Type}{us:List α}(h:us.length=1):∃a0,us=[a0]:=by
 obtain⟨a0,us0,rfl,h0⟩:=zei h
 obtain rfl:=zk2 h0
 exact⟨a0,rfl⟩
theorem len2{α:Type}{us:List α}(h:us.length=2):∃a0 a1,us=[a0,a1]:=by
 obtain⟨a0,us0,rfl,h0⟩:=zei h
 obtain⟨a1,us1,rfl,h1⟩:=zei h0
 obtain rfl:=zk2 h1
 exact⟨a0,a1,rfl⟩
theorem len3{α:Type}{us:List α}(h:us.length=3):∃a0 a1 a2,us=[a0,a1,a2]:=by
 obtain⟨a0,us0,rfl,h0⟩:=zei h
 obtain⟨a1,us1,rfl,h1⟩:=zei h0
 obtain⟨a2,us2,rfl,h2⟩:=zei h1
 obtain rfl:=zk2 h2
 exact⟨a0,a1,a2,rfl⟩
theorem len4{α:Type}{us:List α}(h:us.length=4):∃a0 a1 a2 a3,us=[a0,a1,a2,a3]:=by
 obtain⟨a0,us0,rfl,h0⟩:=zei h
 obtain⟨a1,us1,rfl,h1⟩:=zei h0
 obtain⟨a2,us2,rfl,h2⟩:=zei h1
 obtain⟨a3,us3,rfl,h3⟩:=zei h2
 obtain rfl:=zk2 h3
 exact⟨a0,a1,a2,a3,rfl⟩
set_option genInjectivity false in
set_option genSizeOf false in
set_option genInjectivity false in
set_option genSizeOf false in
structure Dfn(K:Fg)(mg:Str->Option Value)(x qual:Str)(st:Stmt)(ps:List Str) where
 a:Addr
 fd:FuncData
 F:Fun K x qual st a fd
 b:Binds K fd ps []
 m:mg x=some (.ref a)
set_option genInjectivity false in
set_option genSizeOf false in
set_option genInjectivity false in
set_option genSizeOf false in
structure Txt(K:Fg)(mg:Str->Option Value) where
 c_NoAnswer:Addr
 m_NoAnswer:mg "NoAnswer" = some (.ref c_NoAnswer)
 c_NoPart:Addr
 m_NoPart:mg "NoPart" = some (.ref c_NoPart)
 e_NoAnswer:zeC K c_NoAnswer=true
 i_NoAnswer_NoAnswer:PySem.W.kitOne K (.ref c_NoAnswer) (.ref c_NoAnswer)=some true
 i_NoAnswer_NoPart:PySem.W.kitOne K (.ref c_NoAnswer) (.ref c_NoPart)=some false
 e_NoPart:zeC K c_NoPart=true
 i_NoPart_NoAnswer:PySem.W.kitOne K (.ref c_NoPart) (.ref c_NoAnswer)=some false
 i_NoPart_NoPart:PySem.W.kitOne K (.ref c_NoPart) (.ref c_NoPart)=some true
 d_divisor:Dfn K mg "divisor" "divisor" zcG ["one", "other"]
 d_part:Dfn K mg "part" "part" zd6 ["top", "bottom"]
 d_plus:Dfn K mg "plus" "plus" zdW ["one", "other"]
 d_minus:Dfn K mg "minus" "minus" zdi ["one", "other"]
 d_times:Dfn K mg "times" "times" zdt ["one", "other"]
 d_over:Dfn K mg "over" "over" zdZ ["one", "other"]
 d_under:Dfn K mg "under" "under" zdj ["one", "other"]
 d_least:Dfn K mg "least" "least" zdq ["one", "other"]
 d_total:Dfn K mg "total" "total" zdp ["some"]
 d_owes:Dfn K mg "owes" "owes" zd0 ["many", "sheet"]
 d_ranked:Dfn K mg "ranked" "ranked" zcX ["many", "sheet"]
 d_paid:Dfn K mg "paid" "paid" zd9 ["sheet", "lays"]
 d_shares_paid:Dfn K mg "shares_paid" "shares_paid" zbq ["owed", "lay"]
 d_stop_of:Dfn K mg "stop_of" "stop_of" zcB ["owed", "lay"]
 d_got:Dfn K mg "got" "got" zeF ["sheet", "lays"]
 d_is_clearing:Dfn K mg "is_clearing" "is_clearing" zbu ["sheet", "purses", "lays"]
 d_are_lays:Dfn K mg "are_lays" "are_lays" zcd ["sheet", "lays"]
 d_next_lays:Dfn K mg "next_lays" "next_lays" zbW ["sheet", "purses", "lays"]
 d_solved:Dfn K mg "solved" "solved" zcZ ["rows", "right"]
 d_whole_row:Dfn K mg "whole_row" "whole_row" zbR ["row"]
 d_with_first:Dfn K mg "with_first" "with_first" zbE ["table", "place"]
 d_swept:Dfn K mg "swept" "swept" zdn ["table", "place", "before"]
 d_swept_row:Dfn K mg "swept_row" "swept_row" zbS ["row", "sweeper", "place", "before"]
 d_cleared:Dfn K mg "cleared" "cleared" zcz ["sheet", "purses"]
 d_flows_of:Dfn K mg "flows_of" "flows_of" zcc ["sheet", "ranks"]
 d_closed_circle:Dfn K mg "closed_circle" "closed_circle" za5 ["flows", "ranks"]
 d_reach_of:Dfn K mg "reach_of" "reach_of" zcl ["flows", "member"]
 d_balances:Dfn K mg "balances" "balances" zck ["flows", "members"]
 d_circling_rates:Dfn K mg "circling_rates" "circling_rates" zaW ["flows", "circle"]
 d_opening_rates:Dfn K mg "opening_rates" "opening_rates" za8 ["flows", "ranks", "purses"]
 d_rates_of:Dfn K mg "rates_of" "rates_of" zcm ["flows", "members", "shares"]
 d_least_room:Dfn K mg "least_room" "least_room" zbA ["owed", "ranks", "lays", "rates"]
 d_grown:Dfn K mg "grown" "grown" zdo ["lays", "rates", "step"]
 d_stops:Dfn K mg "stops" "stops" zdk ["sheet", "lays"]
 d_roads:Dfn K mg "roads" "roads" zdl ["sheet", "purses"]
 d_first_dues:Dfn K mg "first_dues" "first_dues" zbz ["sheet", "ranks"]
 d_road_from:Dfn K mg "road_from" "road_from" zbZ ["sheet", "onward", "member"]
 d__law_cell:Dfn K mg "_law_cell" "_law_cell" zbY ["_law_script", "_law_k"]
 d__law_draw:Dfn K mg "_law_draw" "_law_draw" zb0 ["_law_script", "_law_k", "_law_prime", "_law_many_here"]
 d__law_great:Dfn K mg "_law_great" "_law_great" zbG ["_law_script", "_law_k", "_law_most_here"]
 d__law_many:Dfn K mg "_law_many" "_law_many" zbO ["_law_script"]
 d__law_count:Dfn K mg "_law_count" "_law_count" zbC ["_law_script", "_law_many_here"]
 d__law_most:Dfn K mg "_law_most" "_law_most" zbV ["_law_script", "_law_many_here", "_law_count_here"]
 d__law_amount:Dfn K mg "_law_amount" "_law_amount" zbv ["_law_script", "_law_k", "_law_most_here"]
 d__law_due:Dfn K mg "_law_due" "_law_due" zcf ["_law_script", "_law_k", "_law_many_here", "_law_most_here"]
 d__law_sheet:Dfn K mg "_law_sheet" "_law_sheet" zbI ["_law_script", "_law_many_here", "_law_count_here", "_law_most_here"]
 d__law_purse:Dfn K mg "_law_purse" "_law_purse" zbD ["_law_script", "_law_k", "_law_way", "_law_most_here"]
 d__law_purses:Dfn K mg "_law_purses" "_law_purses" zbr ["_law_script", "_law_many_here", "_law_most_here"]
 d__law_whole:Dfn K mg "_law_whole" "_law_whole" zbB ["_law_thing"]
 d__law_divisor:Dfn K mg "_law_divisor" "_law_divisor" zbe ["_law_one", "_law_other"]
 d__law_is_part:Dfn K mg "_law_is_part" "_law_is_part" zbg ["_law_thing"]
 d__law_parts:Dfn K mg "_law_parts" "_law_parts" zbH ["_law_told", "_law_many_here"]
 d__law_sums:Dfn K mg "_law_sums" "_law_sums" zbP ["_law_sheet_here", "_law_many_here"]
 d__law_got:Dfn K mg "_law_got" "_law_got" zcj ["_law_sheet_here", "_law_lays"]
 d__law_next:Dfn K mg "_law_next" "_law_next" zbQ ["_law_sheet_here", "_law_purses_here", "_law_lays"]
 d__law_same:Dfn K mg "_law_same" "_law_same" zbU ["_law_ones", "_law_others"]
 d__law_stand:Dfn K mg "_law_stand" "_law_stand" zbF ["_law_sheet_here", "_law_lays"]
 d__law_leads:Dfn K mg "_law_leads" "_law_leads" zby ["_law_sheet_here", "_law_stand_here", "_law_first", "_law_road"]
 d__law_all_reach:Dfn K mg "_law_all_reach" "_law_all_reach" zaV ["_law_sheet_here", "_law_stand_here"]
 d__law_greatest:Dfn K mg "_law_greatest" "_law_greatest" za7 ["_law_sheet_here", "_law_purses_here", "_law_lays"]
 d_law:Dfn K mg "law" "law" zez ["_law_script"]
 bl_law:∀(s:Shared) (v:Value),BindsTo s d_law.fd ⟨[v],[]⟩ [("_law_script",v)]
 z_abs:mg "abs" = none
 z_all:mg "all" = none
 z_bool:mg "bool" = none
 z_enumerate:mg "enumerate" = none
 z_int:mg "int" = none
 z_isinstance:mg "isinstance" = none
 z_len:mg "len" = none
 z_list:mg "list" = none
 z_max:mg "max" = none
 z_min:mg "min" = none
 z_range:mg "range" = none
 z_sum:mg "sum" = none
 z_tuple:mg "tuple" = none
 z_zip:mg "zip" = none
def txt_mk{K:Fg}{h:Heap}{mg:Str->Option Value}(X:K.In h)(G:h.Ns mainGlobals mg)
 {c_NoAnswer:Addr}
 {c_NoPart:Addr}
 {f0:Addr} {o0 v0 e0 p0 q0 t0:Value} {d0 n0:Option Addr} {r0:Array (Option Value)}
 {f1:Addr} {o1 v1 e1 p1 q1 t1:Value} {d1 n1:Option Addr} {r1:Array (Option Value)}
 {f2:Addr} {o2 v2 e2 p2 q2 t2:Value} {d2 n2:Option Addr} {r2:Array (Option Value)}
 {f3:Addr} {o3 v3 e3 p3 q3 t3:Value} {d3 n3:Option Addr} {r3:Array (Option Value)}
 {f4:Addr} {o4 v4 e4 p4 q4 t4:Value} {d4 n4:Option Addr} {r4:Array (Option Value)}
 {f5:Addr} {o5 v5 e5 p5 q5 t5:Value} {d5 n5:Option Addr} {r5:Array (Option Value)}
 {f6:Addr} {o6 v6 e6 p6 q6 t6:Value} {d6 n6:Option Addr} {r6:Array (Option Value)}
 {f7:Addr} {o7 v7 e7 p7 q7 t7:Value} {d7 n7:Option Addr} {r7:Array (Option Value)}
 {f8:Addr} {o8 v8 e8 p8 q8 t8:Value} {d8 n8:Option Addr} {r8:Array (Option Value)}
 {f9:Addr} {o9 v9 e9 p9 q9 t9:Value} {d9 n9:Option Addr} {r9:Array (Option Value)}
 {f10:Addr} {o10 v10 e10 p10 q10 t10:Value} {d10 n10:Option Addr} {r10:Array (Option Value)}
 {f11:Addr} {o11 v11 e11 p11 q11 t11:Value} {d11 n11:Option Addr} {r11:Array (Option Value)}
 {f12:Addr} {o12 v12 e12 p12 q12 t12:Value} {d12 n12:Option Addr} {r12:Array (Option Value)}
 {f13:Addr} {o13 v13 e13 p13 q13 t13:Value} {d13 n13:Option Addr} {r13:Array (Option Value)}
 {f14:Addr} {o14 v14 e14 p14 q14 t14:Value} {d14 n14:Option Addr} {r14:Array (Option Value)}
 {f15:Addr} {o15 v15 e15 p15 q15 t15:Value} {d15 n15:Option Addr} {r15:Array (Option Value)}
 {f16:Addr} {o16 v16 e16 p16 q16 t16:Value} {d16 n16:Option Addr} {r16:Array (Option Value)}
 {f17:Addr} {o17 v17 e17 p17 q17 t17:Value} {d17 n17:Option Addr} {r17:Array (Option Value)}
 {f18:Addr} {o18 v18 e18 p18 q18 t18:Value} {d18 n18:Option Addr} {r18:Array (Option Value)}
 {f19:Addr} {o19 v19 e19 p19 q19 t19:Value} {d19 n19:Option Addr} {r19:Array (Option Value)}
 {f20:Addr} {o20 v20 e20 p20 q20 t20:Value} {d20 n20:Option Addr} {r20:Array (Option Value)}
 {f21:Addr} {o21 v21 e21 p21 q21 t21:Value} {d21 n21:Option Addr} {r21:Array (Option Value)}
 {f22:Addr} {o22 v22 e22 p22 q22 t22:Value} {d22 n22:Option Addr} {r22:Array (Option Value)}
 {f23:Addr} {o23 v23 e23 p23 q23 t23:Value} {d23 n23:Option Addr} {r23:Array (Option Value)}
 {f24:Addr} {o24 v24 e24 p24 q24 t24:Value} {d24 n24:Option Addr} {r24:Array (Option Value)}
 {f25:Addr} {o25 v25 e25 p25 q25 t25:Value} {d25 n25:Option Addr} {r25:Array (Option Value)}
 {f26:Addr} {o26 v26 e26 p26 q26 t26:Value} {d26 n26:Option Addr} {r26:Array (Option Value)}
 {f27:Addr} {o27 v27 e27 p27 q27 t27:Value} {d27 n27:Option Addr} {r27:Array (Option Value)}
 {f28:Addr} {o28 v28 e28 p28 q28 t28:Value} {d28 n28:Option Addr} {r28:Array (Option Value)}
 {f29:Addr} {o29 v29 e29 p29 q29 t29:Value} {d29 n29:Option Addr} {r29:Array (Option Value)}
 {f30:Addr} {o30 v30 e30 p30 q30 t30:Value} {d30 n30:Option Addr} {r30:Array (Option Value)}
 {f31:Addr} {o31 v31 e31 p31 q31 t31:Value} {d31 n31:Option Addr} {r31:Array (Option Value)}
 {f32:Addr} {o32 v32 e32 p32 q32 t32:Value} {d32 n32:Option Addr} {r32:Array (Option Value)}
 {f33:Addr} {o33 v33 e33 p33 q33 t33:Value} {d33 n33:Option Addr} {r33:Array (Option Value)}
 {f34:Addr} {o34 v34 e34 p34 q34 t34:Value} {d34 n34:Option Addr} {r34:Array (Option Value)}
 {f35:Addr} {o35 v35 e35 p35 q35 t35:Value} {d35 n35:Option Addr} {r35:Array (Option Value)}
 {f36:Addr} {o36 v36 e36 p36 q36 t36:Value} {d36 n36:Option Addr} {r36:Array (Option Value)}
 {f37:Addr} {o37 v37 e37 p37 q37 t37:Value} {d37 n37:Option Addr} {r37:Array (Option Value)}
 {f38:Addr} {o38 v38 e38 p38 q38 t38:Value} {d38 n38:Option Addr} {r38:Array (Option Value)}
 {f39:Addr} {o39 v39 e39 p39 q39 t39:Value} {d39 n39:Option Addr} {r39:Array (Option Value)}
 {f40:Addr} {o40 v40 e40 p40 q40 t40:Value} {d40 n40:Option Addr} {r40:Array (Option Value)}
 {f41:Addr} {o41 v41 e41 p41 q41 t41:Value} {d41 n41:Option Addr} {r41:Array (Option Value)}
 {f42:Addr} {o42 v42 e42 p42 q42 t42:Value} {d42 n42:Option Addr} {r42:Array (Option Value)}
 {f43:Addr} {o43 v43 e43 p43 q43 t43:Value} {d43 n43:Option Addr} {r43:Array (Option Value)}
 {f44:Addr} {o44 v44 e44 p44 q44 t44:Value} {d44 n44:Option Addr} {r44:Array (Option Value)}
 {f45:Addr} {o45 v45 e45 p45 q45 t45:Value} {d45 n45:Option Addr} {r45:Array (Option Value)}
 {f46:Addr} {o46 v46 e46 p46 q46 t46:Value} {d46 n46:Option Addr} {r46:Array (Option Value)}
 {f47:Addr} {o47 v47 e47 p47 q47 t47:Value} {d47 n47:Option Addr} {r47:Array (Option Value)}
 {f48:Addr} {o48 v48 e48 p48 q48 t48:Value} {d48 n48:Option Addr} {r48:Array (Option Value)}
 {f49:Addr} {o49 v49 e49 p49 q49 t49:Value} {d49 n49:Option Addr} {r49:Array (Option Value)}
 {f50:Addr} {o50 v50 e50 p50 q50 t50:Value} {d50 n50:Option Addr} {r50:Array (Option Value)}
 {f51:Addr} {o51 v51 e51 p51 q51 t51:Value} {d51 n51:Option Addr} {r51:Array (Option Value)}
 {f52:Addr} {o52 v52 e52 p52 q52 t52:Value} {d52 n52:Option Addr} {r52:Array (Option Value)}
 {f53:Addr} {o53 v53 e53 p53 q53 t53:Value} {d53 n53:Option Addr} {r53:Array (Option Value)}
 {f54:Addr} {o54 v54 e54 p54 q54 t54:Value} {d54 n54:Option Addr} {r54:Array (Option Value)}
 {f55:Addr} {o55 v55 e55 p55 q55 t55:Value} {d55 n55:Option Addr} {r55:Array (Option Value)}
 {f56:Addr} {o56 v56 e56 p56 q56 t56:Value} {d56 n56:Option Addr} {r56:Array (Option Value)}
 {f57:Addr} {o57 v57 e57 p57 q57 t57:Value} {d57 n57:Option Addr} {r57:Array (Option Value)}
 {f58:Addr} {o58 v58 e58 p58 q58 t58:Value} {d58 n58:Option Addr} {r58:Array (Option Value)}
 {f59:Addr} {o59 v59 e59 p59 q59 t59:Value} {d59 n59:Option Addr} {r59:Array (Option Value)}
 {f60:Addr} {o60 v60 e60 p60 q60 t60:Value} {d60 n60:Option Addr} {r60:Array (Option Value)}
 (m_NoAnswer:PySem.W.nsIn K mainGlobals "NoAnswer" = some (some (.ref c_NoAnswer)))
 (m_NoPart:PySem.W.nsIn K mainGlobals "NoPart" = some (some (.ref c_NoPart)))
 (hd_NoAnswer:PySem.W.hasDictIn K c_NoAnswer=true) (ty_NoAnswer:PySem.W.typeIn K (.ref c_NoAnswer)=some (.type "type"))
 (hd_NoPart:PySem.W.hasDictIn K c_NoPart=true) (ty_NoPart:PySem.W.typeIn K (.ref c_NoPart)=some (.type "type"))
 (sn_:PySem.W.specialIn K (.builtin "object.__class__") "__get__" = some (some (.builtin "getset_descriptor.__get__"))) (tk_:PySem.W.takesIn K (.builtin "object.__class__")=some true)
 (x_NoAnswer:PySem.W.excIn K c_NoAnswer [.type "ValueError",.type "Exception",.type "BaseException",.type "object"] "ValueError.__new__" = true) (ga_NoAnswer:PySem.W.findIn K (.ref c_NoAnswer) "__getattribute__" = some (some (.builtin "BaseException.__getattribute__"))) (gn_NoAnswer:PySem.W.findIn K (.ref c_NoAnswer) "__getattr__" = some none) (be_NoAnswer:PySem.W.mroIn K c_NoAnswer (.type "BaseException")=some true) (fa_NoAnswer:PySem.W.findIn K (.ref c_NoAnswer) "__class__" = some (some (.builtin "object.__class__"))) (mo_NoAnswer:PySem.W.mroIn K c_NoAnswer (.type "object")=some true)
 (s_NoAnswer_NoAnswer:PySem.W.subIn K (.ref c_NoAnswer) (.ref c_NoAnswer)=some true)
 (s_NoAnswer_NoPart:PySem.W.subIn K (.ref c_NoAnswer) (.ref c_NoPart)=some false)
 (n_NoAnswer_NoPart:c_NoAnswer≠c_NoPart)
 (x_NoPart:PySem.W.excIn K c_NoPart [.type "ValueError",.type "Exception",.type "BaseException",.type "object"] "ValueError.__new__" = true) (ga_NoPart:PySem.W.findIn K (.ref c_NoPart) "__getattribute__" = some (some (.builtin "BaseException.__getattribute__"))) (gn_NoPart:PySem.W.findIn K (.ref c_NoPart) "__getattr__" = some none) (be_NoPart:PySem.W.mroIn K c_NoPart (.type "BaseException")=some true) (fa_NoPart:PySem.W.findIn K (.ref c_NoPart) "__class__" = some (some (.builtin "object.__class__"))) (mo_NoPart:PySem.W.mroIn K c_NoPart (.type "object")=some true)
 (s_NoPart_NoAnswer:PySem.W.subIn K (.ref c_NoPart) (.ref c_NoAnswer)=some false)
 (n_NoPart_NoAnswer:c_NoPart≠c_NoAnswer)
 (s_NoPart_NoPart:PySem.W.subIn K (.ref c_NoPart) (.ref c_NoPart)=some true)
 (a0:PySem.W.nsIn K mainGlobals "divisor" = some (some (.ref f0))) (l0:K.lookup f0=some ⟨o0,d0,.func (PySem.W.fnOf "divisor" "divisor" (zL zcG) (zI zcG) (zw zcG) .none v0 e0 p0 n0 q0 t0),r0⟩) (c0:PySem.W.codeIn K q0 "divisor" = true) (k0:PySem.W.keepIn K (.ref f0)=true)
 (a1:PySem.W.nsIn K mainGlobals "part" = some (some (.ref f1))) (l1:K.lookup f1=some ⟨o1,d1,.func (PySem.W.fnOf "part" "part" (zL zd6) (zI zd6) (zw zd6) .none v1 e1 p1 n1 q1 t1),r1⟩) (c1:PySem.W.codeIn K q1 "part" = true) (k1:PySem.W.keepIn K (.ref f1)=true)
 (a2:PySem.W.nsIn K mainGlobals "plus" = some (some (.ref f2))) (l2:K.lookup f2=some ⟨o2,d2,.func (PySem.W.fnOf "plus" "plus" (zL zdW) (zI zdW) (zw zdW) .none v2 e2 p2 n2 q2 t2),r2⟩) (c2:PySem.W.codeIn K q2 "plus" = true) (k2:PySem.W.keepIn K (.ref f2)=true)
 (a3:PySem.W.nsIn K mainGlobals "minus" = some (some (.ref f3))) (l3:K.lookup f3=some ⟨o3,d3,.func (PySem.W.fnOf "minus" "minus" (zL zdi) (zI zdi) (zw zdi) .none v3 e3 p3 n3 q3 t3),r3⟩) (c3:PySem.W.codeIn K q3 "minus" = true) (k3:PySem.W.keepIn K (.ref f3)=true)
 (a4:PySem.W.nsIn K mainGlobals "times" = some (some (.ref f4))) (l4:K.lookup f4=some ⟨o4,d4,.func (PySem.W.fnOf "times" "times" (zL zdt) (zI zdt) (zw zdt) .none v4 e4 p4 n4 q4 t4),r4⟩) (c4:PySem.W.codeIn K q4 "times" = true) (k4:PySem.W.keepIn K (.ref f4)=true)
 (a5:PySem.W.nsIn K mainGlobals "over" = some (some (.ref f5))) (l5:K.lookup f5=some ⟨o5,d5,.func (PySem.W.fnOf "over" "over" (zL zdZ) (zI zdZ) (zw zdZ) .none v5 e5 p5 n5 q5 t5),r5⟩) (c5:PySem.W.codeIn K q5 "over" = true) (k5:PySem.W.keepIn K (.ref f5)=true)
 (a6:PySem.W.nsIn K mainGlobals "under" = some (some (.ref f6))) (l6:K.lookup f6=some ⟨o6,d6,.func (PySem.W.fnOf "under" "under" (zL zdj) (zI zdj) (zw zdj) .none v6 e6 p6 n6 q6 t6),r6⟩) (c6:PySem.W.codeIn K q6 "under" = true) (k6:PySem.W.keepIn K (.ref f6)=true)
 (a7:PySem.W.nsIn K mainGlobals "least" = some (some (.ref f7))) (l7:K.lookup f7=some ⟨o7,d7,.func (PySem.W.fnOf "least" "least" (zL zdq) (zI zdq) (zw zdq) .none v7 e7 p7 n7 q7 t7),r7⟩) (c7:PySem.W.codeIn K q7 "least" = true) (k7:PySem.W.keepIn K (.ref f7)=true)
 (a8:PySem.W.nsIn K mainGlobals "total" = some (some (.ref f8))) (l8:K.lookup f8=some ⟨o8,d8,.func (PySem.W.fnOf "total" "total" (zL zdp) (zI zdp) (zw zdp) .none v8 e8 p8 n8 q8 t8),r8⟩) (c8:PySem.W.codeIn K q8 "total" = true) (k8:PySem.W.keepIn K (.ref f8)=true)
 (a9:PySem.W.nsIn K mainGlobals "owes" = some (some (.ref f9))) (l9:K.lookup f9=some ⟨o9,d9,.func (PySem.W.fnOf "owes" "owes" (zL zd0) (zI zd0) (zw zd0) .none v9 e9 p9 n9 q9 t9),r9⟩) (c9:PySem.W.codeIn K q9 "owes" = true) (k9:PySem.W.keepIn K (.ref f9)=true)
 (a10:PySem.W.nsIn K mainGlobals "ranked" = some (some (.ref f10))) (l10:K.lookup f10=some ⟨o10,d10,.func (PySem.W.fnOf "ranked" "ranked" (zL zcX) (zI zcX) (zw zcX) .none v10 e10 p10 n10 q10 t10),r10⟩) (c10:PySem.W.codeIn K q10 "ranked" = true) (k10:PySem.W.keepIn K (.ref f10)=true)
 (a11:PySem.W.nsIn K mainGlobals "paid" = some (some (.ref f11))) (l11:K.lookup f11=some ⟨o11,d11,.func (PySem.W.fnOf "paid" "paid" (zL zd9) (zI zd9) (zw zd9) .none v11 e11 p11 n11 q11 t11),r11⟩) (c11:PySem.W.codeIn K q11 "paid" = true) (k11:PySem.W.keepIn K (.ref f11)=true)
 (a12:PySem.W.nsIn K mainGlobals "shares_paid" = some (some (.ref f12))) (l12:K.lookup f12=some ⟨o12,d12,.func (PySem.W.fnOf "shares_paid" "shares_paid" (zL zbq) (zI zbq) (zw zbq) .none v12 e12 p12 n12 q12 t12),r12⟩) (c12:PySem.W.codeIn K q12 "shares_paid" = true) (k12:PySem.W.keepIn K (.ref f12)=true)
 (a13:PySem.W.nsIn K mainGlobals "stop_of" = some (some (.ref f13))) (l13:K.lookup f13=some ⟨o13,d13,.func (PySem.W.fnOf "stop_of" "stop_of" (zL zcB) (zI zcB) (zw zcB) .none v13 e13 p13 n13 q13 t13),r13⟩) (c13:PySem.W.codeIn K q13 "stop_of" = true) (k13:PySem.W.keepIn K (.ref f13)=true)
 (a14:PySem.W.nsIn K mainGlobals "got" = some (some (.ref f14))) (l14:K.lookup f14=some ⟨o14,d14,.func (PySem.W.fnOf "got" "got" (zL zeF) (zI zeF) (zw zeF) .none v14 e14 p14 n14 q14 t14),r14⟩) (c14:PySem.W.codeIn K q14 "got" = true) (k14:PySem.W.keepIn K (.ref f14)=true)
 (a15:PySem.W.nsIn K mainGlobals "is_clearing" = some (some (.ref f15))) (l15:K.lookup f15=some ⟨o15,d15,.func (PySem.W.fnOf "is_clearing" "is_clearing" (zL zbu) (zI zbu) (zw zbu) .none v15 e15 p15 n15 q15 t15),r15⟩) (c15:PySem.W.codeIn K q15 "is_clearing" = true) (k15:PySem.W.keepIn K (.ref f15)=true)
 (a16:PySem.W.nsIn K mainGlobals "are_lays" = some (some (.ref f16))) (l16:K.lookup f16=some ⟨o16,d16,.func (PySem.W.fnOf "are_lays" "are_lays" (zL zcd) (zI zcd) (zw zcd) .none v16 e16 p16 n16 q16 t16),r16⟩) (c16:PySem.W.codeIn K q16 "are_lays" = true) (k16:PySem.W.keepIn K (.ref f16)=true)
 (a17:PySem.W.nsIn K mainGlobals "next_lays" = some (some (.ref f17))) (l17:K.lookup f17=some ⟨o17,d17,.func (PySem.W.fnOf "next_lays" "next_lays" (zL zbW) (zI zbW) (zw zbW) .none v17 e17 p17 n17 q17 t17),r17⟩) (c17:PySem.W.codeIn K q17 "next_lays" = true) (k17:PySem.W.keepIn K (.ref f17)=true)
 (a18:PySem.W.nsIn K mainGlobals "solved" = some (some (.ref f18))) (l18:K.lookup f18=some ⟨o18,d18,.func (PySem.W.fnOf "solved" "solved" (zL zcZ) (zI zcZ) (zw zcZ) .none v18 e18 p18 n18 q18 t18),r18⟩) (c18:PySem.W.codeIn K q18 "solved" = true) (k18:PySem.W.keepIn K (.ref f18)=true)
 (a19:PySem.W.nsIn K mainGlobals "whole_row" = some (some (.ref f19))) (l19:K.lookup f19=some ⟨o19,d19,.func (PySem.W.fnOf "whole_row" "whole_row" (zL zbR) (zI zbR) (zw zbR) .none v19 e19 p19 n19 q19 t19),r19⟩) (c19:PySem.W.codeIn K q19 "whole_row" = true) (k19:PySem.W.keepIn K (.ref f19)=true)
 (a20:PySem.W.nsIn K mainGlobals "with_first" = some (some (.ref f20))) (l20:K.lookup f20=some ⟨o20,d20,.func (PySem.W.fnOf "with_first" "with_first" (zL zbE) (zI zbE) (zw zbE) .none v20 e20 p20 n20 q20 t20),r20⟩) (c20:PySem.W.codeIn K q20 "with_first" = true) (k20:PySem.W.keepIn K (.ref f20)=true)
 (a21:PySem.W.nsIn K mainGlobals "swept" = some (some (.ref f21))) (l21:K.lookup f21=some ⟨o21,d21,.func (PySem.W.fnOf "swept" "swept" (zL zdn) (zI zdn) (zw zdn) .none v21 e21 p21 n21 q21 t21),r21⟩) (c21:PySem.W.codeIn K q21 "swept" = true) (k21:PySem.W.keepIn K (.ref f21)=true)
 (a22:PySem.W.nsIn K mainGlobals "swept_row" = some (some (.ref f22))) (l22:K.lookup f22=some ⟨o22,d22,.func (PySem.W.fnOf "swept_row" "swept_row" (zL zbS) (zI zbS) (zw zbS) .none v22 e22 p22 n22 q22 t22),r22⟩) (c22:PySem.W.codeIn K q22 "swept_row" = true) (k22:PySem.W.keepIn K (.ref f22)=true)
 (a23:PySem.W.nsIn K mainGlobals "cleared" = some (some (.ref f23))) (l23:K.lookup f23=some ⟨o23,d23,.func (PySem.W.fnOf "cleared" "cleared" (zL zcz) (zI zcz) (zw zcz) .none v23 e23 p23 n23 q23 t23),r23⟩) (c23:PySem.W.codeIn K q23 "cleared" = true) (k23:PySem.W.keepIn K (.ref f23)=true)
 (a24:PySem.W.nsIn K mainGlobals "flows_of" = some (some (.ref f24))) (l24:K.lookup f24=some ⟨o24,d24,.func (PySem.W.fnOf "flows_of" "flows_of" (zL zcc) (zI zcc) (zw zcc) .none v24 e24 p24 n24 q24 t24),r24⟩) (c24:PySem.W.codeIn K q24 "flows_of" = true) (k24:PySem.W.keepIn K (.ref f24)=true)
 (a25:PySem.W.nsIn K mainGlobals "closed_circle" = some (some (.ref f25))) (l25:K.lookup f25=some ⟨o25,d25,.func (PySem.W.fnOf "closed_circle" "closed_circle" (zL za5) (zI za5) (zw za5) .none v25 e25 p25 n25 q25 t25),r25⟩) (c25:PySem.W.codeIn K q25 "closed_circle" = true) (k25:PySem.W.keepIn K (.ref f25)=true)
 (a26:PySem.W.nsIn K mainGlobals "reach_of" = some (some (.ref f26))) (l26:K.lookup f26=some ⟨o26,d26,.func (PySem.W.fnOf "reach_of" "reach_of" (zL zcl) (zI zcl) (zw zcl) .none v26 e26 p26 n26 q26 t26),r26⟩) (c26:PySem.W.codeIn K q26 "reach_of" = true) (k26:PySem.W.keepIn K (.ref f26)=true)
 (a27:PySem.W.nsIn K mainGlobals "balances" = some (some (.ref f27))) (l27:K.lookup f27=some ⟨o27,d27,.func (PySem.W.fnOf "balances" "balances" (zL zck) (zI zck) (zw zck) .none v27 e27 p27 n27 q27 t27),r27⟩) (c27:PySem.W.codeIn K q27 "balances" = true) (k27:PySem.W.keepIn K (.ref f27)=true)
 (a28:PySem.W.nsIn K mainGlobals "circling_rates" = some (some (.ref f28))) (l28:K.lookup f28=some ⟨o28,d28,.func (PySem.W.fnOf "circling_rates" "circling_rates" (zL zaW) (zI zaW) (zw zaW) .none v28 e28 p28 n28 q28 t28),r28⟩) (c28:PySem.W.codeIn K q28 "circling_rates" = true) (k28:PySem.W.keepIn K (.ref f28)=true)
 (a29:PySem.W.nsIn K mainGlobals "opening_rates" = some (some (.ref f29))) (l29:K.lookup f29=some ⟨o29,d29,.func (PySem.W.fnOf "opening_rates" "opening_rates" (zL za8) (zI za8) (zw za8) .none v29 e29 p29 n29 q29 t29),r29⟩) (c29:PySem.W.codeIn K q29 "opening_rates" = true) (k29:PySem.W.keepIn K (.ref f29)=true)
 (a30:PySem.W.nsIn K mainGlobals "rates_of" = some (some (.ref f30))) (l30:K.lookup f30=some ⟨o30,d30,.func (PySem.W.fnOf "rates_of" "rates_of" (zL zcm) (zI zcm) (zw zcm) .none v30 e30 p30 n30 q30 t30),r30⟩) (c30:PySem.W.codeIn K q30 "rates_of" = true) (k30:PySem.W.keepIn K (.ref f30)=true)
 (a31:PySem.W.nsIn K mainGlobals "least_room" = some (some (.ref f31))) (l31:K.lookup f31=some ⟨o31,d31,.func (PySem.W.fnOf "least_room" "least_room" (zL zbA) (zI zbA) (zw zbA) .none v31 e31 p31 n31 q31 t31),r31⟩) (c31:PySem.W.codeIn K q31 "least_room" = true) (k31:PySem.W.keepIn K (.ref f31)=true)
 (a32:PySem.W.nsIn K mainGlobals "grown" = some (some (.ref f32))) (l32:K.lookup f32=some ⟨o32,d32,.func (PySem.W.fnOf "grown" "grown" (zL zdo) (zI zdo) (zw zdo) .none v32 e32 p32 n32 q32 t32),r32⟩) (c32:PySem.W.codeIn K q32 "grown" = true) (k32:PySem.W.keepIn K (.ref f32)=true)
 (a33:PySem.W.nsIn K mainGlobals "stops" = some (some (.ref f33))) (l33:K.lookup f33=some ⟨o33,d33,.func (PySem.W.fnOf "stops" "stops" (zL zdk) (zI zdk) (zw zdk) .none v33 e33 p33 n33 q33 t33),r33⟩) (c33:PySem.W.codeIn K q33 "stops" = true) (k33:PySem.W.keepIn K (.ref f33)=true)
 (a34:PySem.W.nsIn K mainGlobals "roads" = some (some (.ref f34))) (l34:K.lookup f34=some ⟨o34,d34,.func (PySem.W.fnOf "roads" "roads" (zL zdl) (zI zdl) (zw zdl) .none v34 e34 p34 n34 q34 t34),r34⟩) (c34:PySem.W.codeIn K q34 "roads" = true) (k34:PySem.W.keepIn K (.ref f34)=true)
 (a35:PySem.W.nsIn K mainGlobals "first_dues" = some (some (.ref f35))) (l35:K.lookup f35=some ⟨o35,d35,.func (PySem.W.fnOf "first_dues" "first_dues" (zL zbz) (zI zbz) (zw zbz) .none v35 e35 p35 n35 q35 t35),r35⟩) (c35:PySem.W.codeIn K q35 "first_dues" = true) (k35:PySem.W.keepIn K (.ref f35)=true)
 (a36:PySem.W.nsIn K mainGlobals "road_from" = some (some (.ref f36))) (l36:K.lookup f36=some ⟨o36,d36,.func (PySem.W.fnOf "road_from" "road_from" (zL zbZ) (zI zbZ) (zw zbZ) .none v36 e36 p36 n36 q36 t36),r36⟩) (c36:PySem.W.codeIn K q36 "road_from" = true) (k36:PySem.W.keepIn K (.ref f36)=true)
 (a37:PySem.W.nsIn K mainGlobals "_law_cell" = some (some (.ref f37))) (l37:K.lookup f37=some ⟨o37,d37,.func (PySem.W.fnOf "_law_cell" "_law_cell" (zL zbY) (zI zbY) (zw zbY) .none v37 e37 p37 n37 q37 t37),r37⟩) (c37:PySem.W.codeIn K q37 "_law_cell" = true) (k37:PySem.W.keepIn K (.ref f37)=true)
 (a38:PySem.W.nsIn K mainGlobals "_law_draw" = some (some (.ref f38))) (l38:K.lookup f38=some ⟨o38,d38,.func (PySem.W.fnOf "_law_draw" "_law_draw" (zL zb0) (zI zb0) (zw zb0) .none v38 e38 p38 n38 q38 t38),r38⟩) (c38:PySem.W.codeIn K q38 "_law_draw" = true) (k38:PySem.W.keepIn K (.ref f38)=true)
 (a39:PySem.W.nsIn K mainGlobals "_law_great" = some (some (.ref f39))) (l39:K.lookup f39=some ⟨o39,d39,.func (PySem.W.fnOf "_law_great" "_law_great" (zL zbG) (zI zbG) (zw zbG) .none v39 e39 p39 n39 q39 t39),r39⟩) (c39:PySem.W.codeIn K q39 "_law_great" = true) (k39:PySem.W.keepIn K (.ref f39)=true)
 (a40:PySem.W.nsIn K mainGlobals "_law_many" = some (some (.ref f40))) (l40:K.lookup f40=some ⟨o40,d40,.func (PySem.W.fnOf "_law_many" "_law_many" (zL zbO) (zI zbO) (zw zbO) .none v40 e40 p40 n40 q40 t40),r40⟩) (c40:PySem.W.codeIn K q40 "_law_many" = true) (k40:PySem.W.keepIn K (.ref f40)=true)
 (a41:PySem.W.nsIn K mainGlobals "_law_count" = some (some (.ref f41))) (l41:K.lookup f41=some ⟨o41,d41,.func (PySem.W.fnOf "_law_count" "_law_count" (zL zbC) (zI zbC) (zw zbC) .none v41 e41 p41 n41 q41 t41),r41⟩) (c41:PySem.W.codeIn K q41 "_law_count" = true) (k41:PySem.W.keepIn K (.ref f41)=true)
 (a42:PySem.W.nsIn K mainGlobals "_law_most" = some (some (.ref f42))) (l42:K.lookup f42=some ⟨o42,d42,.func (PySem.W.fnOf "_law_most" "_law_most" (zL zbV) (zI zbV) (zw zbV) .none v42 e42 p42 n42 q42 t42),r42⟩) (c42:PySem.W.codeIn K q42 "_law_most" = true) (k42:PySem.W.keepIn K (.ref f42)=true)
 (a43:PySem.W.nsIn K mainGlobals "_law_amount" = some (some (.ref f43))) (l43:K.lookup f43=some ⟨o43,d43,.func (PySem.W.fnOf "_law_amount" "_law_amount" (zL zbv) (zI zbv) (zw zbv) .none v43 e43 p43 n43 q43 t43),r43⟩) (c43:PySem.W.codeIn K q43 "_law_amount" = true) (k43:PySem.W.keepIn K (.ref f43)=true)
 (a44:PySem.W.nsIn K mainGlobals "_law_due" = some (some (.ref f44))) (l44:K.lookup f44=some ⟨o44,d44,.func (PySem.W.fnOf "_law_due" "_law_due" (zL zcf) (zI zcf) (zw zcf) .none v44 e44 p44 n44 q44 t44),r44⟩) (c44:PySem.W.codeIn K q44 "_law_due" = true) (k44:PySem.W.keepIn K (.ref f44)=true)
 (a45:PySem.W.nsIn K mainGlobals "_law_sheet" = some (some (.ref f45))) (l45:K.lookup f45=some ⟨o45,d45,.func (PySem.W.fnOf "_law_sheet" "_law_sheet" (zL zbI) (zI zbI) (zw zbI) .none v45 e45 p45 n45 q45 t45),r45⟩) (c45:PySem.W.codeIn K q45 "_law_sheet" = true) (k45:PySem.W.keepIn K (.ref f45)=true)
 (a46:PySem.W.nsIn K mainGlobals "_law_purse" = some (some (.ref f46))) (l46:K.lookup f46=some ⟨o46,d46,.func (PySem.W.fnOf "_law_purse" "_law_purse" (zL zbD) (zI zbD) (zw zbD) .none v46 e46 p46 n46 q46 t46),r46⟩) (c46:PySem.W.codeIn K q46 "_law_purse" = true) (k46:PySem.W.keepIn K (.ref f46)=true)
 (a47:PySem.W.nsIn K mainGlobals "_law_purses" = some (some (.ref f47))) (l47:K.lookup f47=some ⟨o47,d47,.func (PySem.W.fnOf "_law_purses" "_law_purses" (zL zbr) (zI zbr) (zw zbr) .none v47 e47 p47 n47 q47 t47),r47⟩) (c47:PySem.W.codeIn K q47 "_law_purses" = true) (k47:PySem.W.keepIn K (.ref f47)=true)
 (a48:PySem.W.nsIn K mainGlobals "_law_whole" = some (some (.ref f48))) (l48:K.lookup f48=some ⟨o48,d48,.func (PySem.W.fnOf "_law_whole" "_law_whole" (zL zbB) (zI zbB) (zw zbB) .none v48 e48 p48 n48 q48 t48),r48⟩) (c48:PySem.W.codeIn K q48 "_law_whole" = true) (k48:PySem.W.keepIn K (.ref f48)=true)
 (a49:PySem.W.nsIn K mainGlobals "_law_divisor" = some (some (.ref f49))) (l49:K.lookup f49=some ⟨o49,d49,.func (PySem.W.fnOf "_law_divisor" "_law_divisor" (zL zbe) (zI zbe) (zw zbe) .none v49 e49 p49 n49 q49 t49),r49⟩) (c49:PySem.W.codeIn K q49 "_law_divisor" = true) (k49:PySem.W.keepIn K (.ref f49)=true)
 (a50:PySem.W.nsIn K mainGlobals "_law_is_part" = some (some (.ref f50))) (l50:K.lookup f50=some ⟨o50,d50,.func (PySem.W.fnOf "_law_is_part" "_law_is_part" (zL zbg) (zI zbg) (zw zbg) .none v50 e50 p50 n50 q50 t50),r50⟩) (c50:PySem.W.codeIn K q50 "_law_is_part" = true) (k50:PySem.W.keepIn K (.ref f50)=true)
 (a51:PySem.W.nsIn K mainGlobals "_law_parts" = some (some (.ref f51))) (l51:K.lookup f51=some ⟨o51,d51,.func (PySem.W.fnOf "_law_parts" "_law_parts" (zL zbH) (zI zbH) (zw zbH) .none v51 e51 p51 n51 q51 t51),r51⟩) (c51:PySem.W.codeIn K q51 "_law_parts" = true) (k51:PySem.W.keepIn K (.ref f51)=true)
 (a52:PySem.W.nsIn K mainGlobals "_law_sums" = some (some (.ref f52))) (l52:K.lookup f52=some ⟨o52,d52,.func (PySem.W.fnOf "_law_sums" "_law_sums" (zL zbP) (zI zbP) (zw zbP) .none v52 e52 p52 n52 q52 t52),r52⟩) (c52:PySem.W.codeIn K q52 "_law_sums" = true) (k52:PySem.W.keepIn K (.ref f52)=true)
 (a53:PySem.W.nsIn K mainGlobals "_law_got" = some (some (.ref f53))) (l53:K.lookup f53=some ⟨o53,d53,.func (PySem.W.fnOf "_law_got" "_law_got" (zL zcj) (zI zcj) (zw zcj) .none v53 e53 p53 n53 q53 t53),r53⟩) (c53:PySem.W.codeIn K q53 "_law_got" = true) (k53:PySem.W.keepIn K (.ref f53)=true)
 (a54:PySem.W.nsIn K mainGlobals "_law_next" = some (some (.ref f54))) (l54:K.lookup f54=some ⟨o54,d54,.func (PySem.W.fnOf "_law_next" "_law_next" (zL zbQ) (zI zbQ) (zw zbQ) .none v54 e54 p54 n54 q54 t54),r54⟩) (c54:PySem.W.codeIn K q54 "_law_next" = true) (k54:PySem.W.keepIn K (.ref f54)=true)
 (a55:PySem.W.nsIn K mainGlobals "_law_same" = some (some (.ref f55))) (l55:K.lookup f55=some ⟨o55,d55,.func (PySem.W.fnOf "_law_same" "_law_same" (zL zbU) (zI zbU) (zw zbU) .none v55 e55 p55 n55 q55 t55),r55⟩) (c55:PySem.W.codeIn K q55 "_law_same" = true) (k55:PySem.W.keepIn K (.ref f55)=true)
 (a56:PySem.W.nsIn K mainGlobals "_law_stand" = some (some (.ref f56))) (l56:K.lookup f56=some ⟨o56,d56,.func (PySem.W.fnOf "_law_stand" "_law_stand" (zL zbF) (zI zbF) (zw zbF) .none v56 e56 p56 n56 q56 t56),r56⟩) (c56:PySem.W.codeIn K q56 "_law_stand" = true) (k56:PySem.W.keepIn K (.ref f56)=true)
 (a57:PySem.W.nsIn K mainGlobals "_law_leads" = some (some (.ref f57))) (l57:K.lookup f57=some ⟨o57,d57,.func (PySem.W.fnOf "_law_leads" "_law_leads" (zL zby) (zI zby) (zw zby) .none v57 e57 p57 n57 q57 t57),r57⟩) (c57:PySem.W.codeIn K q57 "_law_leads" = true) (k57:PySem.W.keepIn K (.ref f57)=true)
 (a58:PySem.W.nsIn K mainGlobals "_law_all_reach" = some (some (.ref f58))) (l58:K.lookup f58=some ⟨o58,d58,.func (PySem.W.fnOf "_law_all_reach" "_law_all_reach" (zL zaV) (zI zaV) (zw zaV) .none v58 e58 p58 n58 q58 t58),r58⟩) (c58:PySem.W.codeIn K q58 "_law_all_reach" = true) (k58:PySem.W.keepIn K (.ref f58)=true)
 (a59:PySem.W.nsIn K mainGlobals "_law_greatest" = some (some (.ref f59))) (l59:K.lookup f59=some ⟨o59,d59,.func (PySem.W.fnOf "_law_greatest" "_law_greatest" (zL za7) (zI za7) (zw za7) .none v59 e59 p59 n59 q59 t59),r59⟩) (c59:PySem.W.codeIn K q59 "_law_greatest" = true) (k59:PySem.W.keepIn K (.ref f59)=true)
 (a60:PySem.W.nsIn K mainGlobals "law" = some (some (.ref f60))) (l60:K.lookup f60=some ⟨o60,d60,.func (PySem.W.fnOf "law" "law" (zL zez) (zI zez) (zw zez) .none v60 e60 p60 n60 q60 t60),r60⟩) (c60:PySem.W.codeIn K q60 "law" = true) (k60:PySem.W.keepIn K (.ref f60)=true)
 (w_abs:PySem.W.nsIn K mainGlobals "abs" = some none)
 (w_all:PySem.W.nsIn K mainGlobals "all" = some none)
 (w_bool:PySem.W.nsIn K mainGlobals "bool" = some none)
 (w_enumerate:PySem.W.nsIn K mainGlobals "enumerate" = some none)
 (w_int:PySem.W.nsIn K mainGlobals "int" = some none)
 (w_isinstance:PySem.W.nsIn K mainGlobals "isinstance" = some none)
 (w_len:PySem.W.nsIn K mainGlobals "len" = some none)
 (w_list:PySem.W.nsIn K mainGlobals "list" = some none)
 (w_max:PySem.W.nsIn K mainGlobals "max" = some none)
 (w_min:PySem.W.nsIn K mainGlobals "min" = some none)
 (w_range:PySem.W.nsIn K mainGlobals "range" = some none)
 (w_sum:PySem.W.nsIn K mainGlobals "sum" = some none)
 (w_tuple:PySem.W.nsIn K mainGlobals "tuple" = some none)
 (w_zip:PySem.W.nsIn K mainGlobals "zip" = some none):Txt K mg:={
 c_NoAnswer:=c_NoAnswer,m_NoAnswer:=yi X G m_NoAnswer,
 c_NoPart:=c_NoPart,m_NoPart:=yi X G m_NoPart,
 e_NoAnswer:=zi9 x_NoAnswer ga_NoAnswer gn_NoAnswer be_NoAnswer hd_NoAnswer fa_NoAnswer sn_ tk_ mo_NoAnswer,
 i_NoAnswer_NoAnswer:=zju,
 i_NoAnswer_NoPart:=zmR n_NoAnswer_NoPart hd_NoPart ty_NoPart s_NoAnswer_NoPart,
 e_NoPart:=zi9 x_NoPart ga_NoPart gn_NoPart be_NoPart hd_NoPart fa_NoPart sn_ tk_ mo_NoPart,
 i_NoPart_NoAnswer:=zmR n_NoPart_NoAnswer hd_NoAnswer ty_NoAnswer s_NoPart_NoAnswer,
 i_NoPart_NoPart:=zju,
 d_divisor:={ a:=f0,fd:=_,F:=zC (st:=zcG) l0 c0 k0,b:=(zC (st:=zcG) l0 c0 k0).binds (ps:=["one", "other"]) fun _ _ _ _ _ _ us hl=>(by obtain⟨_,_,rfl⟩:=len2 hl;rfl),m:=yi X G a0 },
 d_part:={ a:=f1,fd:=_,F:=zC (st:=zd6) l1 c1 k1,b:=(zC (st:=zd6) l1 c1 k1).binds (ps:=["top", "bottom"]) fun _ _ _ _ _ _ us hl=>(by obtain⟨_,_,rfl⟩:=len2 hl;rfl),m:=yi X G a1 },
 d_plus:={ a:=f2,fd:=_,F:=zC (st:=zdW) l2 c2 k2,b:=(zC (st:=zdW) l2 c2 k2).binds (ps:=["one", "other"]) fun _ _ _ _ _ _ us hl=>(by obtain⟨_,_,rfl⟩:=len2 hl;rfl),m:=yi X G a2 },
 d_minus:={ a:=f3,fd:=_,F:=zC (st:=zdi) l3 c3 k3,b:=(zC (st:=zdi) l3 c3 k3).binds (ps:=["one", "other"]) fun _ _ _ _ _ _ us hl=>(by obtain⟨_,_,rfl⟩:=len2 hl;rfl),m:=yi X G a3 },
 d_times:={ a:=f4,fd:=_,F:=zC (st:=zdt) l4 c4 k4,b:=(zC (st:=zdt) l4 c4 k4).binds (ps:=["one", "other"]) fun _ _ _ _ _ _ us hl=>(by obtain⟨_,_,rfl⟩:=len2 hl;rfl),m:=yi X G a4 },
 d_over:={ a:=f5,fd:=_,F:=zC (st:=zdZ) l5 c5 k5,b:=(zC (st:=zdZ) l5 c5 k5).binds (ps:=["one", "other"]) fun _ _ _ _ _ _ us hl=>(by obtain⟨_,_,rfl⟩:=len2 hl;rfl),m:=yi X G a5 },
 d_under:={ a:=f6,fd:=_,F:=zC (st:=zdj) l6 c6 k6,b:=(zC (st:=zdj) l6 c6 k6).binds (ps:=["one", "other"]) fun _ _ _ _ _ _ us hl=>(by obtain⟨_,_,rfl⟩:=len2 hl;rfl),m:=yi X G a6 },
 d_least:={ a:=f7,fd:=_,F:=zC (st:=zdq) l7 c7 k7,b:=(zC (st:=zdq) l7 c7 k7).binds (ps:=["one", "other"]) fun _ _ _ _ _ _ us hl=>(by obtain⟨_,_,rfl⟩:=len2 hl;rfl),m:=yi X G a7 },
 d_total:={ a:=f8,fd:=_,F:=zC (st:=zdp) l8 c8 k8,b:=(zC (st:=zdp) l8 c8 k8).binds (ps:=["some"]) fun _ _ _ _ _ _ us hl=>(by obtain⟨_,rfl⟩:=len1 hl;rfl),m:=yi X G a8 },
 d_owes:={ a:=f9,fd:=_,F:=zC (st:=zd0) l9 c9 k9,b:=(zC (st:=zd0) l9 c9 k9).binds (ps:=["many", "sheet"]) fun _ _ _ _ _ _ us hl=>(by obtain⟨_,_,rfl⟩:=len2 hl;rfl),m:=yi X G a9 },
 d_ranked:={ a:=f10,fd:=_,F:=zC (st:=zcX) l10 c10 k10,b:=(zC (st:=zcX) l10 c10 k10).binds (ps:=["many", "sheet"]) fun _ _ _ _ _ _ us hl=>(by obtain⟨_,_,rfl⟩:=len2 hl;rfl),m:=yi X G a10 },
 d_paid:={ a:=f11,fd:=_,F:=zC (st:=zd9) l11 c11 k11,b:=(zC (st:=zd9) l11 c11 k11).binds (ps:=["sheet", "lays"]) fun _ _ _ _ _ _ us hl=>(by obtain⟨_,_,rfl⟩:=len2 hl;rfl),m:=yi X G a11 },
 d_shares_paid:={ a:=f12,fd:=_,F:=zC (st:=zbq) l12 c12 k12,b:=(zC (st:=zbq) l12 c12 k12).binds (ps:=["owed", "lay"]) fun _ _ _ _ _ _ us hl=>(by obtain⟨_,_,rfl⟩:=len2 hl;rfl),m:=yi X G a12 },
 d_stop_of:={ a:=f13,fd:=_,F:=zC (st:=zcB) l13 c13 k13,b:=(zC (st:=zcB) l13 c13 k13).binds (ps:=["owed", "lay"]) fun _ _ _ _ _ _ us hl=>(by obtain⟨_,_,rfl⟩:=len2 hl;rfl),m:=yi X G a13 },
 d_got:={ a:=f14,fd:=_,F:=zC (st:=zeF) l14 c14 k14,b:=(zC (st:=zeF) l14 c14 k14).binds (ps:=["sheet", "lays"]) fun _ _ _ _ _ _ us hl=>(by obtain⟨_,_,rfl⟩:=len2 hl;rfl),m:=yi X G a14 },
 d_is_clearing:={ a:=f15,fd:=_,F:=zC (st:=zbu) l15 c15 k15,b:=(zC (st:=zbu) l15 c15 k15).binds (ps:=["sheet", "purses", "lays"]) fun _ _ _ _ _ _ us hl=>(by obtain⟨_,_,_,rfl⟩:=len3 hl;rfl),m:=yi X G a15 },
 d_are_lays:={ a:=f16,fd:=_,F:=zC (st:=zcd) l16 c16 k16,b:=(zC (st:=zcd) l16 c16 k16).binds (ps:=["sheet", "lays"]) fun _ _ _ _ _ _ us hl=>(by obtain⟨_,_,rfl⟩:=len2 hl;rfl),m:=yi X G a16 },
 d_next_lays:={ a:=f17,fd:=_,F:=zC (st:=zbW) l17 c17 k17,b:=(zC (st:=zbW) l17 c17 k17).binds (ps:=["sheet", "purses", "lays"]) fun _ _ _ _ _ _ us hl=>(by obtain⟨_,_,_,rfl⟩:=len3 hl;rfl),m:=yi X G a17 },
 d_solved:={ a:=f18,fd:=_,F:=zC (st:=zcZ) l18 c18 k18,b:=(zC (st:=zcZ) l18 c18 k18).binds (ps:=["rows", "right"]) fun _ _ _ _ _ _ us hl=>(by obtain⟨_,_,rfl⟩:=len2 hl;rfl),m:=yi X G a18 },
 d_whole_row:={ a:=f19,fd:=_,F:=zC (st:=zbR) l19 c19 k19,b:=(zC (st:=zbR) l19 c19 k19).binds (ps:=["row"]) fun _ _ _ _ _ _ us hl=>(by obtain⟨_,rfl⟩:=len1 hl;rfl),m:=yi X G a19 },
 d_with_first:={ a:=f20,fd:=_,F:=zC (st:=zbE) l20 c20 k20,b:=(zC (st:=zbE) l20 c20 k20).binds (ps:=["table", "place"]) fun _ _ _ _ _ _ us hl=>(by obtain⟨_,_,rfl⟩:=len2 hl;rfl),m:=yi X G a20 },
 d_swept:={ a:=f21,fd:=_,F:=zC (st:=zdn) l21 c21 k21,b:=(zC (st:=zdn) l21 c21 k21).binds (ps:=["table", "place", "before"]) fun _ _ _ _ _ _ us hl=>(by obtain⟨_,_,_,rfl⟩:=len3 hl;rfl),m:=yi X G a21 },
 d_swept_row:={ a:=f22,fd:=_,F:=zC (st:=zbS) l22 c22 k22,b:=(zC (st:=zbS) l22 c22 k22).binds (ps:=["row", "sweeper", "place", "before"]) fun _ _ _ _ _ _ us hl=>(by obtain⟨_,_,_,_,rfl⟩:=len4 hl;rfl),m:=yi X G a22 },
 d_cleared:={ a:=f23,fd:=_,F:=zC (st:=zcz) l23 c23 k23,b:=(zC (st:=zcz) l23 c23 k23).binds (ps:=["sheet", "purses"]) fun _ _ _ _ _ _ us hl=>(by obtain⟨_,_,rfl⟩:=len2 hl;rfl),m:=yi X G a23 },
 d_flows_of:={ a:=f24,fd:=_,F:=zC (st:=zcc) l24 c24 k24,b:=(zC (st:=zcc) l24 c24 k24).binds (ps:=["sheet", "ranks"]) fun _ _ _ _ _ _ us hl=>(by obtain⟨_,_,rfl⟩:=len2 hl;rfl),m:=yi X G a24 },
 d_closed_circle:={ a:=f25,fd:=_,F:=zC (st:=za5) l25 c25 k25,b:=(zC (st:=za5) l25 c25 k25).binds (ps:=["flows", "ranks"]) fun _ _ _ _ _ _ us hl=>(by obtain⟨_,_,rfl⟩:=len2 hl;rfl),m:=yi X G a25 },
 d_reach_of:={ a:=f26,fd:=_,F:=zC (st:=zcl) l26 c26 k26,b:=(zC (st:=zcl) l26 c26 k26).binds (ps:=["flows", "member"]) fun _ _ _ _ _ _ us hl=>(by obtain⟨_,_,rfl⟩:=len2 hl;rfl),m:=yi X G a26 },
 d_balances:={ a:=f27,fd:=_,F:=zC (st:=zck) l27 c27 k27,b:=(zC (st:=zck) l27 c27 k27).binds (ps:=["flows", "members"]) fun _ _ _ _ _ _ us hl=>(by obtain⟨_,_,rfl⟩:=len2 hl;rfl),m:=yi X G a27 },
 d_circling_rates:={ a:=f28,fd:=_,F:=zC (st:=zaW) l28 c28 k28,b:=(zC (st:=zaW) l28 c28 k28).binds (ps:=["flows", "circle"]) fun _ _ _ _ _ _ us hl=>(by obtain⟨_,_,rfl⟩:=len2 hl;rfl),m:=yi X G a28 },
 d_opening_rates:={ a:=f29,fd:=_,F:=zC (st:=za8) l29 c29 k29,b:=(zC (st:=za8) l29 c29 k29).binds (ps:=["flows", "ranks", "purses"]) fun _ _ _ _ _ _ us hl=>(by obtain⟨_,_,_,rfl⟩:=len3 hl;rfl),m:=yi X G a29 },
 d_rates_of:={ a:=f30,fd:=_,F:=zC (st:=zcm) l30 c30 k30,b:=(zC (st:=zcm) l30 c30 k30).binds (ps:=["flows", "members", "shares"]) fun _ _ _ _ _ _ us hl=>(by obtain⟨_,_,_,rfl⟩:=len3 hl;rfl),m:=yi X G a30 },
 d_least_room:={ a:=f31,fd:=_,F:=zC (st:=zbA) l31 c31 k31,b:=(zC (st:=zbA) l31 c31 k31).binds (ps:=["owed", "ranks", "lays", "rates"]) fun _ _ _ _ _ _ us hl=>(by obtain⟨_,_,_,_,rfl⟩:=len4 hl;rfl),m:=yi X G a31 },
 d_grown:={ a:=f32,fd:=_,F:=zC (st:=zdo) l32 c32 k32,b:=(zC (st:=zdo) l32 c32 k32).binds (ps:=["lays", "rates", "step"]) fun _ _ _ _ _ _ us hl=>(by obtain⟨_,_,_,rfl⟩:=len3 hl;rfl),m:=yi X G a32 },
 d_stops:={ a:=f33,fd:=_,F:=zC (st:=zdk) l33 c33 k33,b:=(zC (st:=zdk) l33 c33 k33).binds (ps:=["sheet", "lays"]) fun _ _ _ _ _ _ us hl=>(by obtain⟨_,_,rfl⟩:=len2 hl;rfl),m:=yi X G a33 },
 d_roads:={ a:=f34,fd:=_,F:=zC (st:=zdl) l34 c34 k34,b:=(zC (st:=zdl) l34 c34 k34).binds (ps:=["sheet", "purses"]) fun _ _ _ _ _ _ us hl=>(by obtain⟨_,_,rfl⟩:=len2 hl;rfl),m:=yi X G a34 },
 d_first_dues:={ a:=f35,fd:=_,F:=zC (st:=zbz) l35 c35 k35,b:=(zC (st:=zbz) l35 c35 k35).binds (ps:=["sheet", "ranks"]) fun _ _ _ _ _ _ us hl=>(by obtain⟨_,_,rfl⟩:=len2 hl;rfl),m:=yi X G a35 },
 d_road_from:={ a:=f36,fd:=_,F:=zC (st:=zbZ) l36 c36 k36,b:=(zC (st:=zbZ) l36 c36 k36).binds (ps:=["sheet", "onward", "member"]) fun _ _ _ _ _ _ us hl=>(by obtain⟨_,_,_,rfl⟩:=len3 hl;rfl),m:=yi X G a36 },
 d__law_cell:={ a:=f37,fd:=_,F:=zC (st:=zbY) l37 c37 k37,b:=(zC (st:=zbY) l37 c37 k37).binds (ps:=["_law_script", "_law_k"]) fun _ _ _ _ _ _ us hl=>(by obtain⟨_,_,rfl⟩:=len2 hl;rfl),m:=yi X G a37 },
 d__law_draw:={ a:=f38,fd:=_,F:=zC (st:=zb0) l38 c38 k38,b:=(zC (st:=zb0) l38 c38 k38).binds (ps:=["_law_script", "_law_k", "_law_prime", "_law_many_here"]) fun _ _ _ _ _ _ us hl=>(by obtain⟨_,_,_,_,rfl⟩:=len4 hl;rfl),m:=yi X G a38 },
 d__law_great:={ a:=f39,fd:=_,F:=zC (st:=zbG) l39 c39 k39,b:=(zC (st:=zbG) l39 c39 k39).binds (ps:=["_law_script", "_law_k", "_law_most_here"]) fun _ _ _ _ _ _ us hl=>(by obtain⟨_,_,_,rfl⟩:=len3 hl;rfl),m:=yi X G a39 },
 d__law_many:={ a:=f40,fd:=_,F:=zC (st:=zbO) l40 c40 k40,b:=(zC (st:=zbO) l40 c40 k40).binds (ps:=["_law_script"]) fun _ _ _ _ _ _ us hl=>(by obtain⟨_,rfl⟩:=len1 hl;rfl),m:=yi X G a40 },
 d__law_count:={ a:=f41,fd:=_,F:=zC (st:=zbC) l41 c41 k41,b:=(zC (st:=zbC) l41 c41 k41).binds (ps:=["_law_script", "_law_many_here"]) fun _ _ _ _ _ _ us hl=>(by obtain⟨_,_,rfl⟩:=len2 hl;rfl),m:=yi X G a41 },
 d__law_most:={ a:=f42,fd:=_,F:=zC (st:=zbV) l42 c42 k42,b:=(zC (st:=zbV) l42 c42 k42).binds (ps:=["_law_script", "_law_many_here", "_law_count_here"]) fun _ _ _ _ _ _ us hl=>(by obtain⟨_,_,_,rfl⟩:=len3 hl;rfl),m:=yi X G a42 },
 d__law_amount:={ a:=f43,fd:=_,F:=zC (st:=zbv) l43 c43 k43,b:=(zC (st:=zbv) l43 c43 k43).binds (ps:=["_law_script", "_law_k", "_law_most_here"]) fun _ _ _ _ _ _ us hl=>(by obtain⟨_,_,_,rfl⟩:=len3 hl;rfl),m:=yi X G a43 },
 d__law_due:={ a:=f44,fd:=_,F:=zC (st:=zcf) l44 c44 k44,b:=(zC (st:=zcf) l44 c44 k44).binds (ps:=["_law_script", "_law_k", "_law_many_here", "_law_most_here"]) fun _ _ _ _ _ _ us hl=>(by obtain⟨_,_,_,_,rfl⟩:=len4 hl;rfl),m:=yi X G a44 },
 d__law_sheet:={ a:=f45,fd:=_,F:=zC (st:=zbI) l45 c45 k45,b:=(zC (st:=zbI) l45 c45 k45).binds (ps:=["_law_script", "_law_many_here", "_law_count_here", "_law_most_here"]) fun _ _ _ _ _ _ us hl=>(by obtain⟨_,_,_,_,rfl⟩:=len4 hl;rfl),m:=yi X G a45 },
 d__law_purse:={ a:=f46,fd:=_,F:=zC (st:=zbD) l46 c46 k46,b:=(zC (st:=zbD) l46 c46 k46).binds (ps:=["_law_script", "_law_k", "_law_way", "_law_most_here"]) fun _ _ _ _ _ _ us hl=>(by obtain⟨_,_,_,_,rfl⟩:=len4 hl;rfl),m:=yi X G a46 },
 d__law_purses:={ a:=f47,fd:=_,F:=zC (st:=zbr) l47 c47 k47,b:=(zC (st:=zbr) l47 c47 k47).binds (ps:=["_law_script", "_law_many_here", "_law_most_here"]) fun _ _ _ _ _ _ us hl=>(by obtain⟨_,_,_,rfl⟩:=len3 hl;rfl),m:=yi X G a47 },
 d__law_whole:={ a:=f48,fd:=_,F:=zC (st:=zbB) l48 c48 k48,b:=(zC (st:=zbB) l48 c48 k48).binds (ps:=["_law_thing"]) fun _ _ _ _ _ _ us hl=>(by obtain⟨_,rfl⟩:=len1 hl;rfl),m:=yi X G a48 },
 d__law_divisor:={ a:=f49,fd:=_,F:=zC (st:=zbe) l49 c49 k49,b:=(zC (st:=zbe) l49 c49 k49).binds (ps:=["_law_one", "_law_other"]) fun _ _ _ _ _ _ us hl=>(by obtain⟨_,_,rfl⟩:=len2 hl;rfl),m:=yi X G a49 },
 d__law_is_part:={ a:=f50,fd:=_,F:=zC (st:=zbg) l50 c50 k50,b:=(zC (st:=zbg) l50 c50 k50).binds (ps:=["_law_thing"]) fun _ _ _ _ _ _ us hl=>(by obtain⟨_,rfl⟩:=len1 hl;rfl),m:=yi X G a50 },
 d__law_parts:={ a:=f51,fd:=_,F:=zC (st:=zbH) l51 c51 k51,b:=(zC (st:=zbH) l51 c51 k51).binds (ps:=["_law_told", "_law_many_here"]) fun _ _ _ _ _ _ us hl=>(by obtain⟨_,_,rfl⟩:=len2 hl;rfl),m:=yi X G a51 },
 d__law_sums:={ a:=f52,fd:=_,F:=zC (st:=zbP) l52 c52 k52,b:=(zC (st:=zbP) l52 c52 k52).binds (ps:=["_law_sheet_here", "_law_many_here"]) fun _ _ _ _ _ _ us hl=>(by obtain⟨_,_,rfl⟩:=len2 hl;rfl),m:=yi X G a52 },
 d__law_got:={ a:=f53,fd:=_,F:=zC (st:=zcj) l53 c53 k53,b:=(zC (st:=zcj) l53 c53 k53).binds (ps:=["_law_sheet_here", "_law_lays"]) fun _ _ _ _ _ _ us hl=>(by obtain⟨_,_,rfl⟩:=len2 hl;rfl),m:=yi X G a53 },
 d__law_next:={ a:=f54,fd:=_,F:=zC (st:=zbQ) l54 c54 k54,b:=(zC (st:=zbQ) l54 c54 k54).binds (ps:=["_law_sheet_here", "_law_purses_here", "_law_lays"]) fun _ _ _ _ _ _ us hl=>(by obtain⟨_,_,_,rfl⟩:=len3 hl;rfl),m:=yi X G a54 },
 d__law_same:={ a:=f55,fd:=_,F:=zC (st:=zbU) l55 c55 k55,b:=(zC (st:=zbU) l55 c55 k55).binds (ps:=["_law_ones", "_law_others"]) fun _ _ _ _ _ _ us hl=>(by obtain⟨_,_,rfl⟩:=len2 hl;rfl),m:=yi X G a55 },
 d__law_stand:={ a:=f56,fd:=_,F:=zC (st:=zbF) l56 c56 k56,b:=(zC (st:=zbF) l56 c56 k56).binds (ps:=["_law_sheet_here", "_law_lays"]) fun _ _ _ _ _ _ us hl=>(by obtain⟨_,_,rfl⟩:=len2 hl;rfl),m:=yi X G a56 },
 d__law_leads:={ a:=f57,fd:=_,F:=zC (st:=zby) l57 c57 k57,b:=(zC (st:=zby) l57 c57 k57).binds (ps:=["_law_sheet_here", "_law_stand_here", "_law_first", "_law_road"]) fun _ _ _ _ _ _ us hl=>(by obtain⟨_,_,_,_,rfl⟩:=len4 hl;rfl),m:=yi X G a57 },
 d__law_all_reach:={ a:=f58,fd:=_,F:=zC (st:=zaV) l58 c58 k58,b:=(zC (st:=zaV) l58 c58 k58).binds (ps:=["_law_sheet_here", "_law_stand_here"]) fun _ _ _ _ _ _ us hl=>(by obtain⟨_,_,rfl⟩:=len2 hl;rfl),m:=yi X G a58 },
 d__law_greatest:={ a:=f59,fd:=_,F:=zC (st:=za7) l59 c59 k59,b:=(zC (st:=za7) l59 c59 k59).binds (ps:=["_law_sheet_here", "_law_purses_here", "_law_lays"]) fun _ _ _ _ _ _ us hl=>(by obtain⟨_,_,_,rfl⟩:=len3 hl;rfl),m:=yi X G a59 },
 d_law:={ a:=f60,fd:=_,F:=zC (st:=zez) l60 c60 k60,b:=(zC (st:=zez) l60 c60 k60).binds (ps:=["_law_script"]) fun _ _ _ _ _ _ us hl=>(by obtain⟨_,rfl⟩:=len1 hl;rfl),m:=yi X G a60 },
 bl_law:=fun s v=>.of_eq rfl,
 z_abs:=yV X G w_abs,
 z_all:=yV X G w_all,
 z_bool:=yV X G w_bool,
 z_enumerate:=yV X G w_enumerate,
 z_int:=yV X G w_int,
 z_isinstance:=yV X G w_isinstance,
 z_len:=yV X G w_len,
 z_list:=yV X G w_list,
 z_max:=yV X G w_max,
 z_min:=yV X G w_min,
 z_range:=yV X G w_range,
 z_sum:=yV X G w_sum,
 z_tuple:=yV X G w_tuple,
 z_zip:=yV X G w_zip }
abbrev sZ:Nat:=60
abbrev sB:Nat:=1
section
variable {P:Program}{w:World}{K:Fg}{mg:Str->Option Value}{base:Heap}
theorem zcN(T:Txt K mg):FnOk P w K mg base (CXF P w) 1 T.d_divisor.a T.d_divisor.fd ["one", "other"] zoE:=by
 refine T.d_divisor.F.okN sc_divisor (fun vs H Q E h=>?_) (fun cdv A outer s H vs Q E hr h=>?_)
 ·obtain⟨a,b,rfl,_⟩:=h;rfl
 obtain⟨a,b,rfl,q⟩:=h
 refine⟨_,(zj (zE (i:=2) sc_divisor.nd rfl (Or.inl rfl) (zR ze5 rfl T.z_abs BT.abs (ze (pv 0) zh)))
 (zj (zE (i:=3) sc_divisor.nd rfl (Or.inl rfl) (zR ze5 rfl T.z_abs BT.abs (ze (pv 1) zh)))
 (zj (zdX PassesOwn.never (zK (show OpR _ (compareOp .NotEq) (zcx K)from zcF hr.units) (pv 3) zi (nomark _))
 (zj (zE (i:=4) sc_divisor.nd rfl (Or.inl rfl) (zJ zcM (pv 2) (pv 3)))
 (zj (zE (i:=2) sc_divisor.nd rfl (Or.inl rfl) (pv 3))
 (zm (zE (i:=3) sc_divisor.nd rfl (Or.inl rfl) (pv 4))))))
 (zm (zH (pv 2)))))),?_⟩
 refine zN (σ0:=[some (.int a),some (.int b),none,none,none]) rfl ?_
 walk_at "x"
 refine⟨fun m σ H'=>∃k r f,σ=[some (.int a),some (.int b),some (.int k),some (.int r),f]/\H'=H/\0<=k/\0<=r/\My.gc k r=My.gc a b/\m=r.toNat,⟨_,_,_,_,rfl,rfl,zjv a,zjv b,My.gc_abs a b,rfl⟩,?_⟩
 rintro m σ H' ⟨k,r,f,rfl,rfl,hk,hr0,hg,rfl⟩
 walk_at "x"
 ·rename_i hne
  refine⟨fun σ' H''=>σ'=[some (.int a),some (.int b),some (.int r),some (.int (k%r)),some (.int (k%r))]/\H''=H',?_,?_⟩
  ·rintro σ' H'' ⟨rfl,rfl⟩
   have h1:=ybe k (b:=r) (by omega)
   have h2:=yaV k (b:=r) (by omega)
   exact⟨_,by omega,_,_,_,rfl,rfl,hr0,h1,by rw[My.gc_step];exact hg,rfl⟩
  ·walk_at "x"
   exact⟨rfl,rfl⟩
 ·rename_i he
  rw[he,My.gc_zero_right hk]at hg
  rw[hg];exact q
theorem zes(T:Txt K mg):FnOk P w K mg base (CXF P w) 2 T.d_plus.a T.d_plus.fd ["one", "other"] zjE:=by
 refine T.d_plus.F.okN sc_plus (fun vs H Q E h=>?_) (fun cdv A outer s H vs Q E hr h=>?_)
 ·obtain⟨a,b,q,r,rfl,_⟩:=h;rfl
 obtain⟨a,b,q,r,rfl,h1,h2,s1,s2,k⟩:=h
 refine⟨_,(zj (zE (i:=2) sc_plus.nd rfl (Or.inl rfl) (zA (zcN T) (hr.mono (by decide)) rfl T.d_divisor.m T.d_divisor.F.kp T.d_divisor.b .nil (zG zF) (ze (zB (show IxR _ (rIx K)from zy) (pv 0) zi (fun _ _=>rfl)) (ze (zB (show IxR _ (rIx K)from zy) (pv 1) zi (fun _ _=>rfl)) zh))))
 (zj (zE (i:=3) sc_plus.nd rfl (Or.inl rfl) (zJ (show OpR _ (binaryOp .Add) (zaE K)from zah) (zJ zZ (zB (show IxR _ (rIx K)from zy) (pv 0) zi (fun _ _=>rfl)) (zJ za9 (zB (show IxR _ (rIx K)from zy) (pv 1) zi (fun _ _=>rfl)) (pv 2))) (zJ zZ (zB (show IxR _ (rIx K)from zy) (pv 1) zi (fun _ _=>rfl)) (zJ za9 (zB (show IxR _ (rIx K)from zy) (pv 0) zi (fun _ _=>rfl)) (pv 2)))))
 (zj (zE (i:=4) sc_plus.nd rfl (Or.inl rfl) (zA (zcN T) (hr.mono (by decide)) rfl T.d_divisor.m T.d_divisor.F.kp T.d_divisor.b .nil (zG zF) (ze (pv 3) (ze (pv 2) zh))))
 (zm (zH (zad (ze (zJ za9 (pv 3) (pv 4)) (ze (zJ zZ (zJ za9 (zB (show IxR _ (rIx K)from zy) (pv 0) zi (fun _ _=>rfl)) (pv 2)) (zJ za9 (zB (show IxR _ (rIx K)from zy) (pv 1) zi (fun _ _=>rfl)) (pv 4))) zh)))))))),?_⟩
 refine zN (σ0:=[some (.ref a),some (.ref b),none,none,none]) rfl ?_
 have hg:0<My.gc (q.den:Int) (r.den:Int):=My.gc_pos_right (yas (zap r))
 have zg:sz (My.gc (q.den:Int) (r.den:Int))<=9000:=yc (zct (yas (zap r)) s2.2) (by decide)
 have m1:CMulS q.num ((r.den:Int)/My.gc (q.den:Int) (r.den:Int)):=CMulS.of s1.1 (yc (zcp _ _) s2.2) (by decide)
 have m2:CMulS r.num ((q.den:Int)/My.gc (q.den:Int) (r.den:Int)):=CMulS.of s2.1 (yc (zcp _ _) s1.2) (by decide)
 have hc:0<My.gc (q.num*((r.den:Int)/My.gc (q.den:Int) (r.den:Int))+r.num*((q.den:Int)/My.gc (q.den:Int) (r.den:Int))) (My.gc (q.den:Int) (r.den:Int)):=My.gc_pos_right (yas hg)
 have zc:sz (My.gc (q.num*((r.den:Int)/My.gc (q.den:Int) (r.den:Int))+r.num*((q.den:Int)/My.gc (q.den:Int) (r.den:Int))) (My.gc (q.den:Int) (r.den:Int)))<=9000:=zct (yas hg) zg
 have m3:CMulS ((q.den:Int)/My.gc (q.den:Int) (r.den:Int)) ((r.den:Int)/My.gc (q.num*((r.den:Int)/My.gc (q.den:Int) (r.den:Int))+r.num*((q.den:Int)/My.gc (q.den:Int) (r.den:Int))) (My.gc (q.den:Int) (r.den:Int))):=CMulS.of (yc (zcp _ _) s1.2) (yc (zcp _ _) s2.2) (by decide)
 walk_at "x"
 exact NewQ.mk k (zla q r)
theorem zgs(T:Txt K mg):FnOk P w K mg base (CXF P w) 3 T.d_minus.a T.d_minus.fd ["one", "other"] zhc:=by
 refine T.d_minus.F.okN znZ (fun vs H Q E h=>?_) (fun cdv A outer s H vs Q E hr h=>?_)
 ·obtain⟨a,b,q,r,rfl,_⟩:=h;rfl
 obtain⟨a,b,q,r,rfl,h1,h2,s1,s2,k⟩:=h
 refine⟨_,(zm (zH (zA (zes T) (hr.mono (by decide)) rfl T.d_plus.m T.d_plus.F.kp T.d_plus.b .nil (zG zF) (ze (pv 0) (ze (zad (ze (zew zd7 (zB (show IxR _ (rIx K)from zy) (pv 1) zi (fun _ _=>rfl))) (ze (zB (show IxR _ (rIx K)from zy) (pv 1) zi (fun _ _=>rfl)) zh))) zh))))),?_⟩
 refine zN (σ0:=[some (.ref a),some (.ref b)]) rfl ?_
 have s3:OkQ (-r):=SzQ.neg s2
 walk_at "x"
 refine zay (q:=-r) (zj1 r) ?_
 walk_at "x"
 rename_i p1 H1 e1 i1
 rw[<- ybE]at i1
 exact k _ _ (by walk_at "h") i1
theorem zdV(T:Txt K mg):FnOk P w K mg base (CXF P w) 2 T.d_times.a T.d_times.fd ["one", "other"] zhd:=by
 refine T.d_times.F.okN sc_times (fun vs H Q E h=>?_) (fun cdv A outer s H vs Q E hr h=>?_)
 ·obtain⟨a,b,q,r,rfl,_⟩:=h;rfl
 obtain⟨a,b,q,r,rfl,h1,h2,s1,s2,k⟩:=h
 refine⟨_,(zj (zE (i:=2) sc_times.nd rfl (Or.inl rfl) (zA (zcN T) (hr.mono (by decide)) rfl T.d_divisor.m T.d_divisor.F.kp T.d_divisor.b .nil (zG zF) (ze (zB (show IxR _ (rIx K)from zy) (pv 0) zi (fun _ _=>rfl)) (ze (zB (show IxR _ (rIx K)from zy) (pv 1) zi (fun _ _=>rfl)) zh))))
 (zj (zE (i:=3) sc_times.nd rfl (Or.inl rfl) (zA (zcN T) (hr.mono (by decide)) rfl T.d_divisor.m T.d_divisor.F.kp T.d_divisor.b .nil (zG zF) (ze (zB (show IxR _ (rIx K)from zy) (pv 1) zi (fun _ _=>rfl)) (ze (zB (show IxR _ (rIx K)from zy) (pv 0) zi (fun _ _=>rfl)) zh))))
 (zj (zE (i:=4) sc_times.nd rfl (Or.inl rfl) (zJ zZ (zJ za9 (zB (show IxR _ (rIx K)from zy) (pv 0) zi (fun _ _=>rfl)) (pv 2)) (zJ za9 (zB (show IxR _ (rIx K)from zy) (pv 1) zi (fun _ _=>rfl)) (pv 3))))
 (zj (zE (i:=5) sc_times.nd rfl (Or.inl rfl) (zJ zZ (zJ za9 (zB (show IxR _ (rIx K)from zy) (pv 0) zi (fun _ _=>rfl)) (pv 3)) (zJ za9 (zB (show IxR _ (rIx K)from zy) (pv 1) zi (fun _ _=>rfl)) (pv 2))))
 (zm (zH (zad (ze (pv 4) (ze (pv 5) zh))))))))),?_⟩
 refine zN (σ0:=[some (.ref a),some (.ref b),none,none,none,none]) rfl ?_
 have hg:0<My.gc q.num (r.den:Int):=My.gc_pos_right (yas (zap r))
 have zg:sz (My.gc q.num (r.den:Int))<=9000:=yc (zct (yas (zap r)) s2.2) (by decide)
 have hc:0<My.gc r.num (q.den:Int):=My.gc_pos_right (yas (zap q))
 have zc:sz (My.gc r.num (q.den:Int))<=9000:=yc (zct (yas (zap q)) s1.2) (by decide)
 have m1:CMulS (q.num/My.gc q.num (r.den:Int)) (r.num/My.gc r.num (q.den:Int)):=CMulS.of (yc (zcp _ _) s1.1) (yc (zcp _ _) s2.1) (by decide)
 have m2:CMulS ((q.den:Int)/My.gc r.num (q.den:Int)) ((r.den:Int)/My.gc q.num (r.den:Int)):=CMulS.of (yc (zcp _ _) s1.2) (yc (zcp _ _) s2.2) (by decide)
 walk_at "x"
 exact NewQ.mk k (zka q r)
theorem zkx(T:Txt K mg):FnOk P w K mg base (CXF P w) 3 T.d_over.a T.d_over.fd ["one", "other"] zg1:=by
 refine T.d_over.F.okN zpD (fun vs H Q E h=>?_) (fun cdv A outer s H vs Q E hr h=>?_)
 ·obtain⟨a,b,q,r,rfl,_⟩:=h;rfl
 obtain⟨a,b,q,r,rfl,h1,h2,s1,s2,h3,k⟩:=h
 refine⟨_,(zj (zX (zK (show OpR _ (compareOp .Eq) (zaN K)from zaF hr.units) (zB (show IxR _ (rIx K)from zy) (pv 1) zi (fun _ _=>rfl)) zi (nomark _))
 (zm zfZ)
 zT)
 (zj (zX (zK zcy (zB (show IxR _ (rIx K)from zy) (pv 1) zi (fun _ _=>rfl)) zi (nomark _))
 (zm (zH (zA (zdV T) (hr.mono (by decide)) rfl T.d_times.m T.d_times.F.kp T.d_times.b .nil (zG zF) (ze (pv 0) (ze (zad (ze (zew zd7 (zB (show IxR _ (rIx K)from zy) (pv 1) zi (fun _ _=>rfl))) (ze (zew zd7 (zB (show IxR _ (rIx K)from zy) (pv 1) zi (fun _ _=>rfl))) zh))) zh)))))
 zT)
 (zm (zH (zA (zdV T) (hr.mono (by decide)) rfl T.d_times.m T.d_times.F.kp T.d_times.b .nil (zG zF) (ze (pv 0) (ze (zad (ze (zB (show IxR _ (rIx K)from zy) (pv 1) zi (fun _ _=>rfl)) (ze (zB (show IxR _ (rIx K)from zy) (pv 1) zi (fun _ _=>rfl)) zh))) zh))))))),?_⟩
 refine zN (σ0:=[some (.ref a),some (.ref b)]) rfl ?_
 rw[ybx]at k
 have s3:OkQ r⁻¹:=(s2.inv h3).mono (by decide) (by decide)
 walk_at "x"
 all_goals first | (exfalso;contradiction) | skip
 ·rename_i hn
  refine zay (q:=r⁻¹) (zpT hn) ?_
  walk_at "x"
  exact k _ _ (by walk_at "h") (by walk_at "h")
 ·rename_i hn
  refine zay (q:=r⁻¹) (inv_pos (by omega)) ?_
  walk_at "x"
  exact k _ _ (by walk_at "h") (by walk_at "h")
theorem zeV(T:Txt K mg):FnOk P w K mg base (CXF P w) 1 T.d_under.a T.d_under.fd ["one", "other"] (zhs 60000):=by
 refine T.d_under.F.okN zny (fun vs H Q E h=>?_) (fun cdv A outer s H vs Q E hr h=>?_)
 ·obtain⟨a,b,q,r,rfl,_⟩:=h;rfl
 obtain⟨a,b,q,r,rfl,h1,h2,s1,s2,k⟩:=h
 refine⟨_,(zm (zH (zcO zcy (zJ zZ (zB (show IxR _ (rIx K)from zy) (pv 0) zi (fun _ _=>rfl)) (zB (show IxR _ (rIx K)from zy) (pv 1) zi (fun _ _=>rfl))) (zJ zZ (zB (show IxR _ (rIx K)from zy) (pv 1) zi (fun _ _=>rfl)) (zB (show IxR _ (rIx K)from zy) (pv 0) zi (fun _ _=>rfl))) (nomark _)))),?_⟩
 refine zN (σ0:=[some (.ref a),some (.ref b)]) rfl ?_
 have e:decide (q<r)=decide (q.num*(r.den:Int)<r.num*(q.den:Int)):=decide_eq_decide.mpr (Rat.lt_iff q r)
 rw[e]at k
 walk_at "x"
 refine zk1 (CMulS.of s1.1 s2.2 (by decide)) ?_
 walk_at "x"
 refine zk1 (CMulS.of s2.1 s1.2 (by decide)) ?_
 walk_at "x"
 exact k
theorem zeS(T:Txt K mg):FnOk P w K mg base (CXF P w) 2 T.d_least.a T.d_least.fd ["one", "other"] (zfR 60000):=by
 refine T.d_least.F.okN zok (fun vs H Q E h=>?_) (fun cdv A outer s H vs Q E hr h=>?_)
 ·obtain⟨a,b,q,r,rfl,_⟩:=h;rfl
 obtain⟨a,b,q,r,rfl,h1,h2,s1,s2,k⟩:=h
 refine⟨_,(zj (zX (show PT _ _ (zbL K _)from zaj (zA (zeV T) (hr.mono (by decide)) rfl T.d_under.m T.d_under.F.kp T.d_under.b .nil (zG zF) (ze (pv 1) (ze (pv 0) zh))) (fun _=>rfl))
 (zm (zH (pv 1)))
 zT)
 (zm (zH (pv 0)))),?_⟩
 refine zN (σ0:=[some (.ref a),some (.ref b)]) rfl ?_
 walk_at "x"
 ·rename_i h;rw[if_pos h]at k;exact k
 ·rename_i h;rw[if_neg h]at k;exact k
theorem zoV(T:Txt K mg):FnOk P w K mg base (CXF P w) 2 T.d_part.a T.d_part.fd ["top", "bottom"] zjQ:=by
 refine T.d_part.F.okN sc_part (fun vs H Q E h=>?_) (fun cdv A outer s H vs Q E hr h=>?_)
 ·obtain⟨t,b,rfl,_⟩:=h;rfl
 obtain⟨t,b,rfl,hb0,hs,k⟩:=h
 refine⟨_,(zj (zX (zK (show OpR _ (compareOp .Eq) (zaN K)from zaF hr.units) (pv 1) zi (nomark _))
 (zm zfZ)
 zT)
 (zj (zE (i:=2) sc_part.nd rfl (Or.inl rfl) (zA (zcN T) (hr.mono (by decide)) rfl T.d_divisor.m T.d_divisor.F.kp T.d_divisor.b .nil (zG zF) (ze (pv 0) (ze (pv 1) zh))))
 (zfD (zX (zK zcy (pv 1) zi (nomark _))
 (zm (zE (i:=2) sc_part.nd rfl (Or.inl rfl) (zew zd7 (pv 2))))
 zT)
 (zm (zH (zad (ze (zJ za9 (pv 0) (pv 2)) (ze (zJ za9 (pv 1) (pv 2)) zh)))))))),?_⟩
 refine zN (σ0:=[some (.int t),some (.int b),none]) rfl ?_
 walk_at "x"
 ·have h0:=hb0
  have hg:0<My.gc t b:=My.gc_pos_right h0
  have hz:sz (My.gc t b)<=9000:=yc (zct h0 hs) (by decide)
  refine ziH 2 (fun v H'=>H'=H/\((b<0/\v=.int (-My.gc t b))\/(0<b/\v=.int (My.gc t b)))) ?_ ?_
  ·walk_at "x"
   ·rename_i h2;exact⟨_,rfl,rfl,.inl ⟨h2,rfl⟩⟩
   ·rename_i h2;exact⟨_,rfl,rfl,.inr ⟨by omega,rfl⟩⟩
  rintro v H' ⟨rfl,h2⟩
  rcases h2 with⟨hn,rfl⟩ | ⟨hp,rfl⟩
  ·have zn:sz (-My.gc t b)<=9000:=yc (ze8 _) hz
   walk_at "x"
   refine zja (by omega) zn ?_
   walk_at "x"
   refine zja (by omega) zn ?_
   walk_at "x"
   exact NewQ.mk k (My.part_neg hn)
  ·walk_at "x"
   exact NewQ.mk k (My.part_pos hp)
theorem zjr(T:Txt K mg):FnOk P w K mg base (CXF P w) 2 T.d_whole_row.a T.d_whole_row.fd ["row"] (zgC K sZ sB):=by
 refine T.d_whole_row.F.okN sc_whole_row (fun vs H Q E h=>?_) (fun cdv A outer s H vs Q E hr h=>?_)
 ·obtain⟨a,ws,qs,rfl,_⟩:=h;rfl
 obtain⟨a,ws,qs,rfl,ha,hq,hl,hz,h1,h2,h3,k⟩:=h
 have hwl:=hq.length
 have p8:∀i:Nat,i<=20->i*sB<=8000:=fun i hi=>yc (Nat.mul_le_mul_right _ hi) h1
 refine⟨_,(zj (zE (i:=1) sc_whole_row.nd rfl (Or.inr rfl) zi)
 (zj (zau PassesOwn.never rfl (show PI _ _ _ (zaG K _)from zai (pv 0)) (show PG _ _ (zbx K 2 _)from zaU (n:=2) rfl (zQ (zU (i:=2) sc_whole_row.nd rfl (Or.inl rfl)) (zQ (zU (i:=3) sc_whole_row.nd rfl (Or.inl rfl)) zaH)))
 (zm (zE (i:=1) sc_whole_row.nd rfl (Or.inr rfl) (zJ zZ (zJ za9 (pv 1) (zA (zcN T) (hr.mono (by decide)) rfl T.d_divisor.m T.d_divisor.F.kp T.d_divisor.b .nil (zG zF) (ze (pv 1) (ze (pv 3) zh)))) (pv 3)))))
 (zm (zH (za0 rfl (show PI _ _ _ (zaG K _)from zai (pv 0)) (zP (Ni:=["top", "bottom", "common"]) (caps:=[none,none,some 1]) (by rfl)) (fun S _ _ _ _ _=>(show PG _ _ (zbx K 2 _)from zaU (n:=2) rfl (zQ (zS (gi:=0) S (Or.inl rfl) rfl) (zQ (zS (gi:=1) S (Or.inl rfl) rfl) zaH)))) (fun _ _ _ _ _=>zal) (fun _ _ _ _ _=>(zJ zZ (pv 0) (zJ za9 (pv 2) (pv 1))))))))),?_⟩
 refine zN (σ0:=[some (.ref a),none,none,none]) rfl ?_
 walk_at "x"
 refine zco (xs:=ws) (fun i σ' H'=>∃(c:Int) (f2 f3:Option V),σ'=[some (.ref a),some (.int c),f2,f3]/\0<c/\c<=((2 ^ (i*sB):Nat):Int)/\(∀j q,j<i->qs[j]?=some q->(q.den:Int)∣c)/\H'=H) ⟨1,_,_,rfl,by decide,by rw[Nat.zero_mul];decide,fun j q hj _=>by omega,rfl⟩ ?_ ?_ ?_
 ·rintro i σ' H' _ ⟨c,f2,f3,rfl,_,_,_,rfl⟩;exact SqL.of ha
 ·rintro i x σ' H' hx ⟨c,f2,f3,rfl,c0,c1,hc,rfl⟩
  obtain⟨b,q,rfl,hqi,hb⟩:=hq.get hx
  have hb':H' b=some (.tup [.int q.num,.int (q.den:Int)]):=hb
  have hi:i<qs.length:=(yk.mp hqi).1
  have hzq:=hz q (ya hqi)
  have db:=zap q
  have ls:=zor c0 db
  have hg:0<My.gc c (q.den:Int):=My.gc_pos_right (by omega)
  have zd:sz (q.den:Int)<=8999:=yc hzq.2 (by have:=p8 1 (by omega);omega)
  have zg:sz (My.gc c (q.den:Int))<=9000:=yc (zct (by omega) zd) (by decide)
  have zc:sz c<=8001:=zas (by
   have hp:2 ^ (i*sB)<=2 ^ 8000:=yaO (by decide) (p8 i (by omega))
   have h2:(2:Nat) ^ 8001=2 ^ 8000*2:=ybr ..
   have h0:0<(2:Nat) ^ 8000:=ybd _
   rw[h2]
   generalize (2:Nat) ^ 8000=B at *
   omega)
  have m1:CMulS (c/My.gc c (q.den:Int)) (q.den:Int):=CMulS.of (yc (zcp _ _) zc) zd (by decide)
  walk_at "x"
  refine⟨_,_,_,rfl,ls.1,?_,?_,rfl⟩
  ·have hd:(q.den:Int)<=((2 ^ sB:Nat):Int):=by
    have:=sz_le.mp hzq.2
    omega
   have h5:c*(q.den:Int)<=((2 ^ (i*sB):Nat):Int)*((2 ^ sB:Nat):Int):=Int.mul_le_mul c1 hd (by omega) (by exact_mod_cast yF _)
   rw[Nat.succ_mul,ya0]
   push_cast at h5 ⊢
   exact Int.le_trans ls.2.2.2 h5
  ·intro j r hj hr
   rcases yI (yQ hj)with h | h
   ·exact Int.dvd_trans (hc j r h hr) ls.2.1
   ·subst h;rw[hqi]at hr;cases hr;exact ls.2.2.1
 ·rintro σ' H' ⟨c,f2,f3,rfl,c0,c1,hc,rfl⟩
  rw[hwl]at c1 hc
  obtain⟨F,hF⟩:∃F:Nat->Int,F=fun j=>(qs.getD j 0).num*(c/((qs.getD j 0).den:Int)):=⟨_,rfl⟩
  have zc:sz c<=8001:=zas (by
   have hp:2 ^ (qs.length*sB)<=2 ^ 8000:=yaO (by decide) (p8 _ hl)
   have h2:(2:Nat) ^ 8001=2 ^ 8000*2:=ybr ..
   have h0:0<(2:Nat) ^ 8000:=ybd _
   rw[h2]
   generalize (2:Nat) ^ 8000=B at *
   omega)
  walk_at "x"
  refine zbT (zaP (K:=K) (a:=a) (xs:=ws)) (fun H2 e=>SqL.of (e.at ha)) rfl (fun i vs H2=>vs=(vec i F).map V.int) (fun H2 _=>rfl) ?_ ?_
  ·rintro i x D vs o o' H1 H2 hi hD e1 hv hvl rfl e2 hx
   obtain⟨b,q,rfl,hqi,hb⟩:=(hq.same (e1.trans e2)).get hx
   have hb':H2 b=some (.tup [.int q.num,.int (q.den:Int)]):=hb
   have hzq:=hz q (ya hqi)
   have db:=zap q
   have zd:sz (q.den:Int)<=9000:=yc hzq.2 (by have:=p8 1 (by omega);omega)
   have m1:CMulS q.num (c/(q.den:Int)):=CMulS.of hzq.1 (yc (zcp _ _) zc) (by omega)
   walk_at "x"
   rename_i H3 b3 h3'
   refine⟨⟨_,_,rfl⟩,by walk_at "h",_,h3',by rw[yb];exact yp hvl,?_⟩
   show(vec i F).map V.int++_=(vec (i+1) F).map V.int
   rw[zgr,yl,hF]
   have:qs.getD i 0=q:=by rw[ye,hqi];rfl
   dsimp only
   rw[this];rfl
  ·rintro D H2 vs hD e hv hvl rfl
   refine k D H2 F c hD e c0 (fun j q hj=>?_) (by rw[hwl]at hv;exact hv)
   have hjl:j<qs.length:=(yk.mp hj).1
   have hzq:=hz q (ya hj)
   have:qs.getD j 0=q:=by rw[ye,hj];rfl
   have db:=zap q
   rw[hF]
   dsimp only
   rw[this]
   obtain⟨u,hu⟩:=hc j q hjl hj
   have ed:c/(q.den:Int)=u:=by rw[hu];exact yad _ (by omega)
   have u0:0<u:=by
    rcases ya6 0 u with h | h
    ·exact h
    ·have:=yal (yay db) h;omega
   have uc:u<=c:=by
    have h1:1*u<=(q.den:Int)*u:=yaY (by omega) (by omega)
    omega
   rw[ed]
   refine⟨?_,?_⟩
   ·rw[hu,yu,yu]
    have e1:((q.num:Int):Rat)/(((q.den:Nat):Int):Rat)=q:=by rw[<- ya4];exact ybh q
    have hne:(((q.den:Nat):Int):Rat)≠0:=fun z=>by
     have:((q.den:Nat):Int)=0:=by exact_mod_cast z
     omega
    have e2:((q.num:Int):Rat)=q*(((q.den:Nat):Int):Rat):=by
     have:=ybD (a:=((q.num:Int):Rat)) hne
     rw[e1]at this;exact this.symm
    rw[e2]
    grind
   ·refine zas ?_
    rw[ybv,ya0]
    have a1:=sz_le.mp hzq.1
    have a2:u.natAbs<=2 ^ (qs.length*sB):=by omega
    exact yab (yar _ a2) (Nat.mul_lt_mul_of_pos_right a1 (ybd _))
theorem zij(T:Txt K mg):FnOk P w K mg base (CXF P w) 1 T.d_with_first.a T.d_with_first.fd ["table", "place"] (zfd K):=by
 refine T.d_with_first.F.okN sc_with_first (fun vs H Q E h=>?_) (fun cdv A outer s H vs Q E hr h=>?_)
 ·obtain⟨a,as,w,M,k,rfl,_⟩:=h;rfl
 obtain⟨a,as,w,M,k,rfl,ha,hR,k0,k1,k2,hl,⟨iN,iN1,iN2,iN3⟩,q1⟩:=h
 have hml:(as.map V.ref).length=as.length:=yh ..
 obtain⟨b1,hb1⟩:=zO (show k.toNat<as.length by omega)
 have hat1:atI (as.map V.ref) k=some (.ref b1):=zaB k0 (by rw[yf,hb1];rfl)
 refine⟨_,(zj (zau PassesOwn.never rfl (zl0 rfl T.z_range (ze (pv 1) (ze (zR (show CallR _ _ (zaO K)from zW) rfl T.z_len BT.len (ze (pv 0) zh)) zh))) (zU (i:=2) sc_with_first.nd rfl (Or.inl rfl))
 (zm (zX (zK (show OpR _ (compareOp .NotEq) (zcx K)from zcF hr.units) (zB (show IxR _ (rIx K)from zy) (zB (show IxR _ (rIx K)from zy) (pv 0) (pv 2) (fun _ _=>rfl)) (pv 1) (fun _ _=>rfl)) zi (nomark _))
 (zj (zE (i:=3) sc_with_first.nd rfl (Or.inl rfl) (zaR (show CallR _ _ (zaT K)from zaI) rfl T.z_list BT.list (ze (pv 0) zh)))
 (zj (zcH (zB (show IxR _ (rIx K)from zy) (pv 0) (pv 2) (fun _ _=>rfl)) (zcE (pv 3) (pv 1) za6))
 (zj (zcH (zB (show IxR _ (rIx K)from zy) (pv 0) (pv 1) (fun _ _=>rfl)) (zcE (pv 3) (pv 2) za6))
 (zm (zH (pv 3))))))
 zT)))
 (zm zfZ)),?_⟩
 refine zN (σ0:=[some (.ref a),some (.int k),none,none]) rfl ?_
 walk_at "x"
 refine zdC (fun i σ' H'=>∃f2 f3:Option V,σ'=[some (.ref a),some (.int k),f2,f3]/\(∀j,k.toNat<=j->j<k.toNat+i->M j k.toNat=0)/\H'=H) ⟨_,_,rfl,fun j h1 h2=>by omega,rfl⟩ ?_ ?_
 ·rintro i σ' H' hi ⟨f2,f3,rfl,hM,rfl⟩
  rw[hml]at hi
  have ei:(k+(i:Int)).toNat=k.toNat+i:=by omega
  obtain⟨b2,hb2⟩:=zO (show k.toNat+i<as.length by omega)
  have hat2:atI (as.map V.ref) (k+(i:Int))=some (.ref b2):=zaB (by omega) (by rw[ei,yf,hb2];rfl)
  have hr2:=hR.2 _ _ hb2
  have hk2:atI ((vec w (M (k.toNat+i))).map V.int) k=some (.int (M (k.toNat+i) k.toNat)):=zaB k0 (by rw[yf,zbn (by omega)];rfl)
  walk_at "x"
  ·rename_i hne p H1 fp e1 hp
   have npa:p∉as:=hR.fresh fp
   have nap:a≠p:=fun z=>by rw[z,fp]at ha;cases ha
   refine zcC (j:=k.toNat) hp (zcD k0 (by omega)) ?_
   intro H2 b2' h2'
   have ha2:H2 a=some (.lst (as.map V.ref)):=b2'.lst (e1.at ha) nap
   walk_at "x"
   refine zcC (j:=k.toNat+i) h2' (by rw[<- ei];exact zcD (by omega) (by rw[yan];omega)) ?_
   intro H3 b3 h3
   walk_at "x"
   have e13:Same H' H3:=b3.same (b2'.same e1 fp) fp
   refine q1 p H3 (zeO as k.toNat (k.toNat+i) b1 b2) (k.toNat+i) (by omega) (by omega) hne fp e13 ?_ ?_ ?_ ?_
   ·rw[h3];unfold zeO;rw[ybN,ybN]
   ·unfold zeO;rw[yan,yan]
   ·intro c hc
    unfold zeO at hc
    rcases ybg hc with h | h
    ·rcases ybg h with h | h
     ·exact h
     ·rw[h];exact ya hb2
    ·rw[h];exact ya hb1
   ·exact zmt (hR.same e13) hb1 hb2
  ·rename_i hz
   refine⟨_,_,rfl,fun j h1 h2=>?_,rfl⟩
   by_cases e:j=k.toNat+i
   ·rw[e];exact hz
   ·exact hM j h1 (by omega)
 ·rintro σ' H' ⟨f2,f3,rfl,hM,rfl⟩
  rw[hml]at hM
  exact absurd (hM iN iN1 (by omega)) iN3
theorem ziM(T:Txt K mg):FnOk P w K mg base (CXF P w) 1 T.d_swept_row.a T.d_swept_row.fd ["row", "sweeper", "place", "before"] (zeB K):=by
 refine T.d_swept_row.F.okN sc_swept_row (fun vs H Q E h=>?_) (fun cdv A outer s H vs Q E hr h=>?_)
 ·obtain⟨a,b,w,f,g,k,d,rfl,_⟩:=h;rfl
 obtain⟨a,b,w,f,g,k,d,rfl,ha,hb,k0,k1,hw,d0,hd,hz,q⟩:=h
 have hk1:atI ((vec w f).map V.int) k=some (.int (f k.toNat)):=zaB k0 (by rw[yf,zbn (by omega)];rfl)
 have hk2:atI ((vec w g).map V.int) k=some (.int (g k.toNat)):=zaB k0 (by rw[yf,zbn (by omega)];rfl)
 refine⟨_,(zj (zE (i:=4) sc_swept_row.nd rfl (Or.inr rfl) (zB (show IxR _ (rIx K)from zy) (pv 1) (pv 2) (fun _ _=>rfl)))
 (zj (zE (i:=5) sc_swept_row.nd rfl (Or.inr rfl) (zB (show IxR _ (rIx K)from zy) (pv 0) (pv 2) (fun _ _=>rfl)))
 (zm (zH (za0 rfl (show PI _ _ _ (znQ K _)from zmS rfl T.z_zip (ze (pv 0) (ze (pv 1) zh))) (zP (Ni:=["mine", "other", "keep", "take", "before"]) (caps:=[none,none,some 4,some 5,some 3]) (by rfl)) (fun S _ _ _ _ _=>(show PG _ _ (zbx K 2 _)from zaU (n:=2) rfl (zQ (zS (gi:=0) S (Or.inl rfl) rfl) (zQ (zS (gi:=1) S (Or.inl rfl) rfl) zaH)))) (fun _ _ _ _ _=>zal) (fun _ _ _ _ _=>(zJ za9 (zJ zjx (zJ zZ (pv 2) (pv 0)) (zJ zZ (pv 3) (pv 1))) (pv 4)))))))),?_⟩
 refine zN (σ0:=[some (.ref a),some (.ref b),some (.int k),some (.int d),none,none]) rfl ?_
 walk_at "x"
 have hn:min ((vec w f).map V.int).length ((vec w g).map V.int).length=w:=by rw[yh,yh,zbo,zbo,Nat.min_self]
 refine zbT (zkr (K:=K) (a:=a) (b:=b) (xs:=(vec w f).map V.int) (ys:=(vec w g).map V.int)) (fun H2 e=>⟨SqL.of (e.at ha),SqL.of (e.at hb)⟩) rfl (fun i vs H2=>vs=(vec i fun j=>(g k.toNat*f j-f k.toNat*g j).fdiv d).map V.int) (fun H2 _=>rfl) ?_ ?_
 ·rintro i x D vs o o' H1 H2 hi hD e1 hv hvl rfl e2 ⟨p,v,v',rfl,hv1,hv2,hp⟩
  rw[hn]at hi
  rw[yf,zbn hi]at hv1 hv2
  cases hv1;cases hv2
  have z1:=hz i hi
  have z2:=hz k.toNat (by omega)
  have m1:CMulS (g k.toNat) (f i):=CMulS.of z2.2 z1.1 (by decide)
  have m2:CMulS (f k.toNat) (g i):=CMulS.of z2.1 z1.2 (by decide)
  walk_at "x"
  refine zja d0 hd ?_
  walk_at "x"
  rename_i H3 b3 h3'
  refine⟨⟨_,_,rfl⟩,by walk_at "h",_,h3',by rw[yb];exact yp hvl,?_⟩
  show _=(vec (i+1) _).map V.int
  rw[zgr,yl];rfl
 ·rintro D H2 vs hD e hv hvl rfl
  rw[hn]at hv
  exact q D H2 hD e hv
theorem znG(T:Txt K mg):FnOk P w K mg base (CXF P w) 2 T.d_swept.a T.d_swept.fd ["table", "place", "before"] (zkC K):=by
 refine T.d_swept.F.okN sc_swept (fun vs H Q E h=>?_) (fun cdv A outer s H vs Q E hr h=>?_)
 ·obtain⟨a,as,w,M,k,d,rfl,_⟩:=h;rfl
 obtain⟨a,as,w,M,k,d,rfl,ha,hR,k0,k1,k2,hw,hl,d0,hd,hz,q⟩:=h
 have hml:(as.map V.ref).length=as.length:=yh ..
 obtain⟨b,hb⟩:=zO (show k.toNat<as.length by omega)
 have hat:atI (as.map V.ref) k=some (.ref b):=zaB k0 (by rw[yf,hb];rfl)
 have hrb:=hR.2 _ _ hb
 refine⟨_,(zj (zE (i:=3) sc_swept.nd rfl (Or.inl rfl) (zB (show IxR _ (rIx K)from zy) (pv 0) (pv 1) (fun _ _=>rfl)))
 (zj (zE (i:=4) sc_swept.nd rfl (Or.inl rfl) (zbk zh))
 (zj (zau PassesOwn.never rfl (show PI _ _ _ (zcb K _)from zbp rfl T.z_enumerate (ze (pv 0) zh)) (show PG _ _ (zbx K 2 _)from zaU (n:=2) rfl (zQ (zU (i:=5) sc_swept.nd rfl (Or.inl rfl)) (zQ (zU (i:=6) sc_swept.nd rfl (Or.inl rfl)) zaH)))
 (zm (zX (zK (show OpR _ (compareOp .Eq) (zaN K)from zaF hr.units) (pv 5) (pv 1) (nomark _))
 (zm (zb3 (show PE _ _ (tBM K _ _ _ _)from zc7 yT yY yZ zbj (pv 4) (ze (pv 6) zh))))
 (zm (zb3 (show PE _ _ (tBM K _ _ _ _)from zc7 yT yY yZ zbj (pv 4) (ze (zA (ziM T) (hr.mono (by decide)) rfl T.d_swept_row.m T.d_swept_row.F.kp T.d_swept_row.b .nil (zG zF) (ze (pv 6) (ze (pv 3) (ze (pv 1) (ze (pv 2) zh))))) zh)))))))
 (zm (zH (pv 4)))))),?_⟩
 refine zN (σ0:=[some (.ref a),some (.int k),some (.int d),none,none,none,none]) rfl ?_
 walk_at "x"
 rename_i D H1 fD e1 hD
 refine zdE (za4 (K:=K) (a:=a) (xs:=as.map V.ref)) (fun i σ' H'=>∃(f5 f6:Option V) (bs:List Addr),σ'=[some (.ref a),some (.int k),some (.int d),some (.ref b),some (.ref D),f5,f6]/\H' D=some (.lst (bs.map V.ref))/\bs.length=i/\Same H H'/\Rows H' bs w (Dt.nxtI M k.toNat d)/\(k.toNat<i->bs[k.toNat]?=some b)/\∀j c,bs[j]?=some c->c∈as->c=b/\j=k.toNat) ⟨_,_,[],rfl,hD,rfl,e1,⟨yaE,fun _ _ h=>nomatch h⟩,fun h=>by omega,fun _ _ h=>nomatch h⟩ ?_ ?_ ?_
 ·rintro i σ' H' ⟨f5,f6,bs,rfl,hD',hbl,e,_⟩;exact SqL.of (e.at ha)
 ·rintro i x σ' H2 H3 hi ⟨f5,f6,bs,rfl,hD',hbl,e,hB,hkb,hmem⟩ e3 ⟨p,v,rfl,hv,hp⟩
  rw[hml]at hi
  obtain⟨c,hc⟩:=zO hi
  have ev:v=.ref c:=by rw[yf,hc]at hv;exact(yn hv).symm
  subst ev
  have hD3:=e3.at hD'
  have e03:=e.trans e3
  have hrc:=e03.at (hR.2 _ _ hc)
  have hrb3:=e03.at hrb
  have nD:D∉bs:=hB.ne (by omega) hD'
  have nDa:D∉as:=hR.fresh fD
  have hbl':(bs.map V.ref).length<=20:=by rw[yh];omega
  have hz1:∀j,j<w->sz (M i j)<=9000/\sz (M k.toNat j)<=9000:=fun j hj=>⟨hz i j hi hj,hz _ j (by omega) hj⟩
  walk_at "x"
  ·rename_i hik H4 b4 h4
   have ek:i=k.toNat:=by omega
   have ecb:c=b:=by rw[ek,hb]at hc;exact(yn hc).symm
   subst ecb
   have cm:c∈as:=ya hb
   have ncb:c∉bs:=fun z=>by
    obtain⟨j,hj,ej⟩:=y9 z
    have:=(hmem j c (by rw[yj hj,ej]) cm).2
    omega
   have ncD:c≠D:=fun z=>nDa (z▸cm)
   refine⟨_,_,bs++[c],rfl,by rw[h4,yl];rfl,by rw[yb,hbl];rfl,b4.same e03 fD,?_,?_,?_⟩
   ·refine Rows.app ((hB.same e3).but b4 nD) ncb ?_
    rw[b4.lst hrb3 ncD,hbl]
    refine congrArg (fun z=>some (HO.lst (z.map V.int))) (zea fun j _=>?_)
    unfold Dt.nxtI
    rw[if_pos ek]
   ·intro _
    rw[yax (by omega),show k.toNat-bs.length=0 by omega];rfl
   ·intro j c' hj hc'
    rcases Nat.lt_or_ge j bs.length with h | h
    ·rw[yW h]at hj;exact hmem j c' hj hc'
    ·rw[yax h]at hj
     have hj0:j-bs.length=0:=by
      rcases yaX (j-bs.length)with z | z
      ·exact z
      ·rw[yae (by simp only[y8];omega)]at hj;cases hj
     rw[hj0]at hj
     exact⟨(yn hj).symm,by omega⟩
  ·rename_i hik p' H4 fp' e4 hp' H5 b5 h5
   have nk:i≠k.toNat:=fun z=>hik (by omega)
   have npb:p'∉bs:=(hB.same e3).fresh fp'
   have npD:p'≠D:=fun z=>by rw[z,hD3]at fp';cases fp'
   refine⟨_,_,bs++[p'],rfl,by rw[h5,yl];rfl,by rw[yb,hbl];rfl,b5.same (e03.trans e4) fD,?_,?_,?_⟩
   ·refine Rows.app (((hB.same e3).same e4).but b5 nD) npb ?_
    rw[b5.lst hp' npD,hbl]
    refine congrArg (fun z=>some (HO.lst (z.map V.int))) (zea fun j _=>?_)
    unfold Dt.nxtI
    rw[if_neg nk]
   ·intro h
    rw[yW (by omega)]
    exact hkb (by omega)
   ·intro j c' hj hc'
    rcases Nat.lt_or_ge j bs.length with h | h
    ·rw[yW h]at hj;exact hmem j c' hj hc'
    ·rw[yax h]at hj
     have hj0:j-bs.length=0:=by
      rcases yaX (j-bs.length)with z | z
      ·exact z
      ·rw[yae (by simp only[y8];omega)]at hj;cases hj
     rw[hj0]at hj
     have ec:c'=p':=(yn hj).symm
     obtain⟨m,_,_,hm⟩:=(hR.same e03).mem hc'
     rw[ec,fp']at hm;cases hm
 ·rintro σ' H2 ⟨f5,f6,bs,rfl,hD',hbl,e,hB,hkb,hmem⟩
  walk_at "x"
  rw[hml]at hbl
  exact q D H2 bs fD e hD' hbl hB
theorem zhF(T:Txt K mg):FnOk P w K mg base (CXF P w) 3 T.d_solved.a T.d_solved.fd ["rows", "right"] (zhQ K sZ sB):=by
 refine T.d_solved.F.okN sc_solved (fun vs H Q E h=>?_) (fun cdv A outer s H vs Q E hr h=>?_)
 ·obtain⟨a,b,n,R,rfl,_⟩:=h;rfl
 obtain⟨a,b,n,R,rfl,⟨⟨as,ha,hal,hrow⟩,⟨ws,hb,hside⟩⟩,n1,hz,h1,h2,h3,h4,hdn0,q1⟩:=h
 have hml:(as.map V.ref).length=n:=by rw[yh];exact hal
 have hwl:ws.length=n:=by rw[hside.length,yh,yv]
 refine⟨_,(zj (zE (i:=2) sc_solved.nd rfl (Or.inr rfl) (zR (show CallR _ _ (zaO K)from zW) rfl T.z_len BT.len (ze (pv 0) zh)))
 (zj (zbf (i:=3) sc_solved.nd rfl rfl rfl (zaS rfl T.z_range (ze (pv 2) zh)) (zP (Ni:=["place", "rows", "right"]) (caps:=[none,some 0,some 1]) (by rfl)) (fun S _ _ _ _ _=>(zS (gi:=0) S (Or.inl rfl) rfl)) (fun _ _ _ _ _=>zal) (fun _ _ _ _ _=>(zA (zjr T) (hr.mono (by decide)) rfl T.d_whole_row.m T.d_whole_row.F.kp T.d_whole_row.b .nil (zG zF) (ze (zJ (show OpR _ (binaryOp .Add) (zaE K)from zah) (zaR (show CallR _ _ (zaT K)from zaI) rfl T.z_list BT.list (ze (zB (show IxR _ (rIx K)from zy) (pv 1) (pv 0) (fun _ _=>rfl)) zh)) (zbk (ze (zB (show IxR _ (rIx K)from zy) (pv 2) (pv 0) (fun _ _=>rfl)) zh))) zh))))
 (zj (zE (i:=4) sc_solved.nd rfl (Or.inr rfl) zi)
 (zj (zau PassesOwn.never rfl (zaS rfl T.z_range (ze (pv 2) zh)) (zU (i:=5) sc_solved.nd rfl (Or.inl rfl))
 (zj (zE (i:=3) sc_solved.nd rfl (Or.inl rfl) (zA (zij T) (hr.mono (by decide)) rfl T.d_with_first.m T.d_with_first.F.kp T.d_with_first.b .nil (zG zF) (ze (pv 3) (ze (pv 5) zh))))
 (zj (zE (i:=3) sc_solved.nd rfl (Or.inl rfl) (zA (znG T) (hr.mono (by decide)) rfl T.d_swept.m T.d_swept.F.kp T.d_swept.b .nil (zG zF) (ze (pv 3) (ze (pv 5) (ze (pv 4) zh)))))
 (zm (zE (i:=4) sc_solved.nd rfl (Or.inr rfl) (zB (show IxR _ (rIx K)from zy) (zB (show IxR _ (rIx K)from zy) (pv 3) (pv 5) (fun _ _=>rfl)) (pv 5) (fun _ _=>rfl)))))))
 (zm (zH (za0 rfl (show PI _ _ _ (zaG K _)from zai (pv 3)) (zP (Ni:=["row", "count", "before"]) (caps:=[none,some 2,some 4]) (by rfl)) (fun S _ _ _ _ _=>(zS (gi:=0) S (Or.inl rfl) rfl)) (fun _ _ _ _ _=>zal) (fun _ _ _ _ _=>(zA (zoV T) (hr.mono (by decide)) rfl T.d_part.m T.d_part.F.kp T.d_part.b .nil (zG zF) (ze (zB (show IxR _ (rIx K)from zy) (pv 0) (pv 1) (fun _ _=>rfl)) (ze (pv 2) zh))))))))))),?_⟩
 refine zN (σ0:=[some (.ref a),some (.ref b),none,none,none,none]) rfl ?_
 walk_at "x"
 refine zam (zcA (lo:=0) (n:=((as.map V.ref).length:Int).toNat)) (fun _ _=>trivial) rfl (fun i vs H'=>∃(bs:List Addr) (F:Nat->Nat->Int) (L:Nat->Int),vs=bs.map V.ref/\bs.length=i/\Rows H' bs (n+1) F/\∀l,l<i->0<L l/\∀j,j<=n->((F l j:Int):Rat)=((L l:Int):Rat)*R l j/\sz (F l j)<=sZ+(n+1)*sB) (fun H' _=>⟨[],fun _ _=>0,fun _=>0,rfl,rfl,⟨yaE,fun _ _ h=>nomatch h⟩,fun l h=>by omega⟩) ?_ ?_
 ·rintro i x D vs o H1 H2 hi hD e1 hv hvl ⟨bs,F,L,rfl,hbl,hR,hF⟩ e2 rfl
  rw[hml]at hi
  have hi':i<n:=by omega
  obtain⟨c,hc⟩:=zO (show i<as.length by omega)
  obtain⟨us,hu1,hu2⟩:=hrow i c hc
  obtain⟨v,hv'⟩:=zO (show i<ws.length by omega)
  obtain⟨g,q,rfl,hq,hg⟩:=hside.get hv'
  have ei:((0:Int)+(i:Int)).toNat=i:=by omega
  have hat1:atI (as.map V.ref) ((0:Int)+(i:Int))=some (.ref c):=zaB (by omega) (by rw[ei,yf,hc];rfl)
  have hat2:atI ws ((0:Int)+(i:Int))=some (.ref g):=zaB (by omega) (by rw[ei];exact hv')
  have e12:=e1.trans e2
  have ha2:=e12.at ha
  have hb2:=e12.at hb
  have hc2:=e12.at hu1
  walk_at "x"
  rename_i l1 H3 f1 e3 hl1 l2 H4 f2 e4 hl2
  have hul:us.length=n:=by rw[hu2.length,yh,yv]
  have eq:q=R i n:=by
   rw[yf,yL hi']at hq
   exact(yn hq).symm
  refine zq1 (e4.at hl1) hl2 (by rw[hul];simp only[y8];omega) ?_
  intro p H5 fp e5 hp5
  have e05:Same H H5:=((e12.trans e3).trans e4).trans e5
  have hq5:IsQs H5 (us++[.ref g]) ((List.range (n+1)).map (R i)):=by
   rw[yC,yl,yA,<- eq]
   exact IsQs.app (e05.isQ hg) (hu2.same e05)
  have hql:((List.range (n+1)).map (R i)).length=n+1:=by rw[yh,yv]
  walk_at "x"
  refine zjN hp5 hq5 (by rw[hql];omega) (fun r hr=>?_) h2 h3 h1 ?_
  ·obtain⟨j,hj,rfl⟩:=yaz.mp hr
   exact hz i j hi' (by have:=yU.mp hj;omega)
  intro p' H6 f L' fp' e6 L0 hf hp6
  rw[hql]at hp6 hf
  have hv6:H6 D=some (.lst (bs.map V.ref)):=(((e2.trans e3).trans e4).trans (e5.trans e6)).at hv
  have hbl6:(bs.map V.ref).length<=20:=by omega
  walk_at "x"
  rename_i H7 b7 h7
  have e16:Same H1 H6:=((e2.trans e3).trans e4).trans (e5.trans e6)
  have e15:Same H1 H5:=((e2.trans e3).trans e4).trans e5
  have npb:p'∉bs:=(hR.same e15).fresh fp'
  have nDb:D∉bs:=hR.ne (by omega) hv
  have npD:p'≠D:=fun z=>by rw[z,e15.at hv]at fp';cases fp'
  refine⟨⟨_,rfl⟩,b7.same (e1.trans e16) hD,_,h7,by rw[yb];exact yp hvl,bs++[p'],(fun l=>if l=bs.length then f else F l),(fun l=>if l=i then L' else L l),by rw[yl];rfl,by rw[yb,hbl];rfl,Rows.snoc ((hR.same e16).but b7 nDb) npb (b7.lst hp6 npD),fun l hl=>?_⟩
  rw[hbl]
  dsimp only
  by_cases e:l=i
  ·subst e
   rw[if_pos rfl,if_pos rfl]
   refine⟨L0,fun j hj=>hf j _ ?_⟩
   rw[yf,yL (by omega)];rfl
  ·rw[if_neg e,if_neg e];exact hF l (by omega)
 ·rintro t H1 vs ft e1 ht hvl ⟨bs,F,L,rfl,hbl,hR,hF⟩
  have hcn:((as.map V.ref).length:Int).toNat=n:=by omega
  rw[hcn]at hbl hF
  obtain⟨z,ez⟩:∃z,z=sZ+(n+1)*sB:=⟨_,rfl⟩
  rw[<- ez]at hF h4
  have hFR:∀l,l<n->((L l:Int):Rat)≠0:=fun l hl w=>by
   have:L l=0:=by exact_mod_cast w
   have:=(hF l hl).1
   omega
  have hdet:Dt.det n (Dt.cl R)=0↔Dt.det n (Dt.cl (Dt.castM F))=0:=by
   rw[Dt.det_scale hFR]
   have:Dt.det n (Dt.cl (fun l j=>((L l:Int):Rat)*R l j))=Dt.det n (Dt.cl (Dt.castM F)):=Dt.det_congr fun j r hj hr=>(((hF r hr).2 j (by omega)).1).symm
   rw[this]
  have hmeet:∀x:Nat->Rat,(∀l,l<n->Dt.sm n (fun m=>Dt.castM F l m*x m)=Dt.castM F l n)->∀l,l<n->Dt.sm n (fun m=>R l m*x m)=R l n:=fun x hx=>by
   rw[Dt.meets_scale hFR]
   intro l hl
   have h0:=hx l hl
   have e1:Dt.castM F l n=((L l:Int):Rat)*R l n:=((hF l hl).2 n (by omega)).1
   rw[e1]at h0
   rw[<- h0]
   refine Dt.sm_congr fun m hm=>?_
   rw[show Dt.castM F l m=((L l:Int):Rat)*R l m from((hF l hl).2 m (by omega)).1]
  walk_at "x"
  refine zdC (fun k σ' H'=>∃(f5:Option V) (t':Addr) (bs':List Addr) (B M:Nat->Nat->Int) (d:Int),σ'=[some (.ref a),some (.ref b),some (.int ((as.map V.ref).length:Int)),some (.ref t'),some (.int d),f5]/\Same H H'/\H t'=none/\H' t'=some (.lst (bs'.map V.ref))/\bs'.length=n/\Rows H' bs' (n+1) M/\Dt.Bar n k (Dt.castM B) (Dt.castM M) ((d:Int):Rat)/\Dt.Eqv n (Dt.castM F) (Dt.castM B)/\∀l j,l<n->j<=n->sz (B l j)<=z) ⟨_,t,bs,F,F,1,rfl,e1,ft,ht,hbl,hR,Dt.bar_start,Dt.Eqv.refl _ _,fun l j hl hj=>((hF l hl).2 j hj).2⟩ ?_ ?_
  ·rintro k σ' H2 hk ⟨f5,t',bs',B,M,d,rfl,e2,ft',ht',hbl',hR',hbar,heq,hsz⟩
   rw[hcn]at hk
   have ek:((0:Int)+(k:Int)).toNat=k:=by omega
   have big:∀(B' M':Nat->Nat->Int) (d':Int) (k':Nat),Dt.Bar n k' (Dt.castM B') (Dt.castM M') ((d':Int):Rat)->k'<=n->(∀l j,l<n->j<=n->sz (B' l j)<=z)->∀i j,i<n->j<=n->sz (M' i j)<=9000:=fun B' M' d' k' hb hk' hs i j hi hj=>by
    have:=zkY (x:=M' i j) (hb.sz hk' (by omega) (fun l m hl hm=>zlv (hs l m hl hm)) hi hj)
    omega
   walk_at "x"
   have hne0:∃i,((0:Int)+(k:Int)).toNat<=i/\i<bs'.length/\M i ((0:Int)+(k:Int)).toNat≠0:=by
    rw[ek,hbl']
    refine yag fun z=>hdn0 (hdet.mpr (heq.dt.mpr (hbar.stuck hk fun i h1 h2=>?_)))
    show((M i k:Int):Rat)=0
    have:M i k=0:=yag fun y=>z ⟨i,h1,h2,y⟩
    rw[this];rfl
   refine zhr ht' hR' (by omega) (by omega) (by omega) (by omega) hne0 ?_
   intro p1 H3 as1 i1 hi1 hi2 hne fp1 e3 hp1 hal1 hm1 hR1
   rw[ek]at hi1 hne hR1
   rw[hbl']at hi2 hal1
   have hbar1:Dt.Bar n k (Dt.castM (Dt.swp B k i1)) (Dt.castM (Dt.swp M k i1)) ((d:Int):Rat):=by
    have:=hbar.swap (p:=k) (q:=i1) (yg _) hi1 hk hi2
    have c1:∀N:Nat->Nat->Int,Dt.castM (Dt.swp N k i1)=Dt.swp (Dt.castM N) k i1:=fun N=>by
     funext u v
     unfold Dt.castM Dt.swp
     split
     ·rfl
     ·split<;>rfl
    rw[c1,c1];exact this
   have heq1:Dt.Eqv n (Dt.castM F) (Dt.castM (Dt.swp B k i1)):=by
    have c1:Dt.castM (Dt.swp B k i1)=Dt.swp (Dt.castM B) k i1:=by
     funext u v
     unfold Dt.castM Dt.swp
     split
     ·rfl
     ·split<;>rfl
    rw[c1];exact heq.trans (Dt.Eqv.swap hk hi2 _)
   have hsz1:∀l j,l<n->j<=n->sz (Dt.swp B k i1 l j)<=z:=fun l j hl hj=>by
    obtain⟨l',hl',e⟩:=Dt.swp_at hk hi2 B l hl
    rw[e];exact hsz l' j hl' hj
   have hM1:=big _ _ _ k hbar1 (by omega) hsz1
   have hp:Dt.swp M k i1 k k≠0:=by
    unfold Dt.swp
    rw[if_pos rfl];exact hne
   have hdn:d≠0:=fun w=>hbar.d0 (by rw[w];rfl)
   have hdd:sz d<=9000:=by
    rcases yaX k with h0 | h0
    ·have h1:((d:Int):Rat)=1:=by rw[hbar.dd,h0];rfl
     have:d=1:=by exact_mod_cast h1
     rw[this];exact szL (by decide) (by decide) (by decide)
    ·have h1:=hbar.id1 0 0 h0 h0
     rw[if_pos rfl]at h1
     have:M 0 0=d:=by exact_mod_cast (show((M 0 0:Int):Rat)=((d:Int):Rat)from h1)
     rw[<- this];exact big _ _ _ k hbar (by omega) hsz 0 0 (by omega) (by omega)
   have st:=hbar1.stepI hk hp
   walk_at "x"
   refine zmc hp1 hR1 (by omega) (by omega) (by omega) (by omega) (by omega) hdn hdd (fun i j hi hj=>hM1 i j (by omega) (by omega)) ?_
   intro p2 H4 as2 fp2 e4 hp2 hal2 hR2
   rw[ek]at hR2
   obtain⟨c2,hc2⟩:=zO (show k<as2.length by omega)
   have hat:atI (as2.map V.ref) ((0:Int)+(k:Int))=some (.ref c2):=zaB (by omega) (by rw[ek,yf,hc2];rfl)
   have hr2:=hR2.2 _ _ hc2
   have e04:Same H H4:=(e2.trans e3).trans e4
   walk_at "x"
   refine⟨_,p2,as2,Dt.swp B k i1,Dt.nxtI (Dt.swp M k i1) k d,_,rfl,e04,Same.none fp2 (e2.trans e3),hp2,by omega,hR2,?_,heq1,hsz1⟩
   have:Dt.nxtI (Dt.swp M k i1) k d k ((0:Int)+(k:Int)).toNat=Dt.swp M k i1 k k:=by
    rw[ek];unfold Dt.nxtI;rw[if_pos rfl]
   rw[this]
   exact st.1
  ·rintro σ' H2 ⟨f5,t',bs',B,M,d,rfl,e2,ft',ht',hbl',hR',hbar,heq,hsz⟩
   rw[hcn]at hbar
   have hdn:d≠0:=fun w=>hbar.d0 (by rw[w];rfl)
   have hdd:sz d<=8999:=by
    rcases yaX n with n0 | n0
    ·have h1:((d:Int):Rat)=1:=by rw[hbar.dd,n0];rfl
     have:d=1:=by exact_mod_cast h1
     rw[this];exact szL (by decide) (by decide) (by decide)
    have h1:=hbar.id1 0 0 n0 n0
    rw[if_pos rfl]at h1
    have:M 0 0=d:=by exact_mod_cast (show((M 0 0:Int):Rat)=((d:Int):Rat)from h1)
    rw[<- this]
    have:=zkY (x:=M 0 0) (hbar.sz (yg _) (by omega) (fun l m hl hm=>zlv (hsz l m hl hm)) n0 (yF _))
    omega
   have hdne:Dt.det n (Dt.cl R)≠0:=fun w=>hbar.d0 (by rw[hbar.dd];exact heq.dt.mp (hdet.mp w))
   have hat0:=heq.an (fun m=>Dt.castM M m n/((d:Int):Rat))
   have hans:=hmeet _ (hat0.mpr fun l hl=>hbar.meets hl)
   walk_at "x"
   refine zam (zaP (K:=K) (a:=t') (xs:=bs'.map V.ref)) (fun H' e=>SqL.of (e.at ht')) rfl (fun i vs H'=>IsQs H' vs ((List.range i).map fun m=>Dt.castM M m n/((d:Int):Rat))) (fun H' _=>trivial) ?_ ?_
   ·rintro i x D vs o H3 H4 hi hD e3 hv hvl hI e4 hx
    rw[yh]at hi
    obtain⟨c,hc⟩:=zO hi
    have ev:x=.ref c:=by rw[yf,hc]at hx;exact(yn hx).symm
    subst ev
    have hr:=(e3.trans e4).at (hR'.2 _ _ hc)
    walk_at "x"
    rename_i p H5 e5 hq H6 b6 h6
    rw[hcn]at hq
    refine⟨⟨_,rfl⟩,by walk_at "h",_,h6,by rw[yb];exact yp hvl,?_⟩
    show IsQs H6 _ ((List.range (i+1)).map _)
    rw[yC,yl,yA]
    refine IsQs.app ?_ (LBut.isQs b6 (hI.same (e4.trans e5)))
    have:Dt.castM M i n/((d:Int):Rat)=Rat.divInt (M i n) d:=by rw[ya4];rfl
    rw[this]
    exact LBut.isQ b6 hq
   ·rintro D H3 vs hD e3 hv hvl hI
    rw[yh,hbl']at hI
    refine q1 D H3 vs _ (Same.none hD e2) (e2.trans e3) hv hI hans fun m hm=>?_
    have n0:0<n:=by omega
    show SzQ (((M m n:Int):Rat)/((d:Int):Rat)) _ _
    rw[<- ya4,<- ez]
    have sM:∀i j,i<n->j<=n->sz (M i j)<=n*(z+4)+1:=fun i j hi hj=>zkY (x:=M i j) (hbar.sz (yg _) (by omega) (fun l m hl hm=>zlv (hsz l m hl hm)) hi hj)
    have h1:=hbar.id1 0 0 n0 n0
    rw[if_pos rfl]at h1
    have hM0:M 0 0=d:=by exact_mod_cast (show((M 0 0:Int):Rat)=((d:Int):Rat)from h1)
    exact ziW hdn (sM m n hm (yg _)) (hM0▸sM 0 0 n0 (yF _))
theorem ze7(T:Txt K mg):FnOk P w K mg base (CXF P w) 1 T.d_ranked.a T.d_ranked.fd ["many", "sheet"] (zf3 K):=by
 refine T.d_ranked.F.okN sc_ranked (fun vs H Q E h=>?_) (fun cdv A outer s H vs Q E hr h=>?_)
 ·obtain⟨n,a,ds,rfl,_⟩:=h;rfl
 obtain⟨n,a,ds,rfl,⟨xs,hS,hT⟩,n0,n1,hd,k⟩:=h
 refine⟨_,(zj (zbf (i:=2) sc_ranked.nd rfl rfl rfl (zaS rfl T.z_range (ze (pv 0) zh)) (zP (Ni:=["member"]) (caps:=[none]) (by rfl)) (fun S _ _ _ _ _=>(zS (gi:=0) S (Or.inl rfl) rfl)) (fun _ _ _ _ _=>zal) (fun _ _ _ _ _=>(zbk (ze zi (ze zi (ze zi zh))))))
 (zj (zau PassesOwn.never rfl (show PI _ _ _ (zaG K _)from zai (pv 1)) (show PG _ _ (zbx K 4 _)from zaU (n:=4) rfl (zQ (zU (i:=3) sc_ranked.nd rfl (Or.inl rfl)) (zQ (zU (i:=4) sc_ranked.nd rfl (Or.inl rfl)) (zQ (zU (i:=5) sc_ranked.nd rfl (Or.inl rfl)) (zQ (zU (i:=6) sc_ranked.nd rfl (Or.inl rfl)) zaH)))))
 (zm (zhB (zB (show IxR _ (rIx K)from zy) (pv 2) (pv 3) (fun _ _=>rfl)) (pv 5) (show zjI _ (zeQ K)from zfs) (pv 6) zfp za6)))
 (zm (zH (pv 2))))),?_⟩
 refine zN (σ0:=[some (.int n),some (.ref a),none,none,none,none,none]) rfl ?_
 walk_at "x"
 refine zam zcA (fun _ _=>trivial) rfl (fun i vs H'=>∃as,vs=as.map V.ref/\as.length=i/\Rows H' as 3 (fun _ _=>0)/\∀b∈as,H b=none) (fun H' _=>⟨[],rfl,rfl,⟨yaE,fun i a h=>nomatch h⟩,fun _ h=>nomatch h⟩) ?_ ?_
 ·rintro i x D vs o H2 H3 hi hD e2 hv hvl ⟨as,rfl,hal,hR,hF⟩ e3 rfl
  walk_at "x"
  rename_i p H4 fp e4 hp H5 b5 h5
  have hD':D∉as:=hR.ne (by decide) hv
  have hpD:p≠D:=zcK fp (e3.at hv)
  have hp':H5 p=some (.lst ((vec 3 fun _=>0).map V.int)):=b5.lst hp hpD
  refine⟨⟨_,rfl⟩,by walk_at "h",_,h5,by rw[yb];exact yp hvl,as++[p],by rw[yl];rfl,by rw[yb,hal];rfl,Rows.app ((hR.same (e3.trans e4)).but b5 hD') ((hR.same e3).fresh fp) hp',fun b hb=>?_⟩
  rcases yR.mp hb with h | h
  ·exact hF b h
  ·rw[yw.mp h];exact Same.none fp (e2.trans e3)
 ·rintro l H2 vs fl e2 hl hvl ⟨as,rfl,hal,hR,hF⟩
  walk_at "x"
  have hla:l∉as:=hR.ne (by decide) hl
  refine zco (xs:=xs) (fun i σ' H'=>∃f3 f4 f5 f6,σ'=[some (.int n),some (.ref a),some (.ref l),f3,f4,f5,f6]/\H' l=some (.lst (as.map V.ref))/\Rows H' as 3 (zD (ds.take i))/\Same H H') ?_ ?_ ?_ ?_
  ·exact⟨_,_,_,_,rfl,hl,hR,e2⟩
  ·rintro i σ' H' _ ⟨_,_,_,_,_,_,_,e⟩;exact e.seq hS
  ·rintro i x σ' H3 hx ⟨f3,f4,f5,f6,rfl,hl3,hR3,e3⟩
   obtain⟨b,d,rfl,hdi,hb⟩:=(hT.same e3).get hx
   have hb':H3 b=some (.tup [.int d.p,.int d.q,.int d.r,.int d.a]):=hb
   obtain⟨p0,p1,q0,q1,pq,r0,r1,a0,a1⟩:=hd d (ya hdi)
   obtain⟨c,hc⟩:=zO (show d.p.toNat<as.length by omega)
   have hrow:=hR3.2 _ _ hc
   have hcm:=ya hc
   have hlc:l≠c:=fun z=>hla (z▸hcm)
   have fc:=hF c hcm
   walk_at "x"
   rename_i H4 b4 h4
   refine⟨_,_,_,_,rfl,b4.lst hl3 hlc,(hR3.set b4 hc h4).congr fun m hm r hr=>?_,by walk_at "h"⟩
   rw[zav hdi]
   exact zh3 p0 r0 m r
  ·rintro σ' H3 ⟨f3,f4,f5,f6,rfl,hl3,hR3,e3⟩
   rw[hT.length,yK]at hR3
   walk_at "x"
   exact k _ _ _ fl e3 hl3 (by omega) hR3 hF
theorem zgw(T:Txt K mg):FnOk P w K mg base (CXF P w) 2 T.d_stop_of.a T.d_stop_of.fd ["owed", "lay"] (zge K):=by
 refine T.d_stop_of.F.okN sc_stop_of (fun vs H Q E h=>?_) (fun cdv A outer s H vs Q E hr h=>?_)
 ·obtain⟨l,y,f,q,rfl,_⟩:=h;rfl
 obtain⟨l,y,f,q,rfl,hl,hf,hy,hs,k⟩:=h
 refine⟨_,(zj (zE (i:=2) sc_stop_of.nd rfl (Or.inl rfl) zi)
 (zj (zau PassesOwn.never rfl (show PI _ _ _ (zcb K _)from zbp rfl T.z_enumerate (ze (pv 0) zh)) (show PG _ _ (zbx K 2 _)from zaU (n:=2) rfl (zQ (zU (i:=3) sc_stop_of.nd rfl (Or.inl rfl)) (zQ (zU (i:=4) sc_stop_of.nd rfl (Or.inl rfl)) zaH)))
 (zj (zlY (i:=2) sc_stop_of.nd rfl (Or.inl rfl) (pv 4) zfp)
 (zm (zX (show PT _ _ (zbL K _)from zaj (zA (zeV T) (hr.mono (by decide)) rfl T.d_under.m T.d_under.F.kp T.d_under.b .nil (zG zF) (ze (pv 1) (ze (zad (ze (pv 2) (ze zi zh))) zh))) (fun _=>rfl))
 (zm (zH (pv 3)))
 zT))))
 (zm (zH zcn)))),?_⟩
 refine zN (σ0:=[some (.ref l),some (.ref y),none,none,none]) rfl ?_
 walk_at "x"
 refine zdE (za4 (K:=K) (a:=l) (xs:=(vec 3 f).map V.int)) (fun i σ' H'=>∃f3 f4:Option V,σ'=[some (.ref l),some (.ref y),some (.int (zaD f i)),f3,f4]/\zar f q i=none/\Same H H') ⟨_,_,rfl,rfl,Same.refl _⟩ ?_ ?_ ?_
 ·rintro i σ' H' ⟨_,_,_,_,e⟩;exact SqL.of (e.at hl)
 ·rintro i x σ' H1 H2 hi ⟨f3,f4,rfl,hno,e1⟩ e2 ⟨t,v,rfl,hx,ht⟩
  rw[yh,zbo]at hi
  rw[yf,zbn hi]at hx
  cases hx
  have ht':H2 t=some (.tup [.int (i:Int),.int (f i)]):=ht
  have hc:=zdQ hf (i+1) (by omega)
  have hs2:SzQ ((zaD f (i+1):Int):Rat) 60000 60000:=zpu (by omega) (by omega)
  walk_at "x"
  refine zc3 (by first | decide | simp) fun tp H3 ftp e3 htp=>?_
  have hq2:IsQ H3 tp ((zaD f (i+1):Int):Rat):=htp
  have e13:Same H H3:=e1.trans (e2.trans e3)
  have hy3:IsQ H3 y q:=e13.at hy
  refine zb1 ?_
  refine zhH hy3 hq2 hs hs2 ?_
  have est:zar f q (i+1)=if za1 f q i then some i else none:=by show(match zar f q i with | some r=>some r | none=>_)=_;rw[hno]
  by_cases hu:za1 f q i
  ·rw[decide_eq_true (under_int.mpr hu)]
   rw[if_pos hu]at est
   have h3:=zgQ est (3-(i+1))
   rw[show i+1+(3-(i+1))=3 by omega]at h3
   rw[h3]at k
   walk_at "x"
   exact k _ e13
  ·rw[decide_eq_false fun z=>hu (under_int.mp z)]
   rw[if_neg hu]at est
   walk_at "x"
   exact⟨_,_,rfl,est,e13⟩
 ·rintro σ' H1 ⟨f3,f4,rfl,hno,e1⟩
  rw[yh,zbo]at hno
  rw[hno]at k
  walk_at "x"
  exact k _ e1
theorem zj9(T:Txt K mg):FnOk P w K mg base (CXF P w) 1 T.d_flows_of.a T.d_flows_of.fd ["sheet", "ranks"] (zhm K):=by
 refine T.d_flows_of.F.okN sc_flows_of (fun vs H Q E h=>?_) (fun cdv A outer s H vs Q E hr h=>?_)
 ·obtain⟨a,b,ds,n,ρ,rfl,_⟩:=h;rfl
 obtain⟨a,b,ds,n,ρ,rfl,⟨xs,hS,hT⟩,hb,n1,hd,k⟩:=h
 have hol:(z9 n ρ).length=n:=zbs
 refine⟨_,(zj (zbf (i:=2) sc_flows_of.nd rfl rfl rfl (show PI _ _ _ (zaG K _)from zai (pv 1)) (zP (Ni:=["rank", "ranks"]) (caps:=[none,some 1]) (by rfl)) (fun S _ _ _ _ _=>(zS (gi:=0) S (Or.inl rfl) rfl)) (fun _ _ _ _ _=>zal) (fun _ _ _ _ _=>(zJ zZ (zbk (ze zi zh)) (zR (show CallR _ _ (zaO K)from zW) rfl T.z_len BT.len (ze (pv 1) zh)))))
 (zj (zau PassesOwn.never rfl (show PI _ _ _ (zaG K _)from zai (pv 0)) (show PG _ _ (zbx K 4 _)from zaU (n:=4) rfl (zQ (zU (i:=3) sc_flows_of.nd rfl (Or.inl rfl)) (zQ (zU (i:=4) sc_flows_of.nd rfl (Or.inl rfl)) (zQ (zU (i:=5) sc_flows_of.nd rfl (Or.inl rfl)) (zQ (zU (i:=6) sc_flows_of.nd rfl (Or.inl rfl)) zaH)))))
 (zm (zX (zK (show OpR _ (compareOp .Eq) (zaN K)from zaF hr.units) (pv 5) (zB (show IxR _ (rIx K)from zy) (pv 1) (pv 3) (fun _ _=>rfl)) (nomark _))
 (zm (zhB (zB (show IxR _ (rIx K)from zy) (pv 2) (pv 3) (fun _ _=>rfl)) (pv 4) (show zjI _ (zeQ K)from zfs) (pv 6) zfp za6))
 zT)))
 (zm (zH (pv 2))))),?_⟩
 refine zN (σ0:=[some (.ref a),some (.ref b),none,none,none,none,none]) rfl ?_
 walk_at "x"
 refine zam (zaP (K:=K) (a:=b) (xs:=z9 n ρ)) (fun H' e=>SqL.of (e.at hb)) rfl (fun i vs H'=>∃as,vs=as.map V.ref/\as.length=i/\Rows H' as n (fun _ _=>0)/\∀b∈as,H b=none) (fun H' _=>⟨[],rfl,rfl,⟨yaE,fun i a h=>nomatch h⟩,fun _ h=>nomatch h⟩) ?_ ?_
 ·rintro i x D vs o H2 H3 hi hD e2 hv hvl ⟨as,rfl,hal,hR,hF⟩ e3 hx
  have hb3:=(e2.trans e3).at hb
  walk_at "x"
  rename_i z1 H31 fz1 ez1 hz1 p H4 fp e4' hp0 H5 b5 h5
  have e4:Same H3 H4:=ez1.trans e4'
  rw[yx,hol]at hp0
  have fp3:H3 p=none:=Same.none fp ez1
  have hpD:p≠D:=zcK fp3 (e3.at hv)
  have hp':H5 p=some (.lst ((vec n fun _=>0).map V.int)):=b5.lst hp0 hpD
  have hD':D∉as:=fun z=>by
   obtain⟨m,hm,hm1,hm2⟩:=hR.mem z
   rw[hv]at hm2
   have hn:n≠0:=by omega
   cases as with
   | nil=>cases z
   | cons z0 zs=>
    obtain⟨n',rfl⟩:∃n',n=n'+1:=⟨n-1,by omega⟩
    unfold vec at hm2
    rw[List.range_succ_eq_map]at hm2
    cases hm2
  refine⟨⟨_,rfl⟩,by walk_at "h",_,h5,by rw[yb];exact yp hvl,as++[p],by rw[yl];rfl,by rw[yb,hal];rfl,Rows.app ((hR.same (e3.trans e4)).but b5 hD') ((hR.same e3).fresh fp3) hp',fun b hb=>?_⟩
  rcases yR.mp hb with h | h
  ·exact hF b h
  ·rw[yw.mp h];exact Same.none fp3 (e2.trans e3)
 ·rintro l H2 vs fl e2 hl hvl ⟨as,rfl,hal,hR,hF⟩
  rw[hol]at hal
  walk_at "x"
  have hla:l∉as:=fun z=>by
   obtain⟨m,hm,hm1,hm2⟩:=hR.mem z
   rw[hl]at hm2
   cases as with
   | nil=>cases z
   | cons z0 zs=>
    obtain⟨n',rfl⟩:∃n',n=n'+1:=⟨n-1,by simp only[yaD]at hal;omega⟩
    unfold vec at hm2
    rw[List.range_succ_eq_map]at hm2
    cases hm2
  refine zco (xs:=xs) (fun i σ' H'=>∃f3 f4 f5 f6,σ'=[some (.ref a),some (.ref b),some (.ref l),f3,f4,f5,f6]/\H' l=some (.lst (as.map V.ref))/\Rows H' as n (zat ρ (ds.take i))/\Same H H') ?_ ?_ ?_ ?_
  ·exact⟨_,_,_,_,rfl,hl,hR,e2⟩
  ·rintro i σ' H' _ ⟨_,_,_,_,_,_,_,e⟩;exact e.seq hS
  ·rintro i x σ' H3 hx ⟨f3,f4,f5,f6,rfl,hl3,hR3,e3⟩
   obtain⟨b',d,rfl,hdi,hb'⟩:=(hT.same e3).get hx
   have hb2:H3 b'=some (.tup [.int d.p,.int d.q,.int d.r,.int d.a]):=hb'
   obtain⟨p0,p1,q0,q1,pq,r0,r1,a0,a1⟩:=hd d (ya hdi)
   obtain⟨c,hc⟩:=zO (show d.p.toNat<as.length by omega)
   have hrow:=hR3.2 _ _ hc
   have hcm:=ya hc
   have hlc:l≠c:=fun z=>hla (z▸hcm)
   have fc:=hF c hcm
   have hb3:=e3.at hb
   have hat:atI (z9 n ρ) d.p=some (zbb (ρ d.p.toNat)):=zaB (by omega) (za3 (by omega))
   walk_at "x"
   refine zko r0 ?_
   walk_at "x"
   ·rename_i hρ H4 b4 h4
    refine⟨_,_,_,_,rfl,b4.lst hl3 hlc,(hR3.set b4 hc h4).congr fun m hm j hj=>?_,by walk_at "h"⟩
    rw[zav hdi,zbh]
    by_cases e1:m=d.p.toNat
    ·rw[if_pos e1]
     by_cases e2:j=d.q.toNat
     ·rw[if_pos e2,if_pos ⟨by omega,by omega,by rw[e1];exact hρ⟩,e1,e2]
     ·rw[if_neg e2,if_neg (fun z=>e2 (by omega)),e1];omega
    ·rw[if_neg e1,if_neg (fun z=>e1 (by omega))];omega
   ·rename_i hρ
    refine⟨_,_,_,_,rfl,hl3,hR3.congr fun m hm j hj=>?_,e3⟩
    rw[zav hdi,zbh,if_neg (fun z=>hρ (by rw[show d.p.toNat=m by omega];exact z.2.2))];omega
  ·rintro σ' H3 ⟨f3,f4,f5,f6,rfl,hl3,hR3,e3⟩
   rw[hT.length,yK]at hR3
   walk_at "x"
   exact k _ _ _ fl e3 hl3 hal hR3 hF
theorem zkg(T:Txt K mg):FnOk P w K mg base (CXF P w) 1 T.d_reach_of.a T.d_reach_of.fd ["flows", "member"] (zhf K):=by
 refine T.d_reach_of.F.okN sc_reach_of (fun vs H Q E h=>?_) (fun cdv A outer s H vs Q E hr h=>?_)
 ·obtain⟨a,i,n,as,F,rfl,_⟩:=h;rfl
 obtain⟨a,i,n,as,F,rfl,ha,hal,hR,h9,hi,k⟩:=h
 refine⟨_,(zj (zE (i:=2) sc_reach_of.nd rfl (Or.inr rfl) (zbk (ze (pv 1) zh)))
 (zj (zE (i:=3) sc_reach_of.nd rfl (Or.inl rfl) zi)
 (zj (zdX PassesOwn.never (zK zcy (pv 3) (zR (show CallR _ _ (zaO K)from zW) rfl T.z_len BT.len (ze (pv 2) zh)) (nomark _))
 (zj (zE (i:=4) sc_reach_of.nd rfl (Or.inl rfl) (zB (show IxR _ (rIx K)from zy) (pv 0) (zB (show IxR _ (rIx K)from zy) (pv 2) (pv 3) (fun _ _=>rfl)) (fun _ _=>rfl)))
 (zj (zb3 (show PE _ _ (tBM K _ _ _ _)from zc7 yT PySem.F.slot_list_extend PySem.F.type_list_extend zmb (pv 2) (ze (za0 rfl (show PI _ _ _ (zcb K _)from zbp rfl T.z_enumerate (ze (pv 4) zh)) (zP (Ni:=["other", "flow", "reached"]) (caps:=[none,none,some 2]) (by rfl)) (fun S _ _ _ _ _=>(show PG _ _ (zbx K 2 _)from zaU (n:=2) rfl (zQ (zS (gi:=0) S (Or.inl rfl) rfl) (zQ (zS (gi:=1) S (Or.inl rfl) rfl) zaH)))) (fun _ _ _ _ _=>(zmu (PW.pt (zb5 (zK zcR (pv 1) zi (nomark _)) (zcq (zK (show OpR _ (compareOp .NotIn) (rIn K true)from zfc) (pv 0) (pv 2) (by with_unfolding_all rfl))))))) (fun _ _ _ _ _=>(pv 0))) zh)))
 (zm (zlY (i:=3) sc_reach_of.nd rfl (Or.inl rfl) zi zfp)))))
 (zm (zH (pv 2)))))),?_⟩
 refine zN (σ0:=[some (.ref a),some (.int (i:Int)),none,none,none]) rfl ?_
 walk_at "x"
 rename_i p H1 fp e1 hp
 generalize hg:(fun i j=>decide (0<F i j))=g at k
 have hgg:∀i j,g i j=decide (0<F i j):=fun i j=>by rw[<- hg]
 refine⟨fun m σ H'=>∃(t:Nat) (f4:Option V),σ=[some (.ref a),some (.int (i:Int)),some (.ref p),some (.int (t:Int)),f4]/\t<=(Rc.seqL n g i t).length/\H' p=some (.lst (zax (Rc.seqL n g i t)))/\Same H H'/\m=n-t,⟨_,0,_,rfl,yF _,hp,e1,rfl⟩,?_⟩
 rintro m σ H2 ⟨t,f4,rfl,ht,hp2,e2,rfl⟩
 have hsl:=zac (l:=Rc.seqL n g i t)
 have hsn:=Rc.seq_len (g:=g) hi t
 walk_at "x"
 ·rename_i hlt
  have hlt':t<(Rc.seqL n g i t).length:=by omega
  refine⟨fun σ' H'=>∃f4:Option V,σ'=[some (.ref a),some (.int (i:Int)),some (.ref p),some (.int ((t+1:Nat):Int)),f4]/\H' p=some (.lst (zax (Rc.seqL n g i (t+1))))/\Same H H',?_,?_⟩
  ·rintro σ' H' ⟨f5,rfl,hp3,e3⟩
   refine⟨n-(t+1),by omega,t+1,f5,rfl,?_,hp3,e3,rfl⟩
   rw[Rc.seq_succ hlt',yb];omega
  ·generalize hs:Rc.seqL n g i t=sl at *
   have hxn:sl.getD t 0<n:=zb4 hlt' (by rw[<- hs];exact fun x hx=>Rc.seq_lt hi t x hx)
   obtain⟨c,hc⟩:=zO (show sl.getD t 0<as.length by omega)
   have hat:atI (zax sl) (t:Int)=some (.int ((sl.getD t 0:Nat):Int)):=zak (zb9 hlt')
   have hat2:atI (as.map V.ref) ((sl.getD t 0:Nat):Int)=some (.ref c):=zak (by rw[yf,hc];rfl)
   have ha2:=e2.at ha
   have hc2:=(hR.same e2).2 _ _ hc
   walk_at "x"
   refine zbT (za4 (K:=K) (a:=c) (xs:=(vec n (F (sl.getD t 0))).map V.int)) (fun H' e=>SqL.of (e.at hc2)) rfl (fun j vs _=>vs=zax ((List.range j).filter fun k=>g (sl.getD t 0) k&&!decide (k∈sl))) (fun H' _=>rfl) ?_ ?_
   ·rintro j x D vs o o' H3 H4 hj hD e3 hv hvl rfl e4 ⟨tt,v,rfl,hx,htt⟩
    rw[yh,zbo]at hj
    rw[yf,zbn hj]at hx
    cases hx
    have ht':H4 tt=some (.tup [.int (j:Int),.int (F (sl.getD t 0) j)]):=htt
    have hp4:=(e3.trans e4).at hp2
    walk_at "x"
    ·rename_i h1 h2 H5 b5 h5
     refine⟨⟨_,_,rfl⟩,by walk_at "h",_,h5,by rw[yb];exact yp hvl,?_⟩
     dsimp only
     rw[zd5,if_pos (by rw[hgg,decide_eq_true h1,decide_eq_false (fun z=>h2 (intsN_mem.mpr z))];rfl),zdA];rfl
    ·rename_i h1 h2
     refine⟨⟨_,_,rfl⟩,by walk_at "h",_,by walk_at "h",ya5 hvl,?_⟩
     dsimp only
     rw[zd5,if_neg (by rw[decide_eq_true (intsN_mem.mp h2)];simp),yau]
    ·rename_i h1
     refine⟨⟨_,_,rfl⟩,by walk_at "h",_,by walk_at "h",ya5 hvl,?_⟩
     dsimp only
     rw[zd5,if_neg (by rw[hgg,decide_eq_false h1];simp),yau]
   ·rintro D H3 vs hD e3 hv hvl rfl
    rw[yh,zbo]at hv
    have hp3:=e3.at hp2
    have hfl:=ybp (fun k=>g (sl.getD t 0) k&&!decide (k∈sl)) (List.range n)
    rw[yv]at hfl
    have hnl:=zac (l:=(List.range n).filter fun k=>g (sl.getD t 0) k&&!decide (k∈sl))
    walk_at "x"
    refine zqr hp3 hv (by omega) fun H4 b4 h4=>?_
    walk_at "x"
    refine⟨_,rfl,?_,by walk_at "h"⟩
    rw[Rc.seq_succ (by rw[hs];exact hlt'),hs,zdA];exact h4
 ·rename_i hlt
  have:=Rc.seq_end (g:=g) hi ht (by omega)
  rw[this]at hp2
  walk_at "x"
  exact k p _ fp e2 hp2
theorem zgn(T:Txt K mg):FnOk P w K mg base (CXF P w) 2 T.d_closed_circle.a T.d_closed_circle.fd ["flows", "ranks"] (zgi K):=by
 refine T.d_closed_circle.F.okN sc_closed_circle (fun vs H Q E h=>?_) (fun cdv A outer s H vs Q E hr h=>?_)
 ·obtain⟨a,b,n,as,F,ρ,rfl,_⟩:=h;rfl
 obtain⟨a,b,n,as,F,ρ,rfl,ha,hal,hR,hb,h9,k⟩:=h
 have hol:(z9 n ρ).length=n:=zbs
 refine⟨_,(zj (zE (i:=2) sc_closed_circle.nd rfl (Or.inl rfl) (zbk zh))
 (zj (zau PassesOwn.never rfl (zaS rfl T.z_range (ze (zR (show CallR _ _ (zaO K)from zW) rfl T.z_len BT.len (ze (pv 1) zh)) zh)) (zU (i:=3) sc_closed_circle.nd rfl (Or.inl rfl))
 (zj (zE (i:=4) sc_closed_circle.nd rfl (Or.inl rfl) (zA (zkg T) (hr.mono (by decide)) rfl T.d_reach_of.m T.d_reach_of.F.kp T.d_reach_of.b .nil (zG zF) (ze (pv 0) (ze (pv 3) zh))))
 (zm (zX (show PT _ _ (zbL K _)from zaj (zR (show CallR _ _ (zgB K)from zhL rfl) rfl T.z_all BT.all (ze (za0 rfl (show PI _ _ _ (zaG K _)from zai (pv 4)) (zP (Ni:=["other", "ranks"]) (caps:=[none,some 1]) (by rfl)) (fun S _ _ _ _ _=>(zS (gi:=0) S (Or.inl rfl) rfl)) (fun _ _ _ _ _=>zal) (fun _ _ _ _ _=>(zcO zhy (zB (show IxR _ (rIx K)from zy) (pv 1) (pv 0) (fun _ _=>rfl)) zcn (nomark _)))) zh)) (fun _=>rfl))
 (zm (zb3 (show PE _ _ (tBM K _ _ _ _)from zc7 yT yY yZ zbj (pv 2) (ze (pv 4) zh))))
 zT))))
 (zm (zH (show PE _ _ (zkA K _)from zl2 rfl (by rfl) T.z_min BT.min (by rfl) T.z_len BT.len (ze (pv 2) zh)))))),?_⟩
 refine zN (σ0:=[some (.ref a),some (.ref b),none,none,none]) rfl ?_
 walk_at "x"
 rename_i cs H1 fcs e1 hcs
 generalize hg:(fun i j=>decide (0<F i j))=g at k
 have hgg:∀i j,g i j=decide (0<F i j):=fun i j=>by rw[<- hg]
 refine zdC (n:=((z9 n ρ).length:Int).toNat) (fun i σ' H'=>∃(f3 f4:Option V) (ls:List Addr),σ'=[some (.ref a),some (.ref b),some (.ref cs),f3,f4]/\H' cs=some (.lst (ls.map V.ref))/\cs∉ls/\(∀c∈ls,H c=none)/\ls.length<=i/\LsOf H' ls (((List.range i).map (Rc.reach n g)).filter fun l=>l.all fun i=>(ρ i).isSome)/\Same H H') ⟨_,_,[],rfl,hcs,(fun z=>nomatch z),(fun _ z=>nomatch z),yg _,LsOf.nil,e1⟩ ?_ ?_
 ·rintro i σ' H2 hi ⟨f3,f4,ls,rfl,hcs2,ncs,fls,hll,hL,e2⟩
  have ei:(0:Int)+(i:Int)=i:=by omega
  rw[yx,hol]at hi
  have ha2:=e2.at ha
  have hR2:=hR.same e2
  have hb2:=e2.at hb
  rw[ei]
  walk_at "x"
  rename_i p1 H3 fp1 e3 hp1
  rw[hg]at hp1
  have er:((List.range (i+1)).map (Rc.reach n g)).filter (fun l=>l.all fun i=>(ρ i).isSome)=((List.range i).map (Rc.reach n g)).filter (fun l=>l.all fun i=>(ρ i).isSome)++if((Rc.reach n g i).all fun i=>(ρ i).isSome)=true then[Rc.reach n g i] else[]:=by
   rw[yC,yl,ybA,yA,zpH]
  rw[er]
  have hrl:∀x∈Rc.reach n g i,x<n:=fun x hx=>Rc.reach_lt hi hx
  have hrn:(Rc.reach n g i).length<=n:=Rc.seq_len (g:=g) hi n
  generalize Rc.reach n g i=rl at *
  have hb3:=e3.at hb2
  refine zam (zaP (K:=K) (a:=p1) (xs:=zax rl)) (fun H' e=>SqL.of (e.at hp1)) rfl (fun j vs _=>vs=((rl.take j).map fun x=>(ρ x).isSome).map V.bl) (fun H' _=>rfl) ?_ ?_
  ·rintro j x D vs o H4 H5 hj hD e4 hv hvl rfl e5 hx
   rw[zac]at hj
   rw[zb9 hj]at hx
   cases hx
   have hxn:=zb4 hj hrl
   have hb5:=(e4.trans e5).at hb3
   have hat:atI (z9 n ρ) ((rl.getD j 0:Nat):Int)=some (zbb (ρ (rl.getD j 0))):=zak (za3 hxn)
   walk_at "x"
   rename_i H6 b6 h6
   rw[zgg,show(!(ρ (rl.getD j 0)).isNone)=(ρ (rl.getD j 0)).isSome by cases ρ (rl.getD j 0)<;>rfl]at h6
   refine⟨⟨_,rfl⟩,by walk_at "h",_,h6,by rw[yb];exact yp hvl,?_⟩
   dsimp only
   have hgd:rl[j]?=some (rl.getD j 0):=by rw[ye,yj hj];rfl
   rw[zav hgd,yl,yl];rfl
  ·rintro D H4 vs hD e4 hv hvl rfl
   rw[zac,yK]at hv
   have hlm:(ls.map V.ref).length<=100000:=by rw[yh];omega
   have ea:((rl.map fun x=>(ρ x).isSome).all id)=rl.all fun i=>(ρ i).isSome:=by rw[List.all_map];rfl
   have hcs4:H4 cs=some (.lst (ls.map V.ref)):=(e3.trans e4).at hcs2
   have e34:=e3.trans e4
   walk_at "x"
   ·rename_i hyes H5 b5 h5
    rw[ea]at hyes
    have np1:p1≠cs:=zcK fp1 hcs2
    refine⟨_,_,ls++[p1],rfl,by rw[h5,yl];rfl,fun z=>?_,fun c hc=>?_,by rw[yb];simp only[y8];omega,?_,by walk_at "h"⟩
    ·rcases yR.mp z with h | h
     ·exact ncs h
     ·exact np1 (yw.mp h).symm
    ·rcases yR.mp hc with h | h
     ·exact fls c h
     ·rw[yw.mp h];exact Same.none fp1 e2
    ·rw[if_pos hyes]
     exact((hL.same e34).but b5 ncs).snoc (b5.lst (e4.at hp1) np1)
   ·rename_i hno
    rw[ea]at hno
    rw[if_neg (by rw[hno];decide),yau]
    exact⟨_,_,ls,rfl,hcs4,ncs,fls,ya5 hll,hL.same e34,e2.trans e34⟩
 ·rintro σ' H2 ⟨f3,f4,ls,rfl,hcs2,ncs,fls,hll,hL,e2⟩
  rw[yx,hol]at hL
  have hcl:∀c∈((List.range n).map (Rc.reach n g)).filter (fun l=>l.all fun i=>(ρ i).isSome),c.length<=n:=fun c hc=>by
   obtain⟨i,hi,rfl,_⟩:=Rc.mem_circles.mp hc
   exact Rc.seq_len (g:=g) hi n
  have hck:Rc.circle n g (fun i=>(ρ i).isSome)=Rc.minL (((List.range n).map (Rc.reach n g)).filter fun l=>l.all fun i=>(ρ i).isSome):=rfl
  rw[hck]at k
  generalize (((List.range n).map (Rc.reach n g)).filter fun l=>l.all fun i=>(ρ i).isSome)=C at *
  show(zlp (zk6 2) zjO) _ _ (zkB K _)
  walk_at "x"
  refine⟨cs,ls,fun i=>(C.getD i []).length,rfl,SqL.of hcs2,fun i c hc=>?_,fun p H3 fp e3 hp=>⟨fun hn=>?_,fun i c hc hmin=>?_⟩⟩
  ·obtain⟨l,h1,h2⟩:=hL.2 i c hc
   have e:C.getD i []=l:=by rw[ye,h1];rfl
   have:=hcl l (ya h1)
   exact⟨_,h2,by rw[zac];exact(congrArg List.length e).symm,by show(C.getD i []).length<=16000;rw[e];omega⟩
  ·have hC:C=[]:=yaf (by rw[<- hL.1,hn];rfl)
   rw[hC]at k
   exact k p H3 (Same.none fp e2) (e2.trans e3) hp
  ·obtain⟨l,h1,h2⟩:=hL.2 i c hc
   have e:C.getD i []=l:=by rw[ye,h1];rfl
   have em:=zoX h1 fun j m hm=>by
    have hj:j<ls.length:=by rw[hL.1];exact(yk.mp hm).1
    have:=hmin j hj
    dsimp only at this
    rw[e,show C.getD j []=m by rw[ye,hm];rfl]at this
    exact this
   rw[em]at k
   exact k c H3 (fls c (ya hc)) (e2.trans e3) (e3.at h2)
theorem zfU(T:Txt K mg):FnOk P w K mg base (CXF P w) 1 T.d_balances.a T.d_balances.fd ["flows", "members"] (zkU K):=by
 refine T.d_balances.F.okN sc_balances (fun vs H Q E h=>?_) (fun cdv A outer s H vs Q E hr h=>?_)
 ·obtain⟨a,b,n,as,F,c,rfl,_⟩:=h;rfl
 obtain⟨a,b,n,as,F,c,rfl,ha,hal,hR,hb,hc,c9,h9,k⟩:=h
 refine⟨_,(zj (zbf (i:=2) sc_balances.nd rfl rfl rfl (show PI _ _ _ (zaG K _)from zai (pv 1)) (zP (Ni:=["member", "members", "flows"]) (caps:=[none,some 1,some 0]) (by rfl)) (fun S _ _ _ _ _=>(zS (gi:=0) S (Or.inr rfl) rfl)) (fun _ _ _ _ _=>zal) (fun _ _ _ _ _=>(za0 rfl (show PI _ _ _ (zaG K _)from zai (pv 1)) (zP (Ni:=["other", "flows", "member"]) (caps:=[none,some 2,some 0]) (by rfl)) (fun S _ _ _ _ _=>(zS (gi:=0) S (Or.inl rfl) rfl)) (fun _ _ _ _ _=>zal) (fun _ _ _ _ _=>(zad (ze (zew zd7 (zB (show IxR _ (rIx K)from zy) (zB (show IxR _ (rIx K)from zy) (pv 1) (pv 0) (fun _ _=>rfl)) (pv 2) (fun _ _=>rfl))) (ze zi zh)))))))
 (zj (zau PassesOwn.never rfl (show PI _ _ _ (zcb K _)from zbp rfl T.z_enumerate (ze (pv 1) zh)) (show PG _ _ (zbx K 2 _)from zaU (n:=2) rfl (zQ (zU (i:=3) sc_balances.nd rfl (Or.inl rfl)) (zQ (zU (i:=4) sc_balances.nd rfl (Or.inl rfl)) zaH)))
 (zm (zcH (zad (ze (zR (show CallR _ _ (zeg K)from zcJ rfl) rfl T.z_sum BT.sum (ze (zB (show IxR _ (rIx K)from zy) (pv 0) (pv 4) (fun _ _=>rfl)) zh)) (ze zi zh))) (zcE (zB (show IxR _ (rIx K)from zy) (pv 2) (pv 3) (fun _ _=>rfl)) (pv 3) za6))))
 (zm (zH (pv 2))))),?_⟩
 refine zN (σ0:=[some (.ref a),some (.ref b),none,none,none]) rfl ?_
 walk_at "x"
 refine zam (zaP (K:=K) (a:=b) (xs:=zax c)) (fun H' e=>SqL.of (e.at hb)) rfl (fun i vs H'=>∃bs:List Addr,vs=bs.map V.ref/\bs.length=i/\PRows H' bs (fun a=>(List.range c.length).map fun b=>((-F (c.getD b 0) (c.getD a 0):Int):Rat))/\∀b∈bs,H b=none) (fun H' _=>⟨[],rfl,rfl,PRows.nil,fun _ h=>nomatch h⟩) ?_ ?_
 ·rintro i x D vs o H2 H3 hi hD e2 hv hvl ⟨bs,rfl,hbl,hP,hF⟩ e3 hx
  rw[zac]at hi
  rw[zb9 hi]at hx
  cases hx
  have hxn:=zb4 hi hc
  have hb3:=(e2.trans e3).at hb
  have ha3:=(e2.trans e3).at ha
  have hR3:=hR.same (e2.trans e3)
  walk_at "x"
  refine zam (zaP (K:=K) (a:=b) (xs:=zax c)) (fun H' e=>SqL.of (e.at hb3)) rfl (fun j vs H'=>IsQs H' vs ((List.range j).map fun b=>((-F (c.getD b 0) (c.getD i 0):Int):Rat))) (fun H' _=>trivial) ?_ ?_
  ·rintro j x D2 vs o2 H4 H5 hj hD2 e4 hv2 hvl2 hQ e5 hx
   rw[zac]at hj
   rw[zb9 hj]at hx
   cases hx
   have hyn:=zb4 hj hc
   obtain⟨r,hr1⟩:=zO (show c.getD j 0<as.length by omega)
   have hr5:=(hR3.same (e4.trans e5)).2 _ _ hr1
   have ha5:=(e4.trans e5).at ha3
   have hat:atI (as.map V.ref) ((c.getD j 0:Nat):Int)=some (.ref r):=zak (by rw[yf,hr1];rfl)
   have hat2:atI ((vec n (F (c.getD j 0))).map V.int) ((c.getD i 0:Nat):Int)=some (.int (F (c.getD j 0) (c.getD i 0))):=zak (by rw[yf,zbn hxn];rfl)
   walk_at "x"
   refine zay (q:=((-F (c.getD j 0) (c.getD i 0):Int):Rat)) ⟨rfl,rfl⟩ ?_
   intro p H6 e6 hp
   have hv6:=(e5.trans e6).at hv2
   walk_at "x"
   rename_i H7 b7 h7
   refine⟨⟨_,rfl⟩,b7.same ((e4.trans e5).trans e6) hD2,_,h7,by rw[yb];exact yp hvl2,?_⟩
   show IsQs H7 _ ((List.range (j+1)).map _)
   rw[yC,yl,yA]
   exact IsQs.app (LBut.isQ b7 hp) (LBut.isQs b7 (hQ.same (e5.trans e6)))
  ·rintro D2 H4 vs hD2 e4 hv2 hvl2 hQ
   rw[zac]at hQ
   have hv4:=(e3.trans e4).at hv
   walk_at "x"
   rename_i H5 b5 h5
   have nDb:D∉bs:=hP.ne hv
   have n2b:D2∉bs:=(hP.same e3).fresh hD2
   have n2D:D2≠D:=fun z=>by rw[z,e3.at hv]at hD2;cases hD2
   refine⟨⟨_,rfl⟩,b5.same ((e2.trans e3).trans e4) hD,_,h5,by rw[yb];exact yp hvl,bs++[D2],by rw[yl];rfl,by rw[yb,hbl];rfl,PRows.snoc ((hP.same (e3.trans e4)).but b5 nDb) n2b (b5.lst hv2 n2D) (by rw[hbl];exact LBut.isQs b5 hQ),fun y hy=>?_⟩
   rcases yR.mp hy with h | h
   ·exact hF y h
   ·rw[yw.mp h];exact Same.none hD2 (e2.trans e3)
 ·rintro l H2 vs fl e2 hl hvl ⟨bs,rfl,hbl,hP,hF⟩
  rw[zac]at hbl
  walk_at "x"
  have hlb:l∉bs:=hP.ne hl
  have hb2:=e2.at hb
  refine zdE (za4 (K:=K) (a:=b) (xs:=zax c)) (fun i σ' H'=>∃f3 f4:Option V,σ'=[some (.ref a),some (.ref b),some (.ref l),f3,f4]/\H' l=some (.lst (bs.map V.ref))/\PRows H' bs (fun a=>(List.range c.length).map fun b=>(((if a<i then zcw n F c a b else -F (c.getD b 0) (c.getD a 0)):Int):Rat))/\Same H H') ⟨_,_,rfl,hl,hP.congr fun m hm=>(by simp),e2⟩ ?_ ?_ ?_
  ·rintro i σ' H' ⟨_,_,_,_,_,e⟩;exact SqL.of (e.at hb)
  ·rintro i x σ' H3 H4 hi ⟨f3,f4,rfl,hl3,hP3,e3⟩ e4 ⟨t,v,rfl,hx,htt⟩
   rw[zac]at hi
   rw[zb9 hi]at hx
   cases hx
   have ht':H4 t=some (.tup [.int (i:Int),.int ((c.getD i 0:Nat):Int)]):=htt
   have hxn:=zb4 hi hc
   have ha4:=(e3.trans e4).at ha
   obtain⟨r,hr1⟩:=zO (show c.getD i 0<as.length by omega)
   have hr4:=(hR.same (e3.trans e4)).2 _ _ hr1
   have hat:atI (as.map V.ref) ((c.getD i 0:Nat):Int)=some (.ref r):=zak (by rw[yf,hr1];rfl)
   obtain⟨s1,hs1⟩:=zO (show i<bs.length by omega)
   have hat2:atI (bs.map V.ref) (i:Int)=some (.ref s1):=zak (by rw[yf,hs1];rfl)
   have hl4:=e4.at hl3
   obtain⟨ws,hw1,hw2⟩:=(hP3.same e4).2 _ _ hs1
   have hwl:=hw2.length
   rw[yh,yv]at hwl
   walk_at "x"
   refine zay (q:=((zao (vec n (F (c.getD i 0))):Int):Rat)) ⟨rfl,rfl⟩ ?_
   intro p H5 e5 hp
   have hl5:=e5.at hl4
   have hw5:=e5.at hw1
   walk_at "x"
   refine zcC (j:=((i:Int)).toNat) hw5 (zcD (by omega) (by omega)) ?_
   intro H6 b6 h6
   rw[yx]at h6
   walk_at "x"
   have hsm:s1∈bs:=ya hs1
   have nls:l≠s1:=fun z=>hlb (z▸hsm)
   refine⟨_,_,rfl,b6.lst hl5 nls,((((hP3.same e4).same e5).upd b6 hs1 h6 (IsQs.setQ (LBut.isQ b6 hp) i (LBut.isQs b6 (hw2.same e5)))).congr fun m hm=>?_),b6.same ((e3.trans e4).trans e5) (hF _ hsm)⟩
   dsimp only
   by_cases e:m=i
   ·subst e
    rw[if_pos rfl,zhw]
    refine yE fun j hj=>?_
    unfold zcw
    by_cases g:j=m
    ·rw[if_pos g,if_pos (by omega),if_pos g.symm]
    ·rw[if_neg g,if_neg (by omega),if_pos (by omega),if_neg (fun z=>g z.symm)]
   ·rw[if_neg e]
    refine yE fun j hj=>?_
    by_cases g:m<i
    ·rw[if_pos g,if_pos (by omega)]
    ·rw[if_neg g,if_neg (by omega)]
  ·rintro σ' H3 ⟨f3,f4,rfl,hl3,hP3,e3⟩
   walk_at "x"
   exact k l H3 bs fl e3 hl3 hbl (hP3.congr fun m hm=>yE fun j hj=>(by rw[zac,if_pos (by omega)])) hF
theorem zfV(T:Txt K mg):FnOk P w K mg base (CXF P w) 3 T.d_rates_of.a T.d_rates_of.fd ["flows", "members", "shares"] (zkm K):=by
 refine T.d_rates_of.F.okN sc_rates_of (fun vs H Q E h=>?_) (fun cdv A outer s H vs Q E hr h=>?_)
 ·obtain⟨a,b,d,n,as,F,c,ws,x,rfl,_⟩:=h;rfl
 obtain⟨a,b,d,n,as,F,c,ws,x,rfl,ha,hal,hR,hb,hc,nd,c9,h9,hd,hx,z1,z2,k⟩:=h
 refine⟨_,(zj (zbf (i:=3) sc_rates_of.nd rfl rfl rfl (show PI _ _ _ (zaG K _)from zai (pv 0)) (zP (Ni:=["flow"]) (caps:=[none]) (by rfl)) (fun S _ _ _ _ _=>(zS (gi:=0) S (Or.inl rfl) rfl)) (fun _ _ _ _ _=>zal) (fun _ _ _ _ _=>(zad (ze zi (ze zi zh)))))
 (zj (zau PassesOwn.never rfl (show PI _ _ _ (zcb K _)from zbp rfl T.z_enumerate (ze (pv 1) zh)) (show PG _ _ (zbx K 2 _)from zaU (n:=2) rfl (zQ (zU (i:=4) sc_rates_of.nd rfl (Or.inl rfl)) (zQ (zU (i:=5) sc_rates_of.nd rfl (Or.inl rfl)) zaH)))
 (zm (zcH (zA (zdV T) (hr.mono (by decide)) rfl T.d_times.m T.d_times.F.kp T.d_times.b .nil (zG zF) (ze (zB (show IxR _ (rIx K)from zy) (pv 2) (pv 4) (fun _ _=>rfl)) (ze (zad (ze (zR (show CallR _ _ (zeg K)from zcJ rfl) rfl T.z_sum BT.sum (ze (zB (show IxR _ (rIx K)from zy) (pv 0) (pv 5) (fun _ _=>rfl)) zh)) (ze zi zh))) zh))) (zcE (pv 3) (pv 5) za6))))
 (zm (zH (pv 3))))),?_⟩
 refine zN (σ0:=[some (.ref a),some (.ref b),some (.ref d),none,none,none]) rfl ?_
 walk_at "x"
 refine zam (zaP (K:=K) (a:=a) (xs:=as.map V.ref)) (fun H' e=>SqL.of (e.at ha)) rfl (fun i vs H'=>IsQs H' vs ((List.range i).map fun _=>(0:Rat))) (fun H' _=>trivial) ?_ ?_
 ·rintro i x D vs o H2 H3 hi hD e2 hv hvl hQ e3 hx
  rw[yh]at hi
  walk_at "x"
  refine zay (q:=(0:Rat)) ⟨rfl,rfl⟩ ?_
  intro p H4 e4 hp
  have hv4:=(e3.trans e4).at hv
  walk_at "x"
  rename_i H5 b5 h5
  refine⟨⟨_,rfl⟩,b5.same ((e2.trans e3).trans e4) hD,_,h5,by rw[yb];exact yp hvl,?_⟩
  show IsQs H5 _ ((List.range (i+1)).map _)
  rw[yC,yl,yA]
  exact IsQs.app (LBut.isQ b5 hp) (LBut.isQs b5 (hQ.same (e3.trans e4)))
 ·rintro l H2 vs fl e2 hl hvl hQ
  rw[yh,hal]at hQ
  walk_at "x"
  refine zdE (za4 (K:=K) (a:=b) (xs:=zax c)) (fun i σ' H'=>∃(f4 f5:Option V) (us:List V),σ'=[some (.ref a),some (.ref b),some (.ref d),some (.ref l),f4,f5]/\H' l=some (.lst us)/\IsQs H' us ((List.range n).map fun j=>sF i (fun a=>c.getD a 0) x j*((zao (vec n (F j)):Int):Rat))/\Same H H') ⟨_,_,vs,rfl,hl,by rw[show(List.range n).map (fun j=>sF 0 (fun a=>c.getD a 0) x j*((zao (vec n (F j)):Int):Rat))=(List.range n).map (fun _=>(0:Rat))from yE fun j _=>by show(0:Rat)*_=0;grind];exact hQ,e2⟩ ?_ ?_ ?_
  ·rintro i σ' H' ⟨_,_,_,_,_,_,e⟩;exact SqL.of (e.at hb)
  ·rintro i y σ' H3 H4 hi ⟨f4,f5,us,rfl,hl3,hU,e3⟩ e4 ⟨t,v,rfl,hy,htt⟩
   rw[zac]at hi
   rw[zb9 hi]at hy
   cases hy
   have ht':H4 t=some (.tup [.int (i:Int),.int ((c.getD i 0:Nat):Int)]):=htt
   have hxn:=zb4 hi hc
   have e04:=e3.trans e4
   have ha4:=e04.at ha
   have hd4:=e04.at hd
   obtain⟨r,hr1⟩:=zO (show c.getD i 0<as.length by omega)
   have hr4:=(hR.same e04).2 _ _ hr1
   have hat:atI (as.map V.ref) ((c.getD i 0:Nat):Int)=some (.ref r):=zak (by rw[yf,hr1];rfl)
   have hwl:=hx.length
   rw[yh,yv]at hwl
   have hul:=hU.length
   rw[yh,yv]at hul
   obtain⟨v,hv1⟩:=zO (show i<ws.length by omega)
   obtain⟨g,q,rfl,hq1,hq2⟩:=hx.get hv1
   rw[yf,yL hi]at hq1
   cases hq1
   have hat2:atI ws (i:Int)=some (.ref g):=zak hv1
   have hg4:=e04.isQ hq2
   have zx:=z1 i hi
   have zs:=z2 _ hxn
   walk_at "x"
   refine zay (q:=((zao (vec n (F (c.getD i 0))):Int):Rat)) ⟨rfl,rfl⟩ ?_
   intro p H5 e5 hp
   have hg5:=e5.isQ hg4
   have hl5:=(e4.trans e5).at hl3
   walk_at "x"
   rename_i t2 H6 e6 ht2
   have hl6:=e6.at hl5
   refine zcC (j:=((c.getD i 0:Nat):Int).toNat) hl6 (zcD (by omega) (by omega)) ?_
   intro H7 b7 h7
   rw[yx]at h7
   walk_at "x"
   refine⟨_,_,_,rfl,h7,?_,b7.same ((e04.trans e5).trans e6) fl⟩
   have hset:=IsQs.setQ (LBut.isQ b7 ht2) (c.getD i 0) (LBut.isQs b7 (hU.same ((e4.trans e5).trans e6)))
   rw[zhw]at hset
   have e:(List.range n).map (fun m=>if m=c.getD i 0 then x i*((zao (vec n (F (c.getD i 0))):Int):Rat)else sF i (fun a=>c.getD a 0) x m*((zao (vec n (F m)):Int):Rat))=(List.range n).map fun j=>sF (i+1) (fun a=>c.getD a 0) x j*((zao (vec n (F j)):Int):Rat):=by
    refine yE fun m _=>?_
    have es:sF (i+1) (fun a=>c.getD a 0) x m=sF i (fun a=>c.getD a 0) x m+(if c.getD i 0=m then x i else 0):=rfl
    rw[es]
    by_cases e:m=c.getD i 0
    ·rw[if_pos e,if_pos e.symm,e,zgM fun a ha e2=>absurd (zbt nd a i (by omega) hi e2) (by omega)]
     grind
    ·rw[if_neg e,if_neg fun z=>e z.symm]
     grind
   rw[<- e]
   exact hset
  ·rintro σ' H3 ⟨f4,f5,us,rfl,hl3,hU,e3⟩
   rw[zac]at hU
   walk_at "x"
   exact k l H3 us fl e3 hl3 hU
theorem zfS(T:Txt K mg):FnOk P w K mg base (CXF P w) 4 T.d_circling_rates.a T.d_circling_rates.fd ["flows", "circle"] (zmz K):=by
 refine T.d_circling_rates.F.okN sc_circling_rates (fun vs H Q E h=>?_) (fun cdv A outer s H vs Q E hr h=>?_)
 ·obtain⟨a,b,n,as,F,c,rfl,_⟩:=h;rfl
 obtain⟨a,b,n,as,F,c,rfl,ha,hal,hR,hb,hc,nd,c1,c9,h9,hz,hdet,k⟩:=h
 refine⟨_,(zj (zE (i:=2) sc_circling_rates.nd rfl (Or.inl rfl) (zA (zfU T) (hr.mono (by decide)) rfl T.d_balances.m T.d_balances.F.kp T.d_balances.b .nil (zG zF) (ze (pv 0) (ze (pv 1) zh))))
 (zj (zbf (i:=3) sc_circling_rates.nd rfl rfl rfl (show PI _ _ _ (zaG K _)from zai (pv 1)) (zP (Ni:=["member"]) (caps:=[none]) (by rfl)) (fun S _ _ _ _ _=>(zS (gi:=0) S (Or.inl rfl) rfl)) (fun _ _ _ _ _=>zal) (fun _ _ _ _ _=>(zad (ze zi (ze zi zh)))))
 (zj (zcH (za0 rfl (zaS rfl T.z_range (ze (zR (show CallR _ _ (zaO K)from zW) rfl T.z_len BT.len (ze (pv 1) zh)) zh)) (zP (Ni:=["place"]) (caps:=[none]) (by rfl)) (fun S _ _ _ _ _=>(zS (gi:=0) S (Or.inl rfl) rfl)) (fun _ _ _ _ _=>zal) (fun _ _ _ _ _=>(zad (ze (zeN (zK (show OpR _ (compareOp .Eq) (zaN K)from zaF hr.units) (pv 0) zi (nomark _)) zi zi) (ze zi zh))))) (zcE (pv 2) zi za6))
 (zj (zcH (zad (ze zi (ze zi zh))) (zcE (pv 3) zi za6))
 (zm (zH (zA (zfV T) (hr.mono (by decide)) rfl T.d_rates_of.m T.d_rates_of.F.kp T.d_rates_of.b .nil (zG zF) (ze (pv 0) (ze (pv 1) (ze (zA (zhF T) (hr.mono (by decide)) rfl T.d_solved.m T.d_solved.F.kp T.d_solved.b .nil (zG zF) (ze (pv 2) (ze (pv 3) zh))) zh)))))))))),?_⟩
 refine zN (σ0:=[some (.ref a),some (.ref b),none,none]) rfl ?_
 walk_at "x"
 rename_i ro H1 bs fro e1 hro hbl hP hF
 have hb1:=e1.at hb
 refine zam (zaP (K:=K) (a:=b) (xs:=zax c)) (fun H' e=>SqL.of (e.at hb1)) rfl (fun i vs H'=>IsQs H' vs ((List.range i).map fun _=>(0:Rat))) (fun H' _=>trivial) ?_ ?_
 ·rintro i x D vs o H2 H3 hi hD e2 hv hvl hQ e3 hx
  rw[zac]at hi
  walk_at "x"
  refine zay (q:=(0:Rat)) ⟨rfl,rfl⟩ ?_
  intro p H4 e4 hp
  have hv4:=(e3.trans e4).at hv
  walk_at "x"
  rename_i H5 b5 h5
  refine⟨⟨_,rfl⟩,b5.same ((e2.trans e3).trans e4) hD,_,h5,by rw[yb];exact yp hvl,?_⟩
  show IsQs H5 _ ((List.range (i+1)).map _)
  rw[yC,yl,yA]
  exact IsQs.app (LBut.isQ b5 hp) (LBut.isQs b5 (hQ.same (e3.trans e4)))
 rintro ri H2 vs fri e2 hri hvl hQ
 rw[zac]at hQ
 have hb2:=e2.at hb1
 have hnl:=zac (l:=c)
 walk_at "x"
 refine zam (zcA (lo:=0) (n:=((zax c).length:Int).toNat)) (fun _ _=>trivial) rfl (fun i vs H'=>IsQs H' vs ((List.range i).map fun m=>if m=0 then(1:Rat)else 0)) (fun H' _=>trivial) ?_ ?_
 ·rintro i x D us o H3 H4 hi hD e3 hv hvl hU e4 rfl
  have ei:(0:Int)+(i:Int)=i:=by omega
  rw[ei]
  walk_at "x"
  ·refine zay (q:=(1:Rat)) ⟨rfl,rfl⟩ ?_
   rename_i hi0
   intro p H5 e5 hp
   have hv5:=(e4.trans e5).at hv
   walk_at "x"
   rename_i H6 b6 h6
   refine⟨⟨_,rfl⟩,b6.same ((e3.trans e4).trans e5) hD,_,h6,by rw[yb];exact yp hvl,?_⟩
   show IsQs H6 _ ((List.range (i+1)).map _)
   rw[yC,yl,yA,if_pos (by omega)]
   exact IsQs.app (LBut.isQ b6 hp) (LBut.isQs b6 (hU.same (e4.trans e5)))
  ·refine zay (q:=(0:Rat)) ⟨rfl,rfl⟩ ?_
   rename_i hi0
   intro p H5 e5 hp
   have hv5:=(e4.trans e5).at hv
   walk_at "x"
   rename_i H6 b6 h6
   refine⟨⟨_,rfl⟩,b6.same ((e3.trans e4).trans e5) hD,_,h6,by rw[yb];exact yp hvl,?_⟩
   show IsQs H6 _ ((List.range (i+1)).map _)
   rw[yC,yl,yA,if_neg (by omega)]
   exact IsQs.app (LBut.isQ b6 hp) (LBut.isQs b6 (hU.same (e4.trans e5)))
 rintro D H3 us fD e3 hD hul hU
 rw[yx,zac]at hU
 have hro3:=(e2.trans e3).at hro
 have nro:ro∉bs:=hP.ne hro
 have nD:D∉bs:=(hP.same e2).fresh fD
 have nDro:ro≠D:=fun z=>by rw[<- z,e2.at hro]at fD;cases fD
 have nri:ri∉bs:=hP.fresh fri
 have nriro:ri≠ro:=fun z=>by rw[z,hro]at fri;cases fri
 have nriD:ri≠D:=fun z=>by rw[<- z,hri]at fD;cases fD
 have hin:∀y∈bs.set 0 D,y∈bs\/y=D:=fun y hy=>ybg hy
 walk_at "x"
 refine zcC (j:=(0:Int).toNat) hro3 (zcD (by omega) (by rw[yh];omega)) ?_
 intro H4 b4 h4
 rw[show(0:Int).toNat=0 from rfl,<- ybN]at h4
 have e04:Same H H4:=b4.same ((e1.trans e2).trans e3) fro
 have hP4:=((hP.same (e2.trans e3)).put (j:=0) nD hD hU).but b4 (fun z=>(hin ro z).elim nro nDro)
 have hri4:H4 ri=some (.lst vs):=b4.lst (e3.at hri) nriro
 have hQ4:=LBut.isQs b4 (hQ.same e3)
 have hvl':=hQ.length
 rw[yh,yv]at hvl'
 walk_at "x"
 refine zay (q:=(1:Rat)) ⟨rfl,rfl⟩ ?_
 intro p5 H5 e5 hp5
 walk_at "x"
 refine zcC (j:=(0:Int).toNat) (e5.at hri4) (zcD (by omega) (by omega)) ?_
 intro H6 b6 h6
 rw[show(0:Int).toNat=0 from rfl]at h6
 have hQ6:=IsQs.setQ (LBut.isQ b6 hp5) 0 (LBut.isQs b6 (hQ4.same e5))
 rw[zhw]at hQ6
 have e06:Same H H6:=b6.same (e04.trans e5) (Same.none fri e1)
 have h46:H6 ro=some (.lst ((bs.set 0 D).map V.ref)):=b6.lst (e5.at h4) (fun z=>nriro z.symm)
 have hP6:=(hP4.same e5).but b6 (fun z=>(hin ri z).elim nri nriD)
 have ha6:=e06.at ha
 have hR6:=hR.same e06
 have hb6:=e06.at hb
 walk_at "x"
 refine zfX (n:=c.length) (R:=fun l j=>if j=c.length then(if l=0 then 1 else 0)else zc6 n F c l j) ⟨⟨bs.set 0 D,h46,by rw[yan];exact hbl,fun l g hg=>?_⟩,⟨_,h6,?_⟩⟩ c9 (fun l j hl hj=>?_) (by decide) (by decide) (by decide) ?_ ?_ ?_
 ·obtain⟨ws,w1,w2⟩:=hP6.2 l g hg
  refine⟨ws,w1,?_⟩
  dsimp only at w2
  have e:∀j∈List.range c.length,(if j=c.length then(if l=0 then(1:Rat)else 0)else zc6 n F c l j)=zc6 n F c l j:=fun j hj=>if_neg (by have:=yU.mp hj;omega)
  rw[yE e]
  by_cases e:l=0
  ·rw[if_pos e]at w2
   rw[show(List.range c.length).map (zc6 n F c l)=(List.range c.length).map (fun m=>if m=0 then(1:Rat)else 0)from yE fun j _=>if_pos e]
   exact w2
  ·rw[if_neg e]at w2
   rw[show(List.range c.length).map (zc6 n F c l)=(List.range c.length).map (fun b=>((zcw n F c l b:Int):Rat))from yE fun j _=>if_neg e]
   exact w2
 ·rw[show(fun l=>if c.length=c.length then(if l=0 then(1:Rat)else 0)else zc6 n F c l c.length)=fun l=>if l=0 then(1:Rat)else 0 from funext fun l=>if_pos rfl]
  exact hQ6
 ·have z1:SzQ (1:Rat) 60 1:=zdv (x:=1) (yc zfa (by decide))
  have z0:SzQ (0:Rat) 60 1:=zdv (x:=0) (zas (by decide))
  split
  ·split
   ·exact z1
   ·exact z0
  ·unfold zc6
   split
   ·split
    ·exact z1
    ·exact z0
   ·exact zdv (hz.bal hc hl (by omega))
 ·have:=zem (n:=c.length) (by omega)
  show c.length*(60+(c.length+1)*1+4)<=8990
  omega
 ·intro z
  refine hdet (z▸Dt.det_congr fun j r hj hr=>?_)
  show zc6 n F c r j=if j=c.length then _ else _
  rw[if_neg (by omega)]
 intro p H7 ws x fp e7 hp hx heq hsz
 have ha7:=e7.at ha6
 have hR7:=hR6.same e7
 have hb7:=e7.at hb6
 have hszx:∀m,m<c.length->SzQ (x m) 667 667:=fun m hm=>(hsz m hm).mono (zem c9) (zem c9)
 walk_at "x"
 refine zia ha7 hal hR7 hb7 hc nd c9 h9 hp hx (fun m hm=>(hszx m hm).mono (by decide) (by decide)) (fun i hi=>hz.sum hi) ?_
 intro p' H8 vs' fp' e8 hp' hv'
 refine k p' H8 vs' x (Same.none fp' (e06.trans e7)) ((e06.trans e7).trans e8) hp' hv' (fun l hl=>?_) hszx
 have:=heq l hl
 rw[if_pos rfl]at this
 rw[<- this]
 refine Dt.sm_congr fun m hm=>?_
 rw[if_neg (by omega)]
theorem zgj(T:Txt K mg):FnOk P w K mg base (CXF P w) 4 T.d_opening_rates.a T.d_opening_rates.fd ["flows", "ranks", "purses"] (zmv K):=by
 refine T.d_opening_rates.F.okN sc_opening_rates (fun vs H Q E h=>?_) (fun cdv A outer s H vs Q E hr h=>?_)
 ·obtain⟨a,b,d,n,as,F,ρ,ps,rfl,_⟩:=h;rfl
 obtain⟨a,b,d,n,as,F,ρ,ps,rfl,ha,hal,hR,hb,hd,hpl,hpz,h9,hz,hdet,k⟩:=h
 have hol:(z9 n ρ).length=n:=zbs
 refine⟨_,(zj (zbf (i:=3) sc_opening_rates.nd rfl rfl rfl (show PI _ _ _ (zcb K _)from zbp rfl T.z_enumerate (ze (pv 1) zh)) (zP (Ni:=["member", "rank"]) (caps:=[none,none]) (by rfl)) (fun S _ _ _ _ _=>(show PG _ _ (zbx K 2 _)from zaU (n:=2) rfl (zQ (zS (gi:=0) S (Or.inl rfl) rfl) (zQ (zS (gi:=1) S (Or.inl rfl) rfl) zaH)))) (fun _ _ _ _ _=>(zmu (zK zhy (pv 1) zcn (nomark _)))) (fun _ _ _ _ _=>(pv 0)))
 (zj (zbf (i:=4) sc_opening_rates.nd rfl rfl rfl (show PI _ _ _ (zaG K _)from zai (pv 3)) (zP (Ni:=["member", "purses"]) (caps:=[none,some 2]) (by rfl)) (fun S _ _ _ _ _=>(zS (gi:=0) S (Or.inl rfl) rfl)) (fun _ _ _ _ _=>zal) (fun _ _ _ _ _=>(zad (ze (zB (show IxR _ (rIx K)from zy) (pv 1) (pv 0) (fun _ _=>rfl)) (ze zi zh)))))
 (zm (zH (zA (zfV T) (hr.mono (by decide)) rfl T.d_rates_of.m T.d_rates_of.F.kp T.d_rates_of.b .nil (zG zF) (ze (pv 0) (ze (pv 3) (ze (zA (zhF T) (hr.mono (by decide)) rfl T.d_solved.m T.d_solved.F.kp T.d_solved.b .nil (zG zF) (ze (zA (zfU T) (hr.mono (by decide)) rfl T.d_balances.m T.d_balances.F.kp T.d_balances.b .nil (zG zF) (ze (pv 0) (ze (pv 3) zh))) (ze (pv 4) zh))) zh)))))))),?_⟩
 refine zN (σ0:=[some (.ref a),some (.ref b),some (.ref d),none,none]) rfl ?_
 walk_at "x"
 refine zbT (za4 (K:=K) (a:=b) (xs:=z9 n ρ)) (fun H' e=>SqL.of (e.at hb)) rfl (fun j vs _=>vs=zax ((List.range j).filter fun i=>(ρ i).isSome)) (fun H' _=>rfl) ?_ ?_
 ·rintro j x D vs o o' H3 H4 hj hD e3 hv hvl rfl e4 ⟨tt,v,rfl,hx,htt⟩
  rw[hol]at hj
  rw[za3 hj]at hx
  cases hx
  have ht':H4 tt=some (.tup [.int (j:Int),zbb (ρ j)]):=htt
  walk_at "x"
  ·rename_i h1 H5 b5 h5
   refine⟨⟨_,_,rfl⟩,by walk_at "h",_,h5,by rw[yb];exact yp hvl,?_⟩
   dsimp only
   rw[zd5,if_pos (by cases hj:ρ j with | none=>rw[hj]at h1;exact absurd rfl h1 | some _=>rfl),zdA];rfl
  ·rename_i h1
   refine⟨⟨_,_,rfl⟩,by walk_at "h",_,by walk_at "h",ya5 hvl,?_⟩
   dsimp only
   rw[zd5,if_neg (by cases hj:ρ j with | none=>decide | some _=>rw[hj]at h1;cases h1),yau]
 rintro sh H1 vs fsh e1 hsh hvl rfl
 rw[hol]at hsh
 have hc:=zmY (n:=n) (ρ:=ρ)
 have nd:=zmQ (n:=n) (ρ:=ρ)
 have hcl:=zk8 (n:=n) (ρ:=ρ)
 have hsh':H1 sh=some (.lst (zax (shorts n ρ))):=hsh
 generalize shorts n ρ=c at *
 clear hsh
 walk_at "x"
 refine zam (zaP (K:=K) (a:=sh) (xs:=zax c)) (fun H' e=>SqL.of (e.at hsh')) rfl (fun i vs H'=>IsQs H' vs ((List.range i).map fun l=>((ps.getD (c.getD l 0) 0:Int):Rat))) (fun H' _=>trivial) ?_ ?_
 ·rintro i x D vs o H2 H3 hi hD e2 hv hvl hQ e3 hx
  rw[zac]at hi
  rw[zb9 hi]at hx
  cases hx
  have hxn:=zb4 hi hc
  obtain⟨p0,hp0⟩:=zO (show c.getD i 0<ps.length by omega)
  have hpd:ps.getD (c.getD i 0) 0=p0:=by rw[ye,hp0];rfl
  have hat:atI (ps.map V.int) ((c.getD i 0:Nat):Int)=some (.int p0):=zak (by rw[yf,hp0];rfl)
  have hd3:=((e1.trans e2).trans e3).at hd
  walk_at "x"
  refine zay (q:=((p0:Int):Rat)) ⟨rfl,rfl⟩ ?_
  intro p H4 e4 hp
  have hv4:=(e3.trans e4).at hv
  walk_at "x"
  rename_i H5 b5 h5
  refine⟨⟨_,rfl⟩,b5.same ((e2.trans e3).trans e4) hD,_,h5,by rw[yb];exact yp hvl,?_⟩
  show IsQs H5 _ ((List.range (i+1)).map _)
  rw[yC,yl,yA,hpd]
  exact IsQs.app (LBut.isQ b5 hp) (LBut.isQs b5 (hQ.same (e3.trans e4)))
 rintro ri H2 vs fri e2 hri hvl hQ
 rw[zac]at hQ
 have ha2:=(e1.trans e2).at ha
 have hR2:=hR.same (e1.trans e2)
 have hsh2:=e2.at hsh'
 walk_at "x"
 rename_i ro H3 bs fro e3 hro hbl hP hF
 have hri3:=e3.at hri
 have eR:∀l,(List.range c.length).map (fun j=>if j=c.length then((ps.getD (c.getD l 0) 0:Int):Rat) else((zcw n F c l j:Int):Rat))=(List.range c.length).map fun j=>((zcw n F c l j:Int):Rat):=fun l=>yE fun j hj=>by
  have:=yU.mp hj
  rw[if_neg (by omega)]
 refine zb1 ?_
 refine zfX (n:=c.length) (R:=fun l j=>if j=c.length then((ps.getD (c.getD l 0) 0:Int):Rat) else((zcw n F c l j:Int):Rat)) ⟨⟨bs,hro,hbl,fun l g hg=>?_⟩,⟨vs,hri3,?_⟩⟩ (by omega) (fun l j hl hj=>?_) (by decide) (by decide) (by decide) ?_ ?_ ?_
 ·obtain⟨us,u1,u2⟩:=hP.2 l g hg
  exact⟨us,u1,by rw[eR];exact u2⟩
 ·have:=hQ.same e3
  rw[show(fun l=>if c.length=c.length then((ps.getD (c.getD l 0) 0:Int):Rat) else((zcw n F c l c.length:Int):Rat))=fun l=>((ps.getD (c.getD l 0) 0:Int):Rat)from funext fun l=>if_pos rfl]
  exact this
 ·split
  ·have hln:=zb4 hl hc
   obtain⟨p0,hp0⟩:=zO (show c.getD l 0<ps.length by omega)
   have hpd:ps.getD (c.getD l 0) 0=p0:=by rw[ye,hp0];rfl
   rw[hpd]
   exact zdv (yc (hpz p0 (ya hp0)) (by decide))
  ·exact zdv (hz.bal hc hl (by omega))
 ·have:=zem (n:=c.length) (by omega)
  show c.length*(60+(c.length+1)*1+4)<=8990
  omega
 ·intro z
  refine hdet (z▸Dt.det_congr fun j r hj hr=>?_)
  show((zcw n F c r j:Int):Rat)=if j=c.length then _ else _
  rw[if_neg (by omega)]
 intro p H4 us x fp e4 hp hx heq hsz
 have ha4:=(e3.trans e4).at ha2
 have hR4:=hR2.same (e3.trans e4)
 have hsh4:=(e3.trans e4).at hsh2
 have hszx:∀m,m<c.length->SzQ (x m) 667 667:=fun m hm=>(hsz m hm).mono (zem (by omega)) (zem (by omega))
 walk_at "x"
 refine zia ha4 hal hR4 hsh4 hc nd (by omega) h9 hp hx (fun m hm=>(hszx m hm).mono (by decide) (by decide)) (fun i hi=>hz.sum hi) ?_
 intro p' H5 vs' fp' e5 hp' hv'
 refine k p' H5 vs' x ?_ ((((e1.trans e2).trans e3).trans e4).trans e5) hp' hv' (fun l hl=>?_) hszx
 ·exact Same.none fp' (((e1.trans e2).trans e3).trans e4)
 ·have:=heq l hl
  rw[if_pos rfl]at this
  rw[<- this]
  refine Dt.sm_congr fun m hm=>?_
  rw[if_neg (by omega)]
theorem zeW(T:Txt K mg):FnOk P w K mg base (CXF P w) 4 T.d_least_room.a T.d_least_room.fd ["owed", "ranks", "lays", "rates"] (zme K):=by
 refine T.d_least_room.F.okN sc_least_room (fun vs H Q E h=>?_) (fun cdv A outer s H vs Q E hr h=>?_)
 ·obtain⟨a,b,d,e,n,as,ds,l,r,us,ws,rfl,_⟩:=h;rfl
 obtain⟨a,b,d,e,n,as,ds,l,r,us,ws,rfl,ha,hal,hR,hb,hd,hu,he,hw,h9,hz,q1,q2⟩:=h
 have hwl:=hw.length
 rw[yh,yv]at hwl
 have hul:=hu.length
 rw[yh,yv]at hul
 refine⟨_,(zj (zE (i:=4) sc_least_room.nd rfl (Or.inl rfl) zcn)
 (zj (zau PassesOwn.never rfl (show PI _ _ _ (zcb K _)from zbp rfl T.z_enumerate (ze (pv 3) zh)) (show PG _ _ (zbx K 2 _)from zaU (n:=2) rfl (zQ (zU (i:=5) sc_least_room.nd rfl (Or.inl rfl)) (zQ (zU (i:=6) sc_least_room.nd rfl (Or.inl rfl)) zaH)))
 (zm (zX (zK zcR (zB (show IxR _ (rIx K)from zy) (pv 6) zi (fun _ _=>rfl)) zi (nomark _))
 (zj (zE (i:=7) sc_least_room.nd rfl (Or.inl rfl) (zR (show CallR _ _ (zeg K)from zcJ rfl) rfl T.z_sum BT.sum (ze (zeG (show SlR _ (zfo K)from zfN) (zB (show IxR _ (rIx K)from zy) (pv 0) (pv 5) (fun _ _=>rfl)) zfO (zfE (zJ (show OpR _ (binaryOp .Add) (zaE K)from zah) (zB (show IxR _ (rIx K)from zy) (pv 1) (pv 5) (fun _ _=>rfl)) zi))) zh)))
 (zj (zE (i:=8) sc_least_room.nd rfl (Or.inl rfl) (zA (zkx T) (hr.mono (by decide)) rfl T.d_over.m T.d_over.F.kp T.d_over.b .nil (zG zF) (ze (zA (zgs T) (hr.mono (by decide)) rfl T.d_minus.m T.d_minus.F.kp T.d_minus.b .nil (zG zF) (ze (zad (ze (pv 7) (ze zi zh))) (ze (zB (show IxR _ (rIx K)from zy) (pv 2) (pv 5) (fun _ _=>rfl)) zh))) (ze (pv 6) zh))))
 (zm (zE (i:=4) sc_least_room.nd rfl (Or.inl rfl) (zeN (zK zff (pv 4) zcn (nomark _)) (pv 8) (zA (zeS T) (hr.mono (by decide)) rfl T.d_least.m T.d_least.F.kp T.d_least.b .nil (zG zF) (ze (pv 4) (ze (pv 8) zh))))))))
 zT)))
 (zm (zH (pv 4))))),?_⟩
 refine zN (σ0:=[some (.ref a),some (.ref b),some (.ref d),some (.ref e),none,none,none,none,none]) rfl ?_
 walk_at "x"
 refine zdE (za4 (K:=K) (a:=e) (xs:=ws)) (fun i σ' H'=>∃(v:V) (f5 f6 f7 f8:Option V),σ'=[some (.ref a),some (.ref b),some (.ref d),some (.ref e),some v,f5,f6,f7,f8]/\(match zaw ds l r i with | none=>v=.non | some x=>∃p,v=.ref p/\IsQ H' p x)/\Same H H') ⟨_,_,_,_,_,rfl,rfl,Same.refl _⟩ ?_ ?_ ?_
 ·rintro i σ' H' ⟨_,_,_,_,_,_,_,e⟩;exact SqL.of (e.at he)
 ·rintro i y σ' H3 H4 hi ⟨v,f5,f6,f7,f8,rfl,hv,e3⟩ e4 ⟨t,v',rfl,hy,htt⟩
  obtain⟨g,q,rfl,hq1,hq2⟩:=hw.get hy
  rw[yf,yL (by omega)]at hq1
  cases hq1
  have ht':H4 t=some (.tup [.int (i:Int),.ref g]):=htt
  have hg4:=(e3.trans e4).isQ hq2
  have en:(0:Rat)<r i↔0<(r i).num:=by rw[Rat.lt_iff];show(0:Int)*_<_*(1:Int)↔_;omega
  have ero:zaw ds l r (i+1)=if 0<r i then(match zaw ds l r i with | none=>some (zaz ds l r i) | some q=>some (if zaz ds l r i<q then zaz ds l r i else q))else zaw ds l r i:=rfl
  walk_at "x"
  ·rename_i hpos
   have hpos':=en.mpr hpos
   obtain⟨z1,z2,z3,z4,z5,z6⟩:=hz i (by omega) hpos'
   rw[if_pos hpos']at ero
   obtain⟨ρ,hρ⟩:∃ρ,stp ds l i=some ρ:=by
    cases h:stp ds l i with
    | none=>exact absurd h z1
    | some ρ=>exact⟨ρ,rfl⟩
   have hρ3:ρ < 3:=(zbM hρ).1
   have e04:=e3.trans e4
   obtain⟨c,hc⟩:=zO (show i<as.length by omega)
   have ha4:=e04.at ha
   have hb4:=e04.at hb
   have hd4:=e04.at hd
   have hc4:=(hR.same e04).2 _ _ hc
   have hat1:atI (as.map V.ref) (i:Int)=some (.ref c):=zak (by rw[yf,hc];rfl)
   have hat2:atI (z9 n (stp ds l)) (i:Int)=some (.int (ρ:Int)):=by rw[<- show zbb (stp ds l i)=.int (ρ:Int) by rw[hρ];rfl];exact zak (za3 (by omega))
   obtain⟨v2,hv2⟩:=zO (show i<us.length by omega)
   obtain⟨g2,y2,rfl,h1,h2⟩:=(hu.same e04).get hv2
   rw[yf,yL (by omega)]at h1
   cases h1
   have hat3:atI us (i:Int)=some (.ref g2):=zak hv2
   walk_at "x"
   rename_i sl H5 fsl e5 hsl
   have hcut:zd3 ((vec 3 (zD ds i)).map V.int) none (some ((ρ:Int)+1))=(vec (ρ+1) (zD ds i)).map V.int:=by
    obtain rfl | rfl | rfl:ρ=0\/ρ=1\/ρ=2:=by omega
    all_goals rfl
   rw[hcut]at hsl
   refine zfF (SqL.of hsl) ?_
   rw[zcu]
   have hend:zbX ds l i=((zaD (zD ds i) (ρ+1):Int):Rat):=ze6 hρ
   have hnz:(r i).num≠0:=by omega
   walk_at "x"
   refine zay (q:=zbX ds l i) ⟨by rw[hend];rfl,by rw[hend];rfl⟩ ?_
   intro t2 H6 e6 ht2
   have e46:=e5.trans e6
   have hd6:=e46.at hd4
   have h26:=e46.isQ h2
   have hg6:=e46.isQ hg4
   clear e46
   cases hro:zaw ds l r i with
   | none=>
    rw[hro]at hv ero
    subst hv
    have z7:SzQ ((zbX ds l i-l i)/r i) 60000 60000:=z6
    walk_at "x"
    all_goals first | (exfalso;contradiction) | skip
    ·rename_i p1 H7 e7 hp1 p2 H8 e8 hp2 _
     refine⟨_,_,_,_,_,rfl,?_,((e04.trans e5).trans e6).trans (e7.trans e8)⟩
     rw[ero];exact⟨_,rfl,hp2⟩
   | some x=>
    rw[hro]at hv ero
    obtain⟨p,rfl,hp⟩:=hv
    have hp6:=((e4.trans e5).trans e6).isQ hp
    have hzx:SzQ x 60000 60000:=by
     obtain⟨⟨j,hj,hj2,rfl⟩,_⟩:=zca hro
     exact(hz j (by omega) hj2).2.2.2.2.2
    have z7:SzQ ((zbX ds l i-l i)/r i) 60000 60000:=z6
    walk_at "x"
    all_goals first | (exfalso;contradiction) | skip
    ·rename_i p1 H7 e7 hp1 p2 H8 e8 hp2 _ hlt
     refine⟨_,_,_,_,_,rfl,?_,((e04.trans e5).trans e6).trans (e7.trans e8)⟩
     have hlt':zaz ds l r i<x:=hlt
     rw[ero]
     dsimp only
     rw[if_pos hlt'];exact⟨_,rfl,hp2⟩
    ·rename_i p1 H7 e7 hp1 p2 H8 e8 hp2 _ hlt
     refine⟨_,_,_,_,_,rfl,?_,((e04.trans e5).trans e6).trans (e7.trans e8)⟩
     have hlt':¬zaz ds l r i<x:=hlt
     rw[ero]
     dsimp only
     rw[if_neg hlt'];exact⟨_,rfl,(e7.trans e8).isQ hp6⟩
  ·rename_i hpos
   rw[if_neg fun z=>hpos (en.mp z)]at ero
   refine⟨_,_,_,_,_,rfl,?_,e3.trans e4⟩
   rw[ero]
   cases hro:zaw ds l r i with
   | none=>rw[hro]at hv;exact hv
   | some x=>rw[hro]at hv;obtain⟨p,rfl,hp⟩:=hv;exact⟨p,rfl,e4.isQ hp⟩
 ·rintro σ' H3 ⟨v,f5,f6,f7,f8,rfl,hv,e3⟩
  rw[hwl]at hv
  walk_at "x"
  cases hro:zaw ds l r n with
  | none=>rw[hro]at hv;rw[show v=.non from hv];exact q1 hro H3 e3
  | some x=>rw[hro]at hv;obtain⟨p,rfl,hp⟩:=hv;exact q2 x hro p H3 e3 hp
theorem zi8(T:Txt K mg):FnOk P w K mg base (CXF P w) 3 T.d_grown.a T.d_grown.fd ["lays", "rates", "step"] (zkN K):=by
 refine T.d_grown.F.okN zns (fun vs H Q E h=>?_) (fun cdv A outer s H vs Q E hr h=>?_)
 ·obtain⟨d,e,s,n,l,r,t,us,ws,rfl,_⟩:=h;rfl
 obtain⟨d,e,s,n,l,r,t,us,ws,rfl,hd,hu,he,hw,hs,h9,z0,hz,k⟩:=h
 have hwl:=hw.length
 rw[yh,yv]at hwl
 have hul:=hu.length
 rw[yh,yv]at hul
 refine⟨_,(zm (zH (za0 rfl (show PI _ _ _ (znQ K _)from zmS rfl T.z_zip (ze (pv 0) (ze (pv 1) zh))) (zP (Ni:=["lay", "rate", "step"]) (caps:=[none,none,some 2]) (by rfl)) (fun S _ _ _ _ _=>(show PG _ _ (zbx K 2 _)from zaU (n:=2) rfl (zQ (zS (gi:=0) S (Or.inl rfl) rfl) (zQ (zS (gi:=1) S (Or.inl rfl) rfl) zaH)))) (fun _ _ _ _ _=>zal) (fun _ _ _ _ _=>(zA (zes T) (hr.mono (by decide)) rfl T.d_plus.m T.d_plus.F.kp T.d_plus.b .nil (zG zF) (ze (pv 0) (ze (zA (zdV T) (hr.mono (by decide)) rfl T.d_times.m T.d_times.F.kp T.d_times.b .nil (zG zF) (ze (pv 1) (ze (pv 2) zh))) zh))))))),?_⟩
 refine zN (σ0:=[some (.ref d),some (.ref e),some (.ref s)]) rfl ?_
 walk_at "x"
 refine zbT (zkr (K:=K) (a:=d) (b:=e) (xs:=us) (ys:=ws)) (fun H' e=>⟨SqL.of (e.at hd),SqL.of (e.at he)⟩) rfl (fun i vs H'=>IsQs H' vs ((List.range i).map fun i=>l i+r i*t)) (fun H' _=>trivial) ?_ ?_
 ·rintro i x D vs o o' H3 H4 hi hD e3 hv hvl hQ e4 ⟨p,v,w',rfl,hx,hy,htt⟩
  have hi':i<n:=by omega
  obtain⟨g1,y1,rfl,h1,h2⟩:=(hu.same (e3.trans e4)).get hx
  obtain⟨g2,y2,rfl,h3,h4⟩:=(hw.same (e3.trans e4)).get hy
  rw[yf,yL hi']at h1 h3
  cases h1
  cases h3
  have hs4:=(e3.trans e4).isQ hs
  obtain⟨o1,o2,o3⟩:=hz i hi'
  walk_at "x"
  rename_i p1 H5 e5 hp1 p2 H6 e6 hp2 H7 b7 h7
  refine⟨⟨_,_,rfl⟩,b7.same (((e3.trans e4).trans e5).trans e6) hD,_,h7,by rw[yb];exact yp hvl,?_⟩
  show IsQs H7 _ ((List.range (i+1)).map _)
  rw[yC,yl,yA]
  exact IsQs.app (LBut.isQ b7 hp2) (LBut.isQs b7 (hQ.same ((e4.trans e5).trans e6)))
 ·rintro D H3 vs hD e3 hv hvl hQ
  rw[show min us.length ws.length=n by omega]at hQ
  exact k D H3 vs hD e3 hv hQ
theorem zdP(T:Txt K mg):FnOk P w K mg base (CXF P w) 5 T.d_cleared.a T.d_cleared.fd ["sheet", "purses"] (zh9 K):=by
 refine T.d_cleared.F.okN sc_cleared (fun vs H Q E h=>?_) (fun cdv A outer s H vs Q E hr h=>?_)
 ·obtain⟨a,u,n,ds,ps,W,P,rfl,_⟩:=h;rfl
 obtain⟨a,u,n,ds,ps,W,P,rfl,hS,hu,C,k⟩:=h
 have hpl:(ps.map V.int).length=n:=by rw[yh];exact C.pl
 have hd':∀d∈ds,zM ((ps.map V.int).length:Int) d:=by rw[hpl];exact C.hd
 have h9:=C.n9
 refine⟨_,(zj (zE (i:=2) sc_cleared.nd rfl (Or.inr rfl) (zA (ze7 T) (hr.mono (by decide)) rfl T.d_ranked.m T.d_ranked.F.kp T.d_ranked.b .nil (zG zF) (ze (zR (show CallR _ _ (zaO K)from zW) rfl T.z_len BT.len (ze (pv 1) zh)) (ze (pv 0) zh))))
 (zj (zbf (i:=3) sc_cleared.nd rfl rfl rfl (show PI _ _ _ (zaG K _)from zai (pv 1)) (zP (Ni:=["purse"]) (caps:=[none]) (by rfl)) (fun S _ _ _ _ _=>(zS (gi:=0) S (Or.inl rfl) rfl)) (fun _ _ _ _ _=>zal) (fun _ _ _ _ _=>(zad (ze zi (ze zi zh)))))
 (zj (zE (i:=4) sc_cleared.nd rfl (Or.inl rfl) (zad (ze zi (ze zi zh))))
 (zm (zdX PassesOwn.never (show PT _ _ (zbL K _)from zaj za2 (fun _=>rfl))
 (zj (zbf (i:=5) sc_cleared.nd rfl rfl rfl (show PI _ _ _ (zcb K _)from zbp rfl T.z_enumerate (ze (pv 3) zh)) (zP (Ni:=["member", "lay", "owed"]) (caps:=[none,none,some 2]) (by rfl)) (fun S _ _ _ _ _=>(show PG _ _ (zbx K 2 _)from zaU (n:=2) rfl (zQ (zS (gi:=0) S (Or.inl rfl) rfl) (zQ (zS (gi:=1) S (Or.inl rfl) rfl) zaH)))) (fun _ _ _ _ _=>zal) (fun _ _ _ _ _=>(zA (zgw T) (hr.mono (by decide)) rfl T.d_stop_of.m T.d_stop_of.F.kp T.d_stop_of.b .nil (zG zF) (ze (zB (show IxR _ (rIx K)from zy) (pv 2) (pv 0) (fun _ _=>rfl)) (ze (pv 1) zh)))))
 (zj (zE (i:=6) sc_cleared.nd rfl (Or.inl rfl) (zA (zj9 T) (hr.mono (by decide)) rfl T.d_flows_of.m T.d_flows_of.F.kp T.d_flows_of.b .nil (zG zF) (ze (pv 0) (ze (pv 5) zh))))
 (zj (zE (i:=7) sc_cleared.nd rfl (Or.inl rfl) (zA (zgn T) (hr.mono (by decide)) rfl T.d_closed_circle.m T.d_closed_circle.F.kp T.d_closed_circle.b .nil (zG zF) (ze (pv 6) (ze (pv 5) zh))))
 (zm (zX (zK (show OpR _ (compareOp .NotEq) (zcx K)from zcF hr.units) (pv 7) (zbk zh) (nomark _))
 (zj (zE (i:=8) sc_cleared.nd rfl (Or.inl rfl) (zA (zfS T) (hr.mono (by decide)) rfl T.d_circling_rates.m T.d_circling_rates.F.kp T.d_circling_rates.b .nil (zG zF) (ze (pv 6) (ze (pv 7) zh))))
 (zm (zE (i:=3) sc_cleared.nd rfl (Or.inl rfl) (zA (zi8 T) (hr.mono (by decide)) rfl T.d_grown.m T.d_grown.F.kp T.d_grown.b .nil (zG zF) (ze (pv 3) (ze (pv 8) (ze (zA (zeW T) (hr.mono (by decide)) rfl T.d_least_room.m T.d_least_room.F.kp T.d_least_room.b .nil (zG zF) (ze (pv 2) (ze (pv 5) (ze (pv 3) (ze (pv 8) zh))))) zh)))))))
 (zm (zX (zK (show OpR _ (compareOp .Eq) (zaN K)from zaF hr.units) (pv 4) (zad (ze zi (ze zi zh))) (nomark _))
 (zm (zH (pv 3)))
 (zj (zE (i:=8) sc_cleared.nd rfl (Or.inl rfl) (zA (zgj T) (hr.mono (by decide)) rfl T.d_opening_rates.m T.d_opening_rates.F.kp T.d_opening_rates.b .nil (zG zF) (ze (pv 6) (ze (pv 5) (ze (pv 1) zh)))))
 (zj (zE (i:=9) sc_cleared.nd rfl (Or.inl rfl) (zA (zeW T) (hr.mono (by decide)) rfl T.d_least_room.m T.d_least_room.F.kp T.d_least_room.b .nil (zG zF) (ze (pv 2) (ze (pv 5) (ze (pv 3) (ze (pv 8) zh))))))
 (zj (zE (i:=10) sc_cleared.nd rfl (Or.inl rfl) (zA (zgs T) (hr.mono (by decide)) rfl T.d_minus.m T.d_minus.F.kp T.d_minus.b .nil (zG zF) (ze (zad (ze zi (ze zi zh))) (ze (pv 4) zh))))
 (zj (zE (i:=9) sc_cleared.nd rfl (Or.inl rfl) (zeN (zK zff (pv 9) zcn (nomark _)) (pv 10) (zA (zeS T) (hr.mono (by decide)) rfl T.d_least.m T.d_least.F.kp T.d_least.b .nil (zG zF) (ze (pv 9) (ze (pv 10) zh)))))
 (zj (zE (i:=3) sc_cleared.nd rfl (Or.inl rfl) (zA (zi8 T) (hr.mono (by decide)) rfl T.d_grown.m T.d_grown.F.kp T.d_grown.b .nil (zG zF) (ze (pv 3) (ze (pv 8) (ze (pv 9) zh)))))
 (zm (zE (i:=4) sc_cleared.nd rfl (Or.inl rfl) (zA (zes T) (hr.mono (by decide)) rfl T.d_plus.m T.d_plus.F.kp T.d_plus.b .nil (zG zF) (ze (pv 4) (ze (pv 9) zh)))))))))))))))))))))),?_⟩
 refine zN (σ0:=[some (.ref a),some (.ref u),none,none,none,none,none,none,none,none,none]) rfl ?_
 walk_at "x"
 rename_i ow H1 as fow e1 how hal hR hF
 have hu1:=e1.at hu
 rw[yx,hpl]at hal
 refine zam (zaP (K:=K) (a:=u) (xs:=ps.map V.int)) (fun H' e=>SqL.of (e.at hu1)) rfl (fun i vs H'=>IsQs H' vs ((List.range i).map fun _=>(0:Rat))) (fun H' _=>trivial) ?_ ?_
 ·rintro i x D vs o H2 H3 hi hD e2 hv hvl hQ e3 hx
  rw[hpl]at hi
  walk_at "x"
  refine zay (q:=(0:Rat)) ⟨rfl,rfl⟩ ?_
  intro p H4 e4 hp
  have hv4:=(e3.trans e4).at hv
  walk_at "x"
  rename_i H5 b5 h5
  refine⟨⟨_,rfl⟩,b5.same ((e2.trans e3).trans e4) hD,_,h5,by rw[yb];exact yp hvl,?_⟩
  show IsQs H5 _ ((List.range (i+1)).map _)
  rw[yC,yl,yA]
  exact IsQs.app (LBut.isQ b5 hp) (LBut.isQs b5 (hQ.same (e3.trans e4)))
 rintro la H2 vs fla e2 hla hvl hQ
 rw[hpl]at hQ
 walk_at "x"
 refine zay (q:=(0:Rat)) ⟨rfl,rfl⟩ ?_
 intro op H3 e3 hop
 walk_at "x"
 have hdn:∀d∈ds,zM (n:Int) d:=C.hd
 refine⟨fun m σ H'=>∃(k:Nat) (la op:Addr) (ws:List V) (f5 f6 f7 f8 f9 f10:Option V),σ=[some (.ref a),some (.ref u),some (.ref ow),some (.ref la),some (.ref op),f5,f6,f7,f8,f9,f10]/\H' la=some (.lst ws)/\IsQs H' ws ((List.range n).map (cst n ds (pQ ps) k).1)/\IsQ H' op (cst n ds (pQ ps) k).2/\H la=none/\Same H1 H'/\COk n ds (pQ ps) (Dt.prodN (fun _=>W) n*P*W) k (cst n ds (pQ ps) k).1 (cst n ds (pQ ps) k).2/\(∀j,j<k->¬zcv n ds (cst n ds (pQ ps) j).1 (cst n ds (pQ ps) j).2)/\m=zcP n ds+1-k,⟨_,0,la,op,vs,_,_,_,_,_,_,rfl,e3.at hla,hQ.same e3,hop,Same.none fla e1,e2.trans e3,cok0 hdn _,fun j hj=>absurd hj (yaB _),rfl⟩,?_⟩
 clear hop hla hQ hvl e3 e2 fla la op vs H2 H3
 rintro m σ H2 ⟨kk,la,op,ws,f5,f6,f7,f8,f9,f10,rfl,hla,hQ,hop,fla,e2,hC,hnf,rfl⟩
 obtain⟨l,hl⟩:∃l,(cst n ds (pQ ps) kk).1=l:=⟨_,rfl⟩
 obtain⟨t,ht⟩:∃t,(cst n ds (pQ ps) kk).2=t:=⟨_,rfl⟩
 rw[hl]at hQ hC
 rw[ht]at hop hC
 have hwl:=hQ.length
 rw[yh,yv]at hwl
 have hR2:=hR.same e2
 have how2:=e2.at how
 walk_at "x"
 have next:∀σ' H',(∃(la op:Addr) (ws:List V) (f5 f6 f7 f8 f9 f10:Option V),σ'=[some (.ref a),some (.ref u),some (.ref ow),some (.ref la),some (.ref op),f5,f6,f7,f8,f9,f10]/\H' la=some (.lst ws)/\IsQs H' ws ((List.range n).map (nxL n ds (pQ ps) l t))/\IsQ H' op (nxT n ds (pQ ps) l t)/\H la=none/\Same H1 H'/\Ans n ds (pQ ps) l/\¬zcv n ds l t)->∃m',m'<zcP n ds+1-kk/\∃(k:Nat) (la op:Addr) (ws:List V) (f5 f6 f7 f8 f9 f10:Option V),σ'=[some (.ref a),some (.ref u),some (.ref ow),some (.ref la),some (.ref op),f5,f6,f7,f8,f9,f10]/\H' la=some (.lst ws)/\IsQs H' ws ((List.range n).map (cst n ds (pQ ps) k).1)/\IsQ H' op (cst n ds (pQ ps) k).2/\H la=none/\Same H1 H'/\COk n ds (pQ ps) (Dt.prodN (fun _=>W) n*P*W) k (cst n ds (pQ ps) k).1 (cst n ds (pQ ps) k).2/\(∀j,j<k->¬zcv n ds (cst n ds (pQ ps) j).1 (cst n ds (pQ ps) j).2)/\m'=zcP n ds+1-k:=by
  rintro σ' H' ⟨la,op,ws,f5,f6,f7,f8,f9,f10,rfl,i1,i2,i3,i4,i5,i6,i7⟩
  have en1:(cst n ds (pQ ps) (kk+1)).1=nxL n ds (pQ ps) l t:=by show nxL n ds (pQ ps) (cst n ds (pQ ps) kk).1 (cst n ds (pQ ps) kk).2=_;rw[hl,ht]
  have en2:(cst n ds (pQ ps) (kk+1)).2=nxT n ds (pQ ps) l t:=by show nxT n ds (pQ ps) (cst n ds (pQ ps) kk).1 (cst n ds (pQ ps) kk).2=_;rw[hl,ht]
  have hC':=COk.step hdn C.p0 (fun i _=>⟨ps.getD i 0,rfl⟩) C.hP C.P1 (fun i hi=>C.hW l i hi) C.W1 hC i6 i7
  have hle:=hC'.le
  refine⟨zcP n ds+1-(kk+1),by omega,kk+1,la,op,ws,f5,f6,f7,f8,f9,f10,rfl,i1,by rw[en1];exact i2,by rw[en2];exact i3,i4,i5,by rw[en1,en2];exact hC',fun j hj=>?_,rfl⟩
  rcases yI (yQ hj)with h | h
  ·exact hnf j h
  ·rw[h,hl,ht];exact i7
 refine⟨_,next,?_⟩
 clear next
 have hla2:=hla
 walk_at "x"
 refine zbT (za4 (K:=K) (a:=la) (xs:=ws)) (fun H' e=>SqL.of (e.at hla2)) rfl (fun j vs _=>vs=z9 j (stp ds l)) (fun H' _=>rfl) ?_ ?_
 ·rintro j x D vs o o' H3 H4 hj hD e3 hv hvl rfl e4 ⟨tt,v,rfl,hx,htt⟩
  obtain⟨g,q,rfl,hq1,hq2⟩:=(hQ.same (e3.trans e4)).get hx
  rw[yf,yL (by omega)]at hq1
  cases hq1
  have ht':H4 tt=some (.tup [.int (j:Int),.ref g]):=htt
  obtain⟨c,hc⟩:=zO (show j<as.length by omega)
  have hat:atI (as.map V.ref) (j:Int)=some (.ref c):=zak (by rw[yf,hc];rfl)
  have how4:=(e3.trans e4).at how2
  have hc4:=(hR2.same (e3.trans e4)).2 _ _ hc
  have hbd:∀r,r<3->0<=zD ds j r/\zD ds j r<=100000000000000:=fun r _=>by
   have:=zci (m:=j) (r:=r) ds fun d h=>⟨(hdn d h).2.2.2.2.2.2.2.1,C.ha d h⟩
   have:=C.hl
   omega
  have zq:SzQ (l j) 60000 60000:=(C.lay hC (by omega)).mono (by decide) (by decide)
  walk_at "x"
  rename_i H5 e5 H6 b6 h6
  refine⟨⟨_,_,rfl⟩,by walk_at "h",_,h6,by rw[yb];exact yp hvl,?_⟩
  dsimp only
  rw[ze1];rfl
 rintro ra H3 vs fra e3 hra hvl rfl
 rw[hwl]at hra
 have hS3:IsSh K H3 a ds:=by walk_at "h"
 walk_at "x"
 rename_i fl H4 bs ffl e4 hfl hbl hRf hFf ci H5 fci e5 hci em H6 fem e6 hem
 have hci':H5 ci=some (.lst (zax (crL n ds l))):=hci
 clear hci
 refine zpa (e6.at hci') hem ?_
 have ecr:ziC (crL n ds l)=[]↔crL n ds l=[]:=List.map_eq_nil_iff
 have hfk:=zrh (l:=l) hdn C.ha C.hl
 have e46:=e5.trans e6
 have e36:=e4.trans e46
 have e26:=e3.trans e36
 have e16:=e2.trans e26
 have hfl6:=e46.at hfl
 have hRf6:=hRf.same e46
 have hci6:=e6.at hci'
 have hra6:=e36.at hra
 have hla6:=e26.at hla2
 have hQ6:=hQ.same e26
 have hop6:=e26.isQ hop
 have how6:=e26.at how2
 have hR6:=hR2.same e26
 have hu6:=e16.at hu1
 have e06:=e1.trans e16
 clear e46 e36 e26
 by_cases hc:crL n ds l=[]
 ·rw[decide_eq_true (ecr.mpr hc)]
  walk_at "x"
  refine zay (q:=(1:Rat)) ⟨rfl,rfl⟩ ?_
  intro t1 H7 e7 ht1
  refine zrD (e7.isQ hop6) ht1 ?_
  walk_at "x"
  ·rename_i h1
   refine k la H7 ws kk fla (e06.trans e7) (e7.at hla6) (by rw[hl];exact hQ6.same e7) ?_ hnf (by rw[hl,ht];exact hC)
   rw[hl,ht];exact⟨hc,h1⟩
  ·rename_i h1
   have nfin:¬zcv n ds l t:=fun z=>h1 z.2
   walk_at "x"
   refine zb1 ?_
   refine zoh (e7.at hfl6) hbl (hRf6.same e7) (e7.at hra6) (e7.at hu6) C.pl C.pz' h9 hfk (zlG hdn hc) ?_
   intro rt H8 rs x frt e8 hrt hrs hxe hxz
   have hxo:zdy n ds (pQ ps) l (slL n ds l) x:=znz hxe
   have hans:Ans n ds (pQ ps) l:=by unfold Ans;rw[if_pos hc];exact⟨x,hxo⟩
   have er:(List.range n).map (zek n (flI ds l) (slL n ds l) x)=(List.range n).map (rtF n ds (pQ ps) l):=yE fun i _=>zhT hdn hc hxo i
   have hrz:∀i,i<n->SzQ (rtF n ds (pQ ps) l i) 726 668:=fun i hi=>by rw[<- zhT (p:=pQ ps) hdn hc hxo i];exact zma hfk zdU hxz hi
   have hrs':IsQs H8 rs ((List.range n).map (rtF n ds (pQ ps) l)):=by rw[<- er];exact hrs
   have hrm:=C.rooms hC hrz
   have e78:=e7.trans e8
   have hla8:=e78.at hla6
   have hQ8:=hQ6.same e78
   have hop8:=e78.isQ hop6
   have e08:=e06.trans e78
   have e18:=e16.trans e78
   have ok1:OkQ (1:Rat):=(zdv (x:=1) zfa).ok (by decide) (by decide)
   have okt:OkQ t:=(C.top hC).ok (by decide) (by decide)
   have zsh:=C.shut hC
   have zsh6:SzQ (1-t) 60000 60000:=zsh.mono (by decide) (by decide)
   have how8:=e78.at how6
   have hR8:=hR6.same e78
   have hra8:=e78.at hra6
   clear e78
   walk_at "x"
   refine zb1 ?_
   refine zjF how8 hal hR8 hra8 hla8 hQ8 hrt hrs' h9 hrm ?_ ?_
   ·intro hno H9 e9
    have est':stF n ds (pQ ps) l t=1-t:=zn2 hc hno
    have hop9:=e9.isQ hop8
    walk_at "x"
    refine zay (q:=(1:Rat)) ⟨rfl,rfl⟩ ?_
    intro t2 H10 e10 ht2
    have hop10:=e10.isQ hop9
    walk_at "x"
    ·rename_i sh H11 e11 hsh _
     have e8x:=(e9.trans e10).trans e11
     have hgr:=C.grow hC hrz (zsh.mono (by decide) (by decide))
     walk_at "x"
     refine zee (e8x.at hla8) (hQ8.same e8x) (e8x.at hrt) (hrs'.same e8x) hsh h9 hgr.1 hgr.2 ?_
     intro gr Ha gs fgr ea hgra hgs
     have hopa:=(e8x.trans ea).isQ hop8
     have hspa:=ea.isQ hsh
     have oks:=hgr.1
     walk_at "x"
     rename_i np Hb eb hnp
     refine⟨gr,np,gs,_,_,_,_,_,_,rfl,eb.at hgra,?_,?_,Same.none fgr (e08.trans e8x),e18.trans ((e8x.trans ea).trans eb),hans,nfin⟩
     ·rw[show(List.range n).map (nxL n ds (pQ ps) l t)=(List.range n).map (fun i=>l i+rtF n ds (pQ ps) l i*(1-t))from yE fun i _=>by unfold nxL;rw[est',ybQ]]
      exact hgs.same eb
     ·rw[show nxT n ds (pQ ps) l t=t+(1-t) by unfold nxT;rw[if_pos hc,est']]
      exact hnp
    ·contradiction
   ·intro q hq sp H9 e9 hsp
    have est:=znK (t:=t) hc hq
    have zq:=C.stepz hC hrz hq
    have zq6:SzQ q 60000 60000:=zq.mono (by decide) (by decide)
    have hop9:=e9.isQ hop8
    walk_at "x"
    refine zay (q:=(1:Rat)) ⟨rfl,rfl⟩ ?_
    intro t2 H10 e10 ht2
    have hop10:=e10.isQ hop9
    have hsp10:=e10.isQ hsp
    walk_at "x"
    ·contradiction
    ·rename_i sh H11 e11 hsh _ hlt
     have e8x:=(e9.trans e10).trans e11
     have est':stF n ds (pQ ps) l t=1-t:=by rw[est,if_pos hlt]
     have hgr:=C.grow hC hrz (zsh.mono (by decide) (by decide))
     walk_at "x"
     refine zee (e8x.at hla8) (hQ8.same e8x) (e8x.at hrt) (hrs'.same e8x) hsh h9 hgr.1 hgr.2 ?_
     intro gr Ha gs fgr ea hgra hgs
     have hopa:=(e8x.trans ea).isQ hop8
     have hspa:=ea.isQ hsh
     have oks:=hgr.1
     walk_at "x"
     rename_i np Hb eb hnp
     refine⟨gr,np,gs,_,_,_,_,_,_,rfl,eb.at hgra,?_,?_,Same.none fgr (e08.trans e8x),e18.trans ((e8x.trans ea).trans eb),hans,nfin⟩
     ·rw[show(List.range n).map (nxL n ds (pQ ps) l t)=(List.range n).map (fun i=>l i+rtF n ds (pQ ps) l i*(1-t))from yE fun i _=>by unfold nxL;rw[est',ybQ]]
      exact hgs.same eb
     ·rw[show nxT n ds (pQ ps) l t=t+(1-t) by unfold nxT;rw[if_pos hc,est']]
      exact hnp
    ·rename_i sh H11 e11 hsh _ hlt
     have e8x:=(e9.trans e10).trans e11
     have est':stF n ds (pQ ps) l t=q:=by rw[est,if_neg hlt]
     have hsp11:=e11.isQ hsp10
     have hgr:=C.grow hC hrz (zq)
     walk_at "x"
     refine zee (e8x.at hla8) (hQ8.same e8x) (e8x.at hrt) (hrs'.same e8x) hsp11 h9 hgr.1 hgr.2 ?_
     intro gr Ha gs fgr ea hgra hgs
     have hopa:=(e8x.trans ea).isQ hop8
     have hspa:=ea.isQ hsp11
     have oks:=hgr.1
     walk_at "x"
     rename_i np Hb eb hnp
     refine⟨gr,np,gs,_,_,_,_,_,_,rfl,eb.at hgra,?_,?_,Same.none fgr (e08.trans e8x),e18.trans ((e8x.trans ea).trans eb),hans,nfin⟩
     ·rw[show(List.range n).map (nxL n ds (pQ ps) l t)=(List.range n).map (fun i=>l i+rtF n ds (pQ ps) l i*(q))from yE fun i _=>by unfold nxL;rw[est',ybQ]]
      exact hgs.same eb
     ·rw[show nxT n ds (pQ ps) l t=t+(q) by unfold nxT;rw[if_pos hc,est']]
      exact hnp
 ·rw[decide_eq_false (fun z=>hc (ecr.mp z))]
  have hCk:=Rc.circle_ok hc
  have hc1:1<=(crL n ds l).length:=by
   have:(crL n ds l).length≠0:=fun z=>hc (yaf z)
   omega
  have hc9:(crL n ds l).length<=9:=yc (Rc.len_le hCk.nd hCk.lt) h9
  walk_at "x"
  refine znA hfl6 hbl hRf6 hci6 hCk.lt hCk.nd hc1 hc9 h9 hfk (znt hdn hc) ?_
  intro rt H7 rs x frt e7 hrt hrs hxe hxz
  have hxc:=zn4 hxe
  have hans:Ans n ds (pQ ps) l:=by unfold Ans;rw[if_neg hc];exact⟨x,hxc⟩
  have er:(List.range n).map (zek n (flI ds l) (crL n ds l) x)=(List.range n).map (rtF n ds (pQ ps) l):=yE fun i _=>zi3 hdn hc hxc i
  have hrz:∀i,i<n->SzQ (rtF n ds (pQ ps) l i) 726 668:=fun i hi=>by rw[<- zi3 (p:=pQ ps) hdn hc hxc i];exact zma hfk hCk.nd hxz hi
  have hrs':IsQs H7 rs ((List.range n).map (rtF n ds (pQ ps) l)):=by rw[<- er];exact hrs
  have hrm:=C.rooms hC hrz
  obtain⟨st,hst⟩:=C.cirRoom hC hans hc
  have hgr:=C.grow hC hrz (C.stepz hC hrz hst)
  have est:stF n ds (pQ ps) l t=st:=by unfold stF;rw[if_neg hc,hst];rfl
  walk_at "x"
  refine zb1 ?_
  refine zjF (e7.at how6) hal (hR6.same e7) (e7.at hra6) (e7.at hla6) (hQ6.same e7) hrt hrs' h9 hrm (fun z=>by rw[hst]at z;cases z) ?_
  intro y hy sp H8 e8 hsp
  rw[hst]at hy
  cases hy
  have e78:=e7.trans e8
  walk_at "x"
  refine zee (e78.at hla6) (hQ6.same e78) (e8.at hrt) (hrs'.same e8) hsp h9 hgr.1 hgr.2 ?_
  intro gr H9 gs fgr e9 hgr9 hgs
  walk_at "x"
  refine⟨gr,op,gs,_,_,_,_,_,_,rfl,hgr9,?_,?_,Same.none fgr (e06.trans e78),e16.trans (e78.trans e9),hans,fun z=>hc z.1⟩
  ·rw[show(List.range n).map (nxL n ds (pQ ps) l t)=(List.range n).map (fun i=>l i+rtF n ds (pQ ps) l i*st)from yE fun i _=>by unfold nxL;rw[est,ybQ]]
   exact hgs
  ·rw[show nxT n ds (pQ ps) l t=t from if_neg hc]
   exact(e78.trans e9).isQ hop6
theorem znN(T:Txt K mg):FnOk P w K mg base (CXF P w) 3 T.d_stops.a T.d_stops.fd ["sheet", "lays"] (zfQ K):=by
 refine T.d_stops.F.okN sc_stops (fun vs H Q E h=>?_) (fun cdv A outer s H vs Q E hr h=>?_)
 ·obtain⟨a,y,ds,ws,qs,rfl,_⟩:=h;rfl
 obtain⟨a,y,ds,ws,qs,rfl,h,hd,hl,hy,hq,h9,hs,k⟩:=h
 have hwl:=hq.length
 have hdo:∀d∈ds,zM (ws.length:Int) d:=by rw[hwl];exact fun d h=>(hd d h).1
 refine⟨_,(zj (zE (i:=2) sc_stops.nd rfl (Or.inr rfl) (zA (ze7 T) (hr.mono (by decide)) rfl T.d_ranked.m T.d_ranked.F.kp T.d_ranked.b .nil (zG zF) (ze (zR (show CallR _ _ (zaO K)from zW) rfl T.z_len BT.len (ze (pv 1) zh)) (ze (pv 0) zh))))
 (zm (zH (za0 rfl (show PI _ _ _ (zcb K _)from zbp rfl T.z_enumerate (ze (pv 1) zh)) (zP (Ni:=["member", "lay", "owed"]) (caps:=[none,none,some 2]) (by rfl)) (fun S _ _ _ _ _=>(show PG _ _ (zbx K 2 _)from zaU (n:=2) rfl (zQ (zS (gi:=0) S (Or.inl rfl) rfl) (zQ (zS (gi:=1) S (Or.inl rfl) rfl) zaH)))) (fun _ _ _ _ _=>zal) (fun _ _ _ _ _=>(zA (zgw T) (hr.mono (by decide)) rfl T.d_stop_of.m T.d_stop_of.F.kp T.d_stop_of.b .nil (zG zF) (ze (zB (show IxR _ (rIx K)from zy) (pv 2) (pv 0) (fun _ _=>rfl)) (ze (pv 1) zh)))))))),?_⟩
 refine zN (σ0:=[some (.ref a),some (.ref y),none]) rfl ?_
 walk_at "x"
 rename_i su H1 as fsu e1 hsu hal hR hF
 rw[yx]at hal
 have hq1:=hq.same e1
 have hy1:=e1.at hy
 refine zbT (za4 (K:=K) (a:=y) (xs:=ws)) (fun H' e=>SqL.of (e.at hy1)) rfl (fun i vs _=>vs=z9 i fun m=>zar (zD ds m) (qs.getD m 0) 3) (fun H' _=>rfl) ?_ ?_
 ·rintro i x D vs o o' H2 H3 hi hD e2 hv hvl rfl e3 ⟨t,v,rfl,hx,ht⟩
  obtain⟨b,q,rfl,hqi,hb⟩:=(hq1.same (e2.trans e3)).get hx
  have ht':H3 t=some (.tup [.int (i:Int),.ref b]):=ht
  obtain⟨c,hc⟩:=zO (show((i:Int)).toNat<as.length by omega)
  have hrow:=(hR.same (e2.trans e3)).2 _ _ hc
  rw[yx]at hrow
  have hf:∀j,j<3->0<=zD ds i j/\zD ds i j<=100000000000000:=fun j _=>by
   have:=zci (m:=i) (r:=j) ds fun d h=>⟨(hd d h).1.2.2.2.2.2.2.2.1,(hd d h).2⟩
   omega
  have hsq:=hs q (ya hqi)
  have hsu3:H3 su=some (.lst (as.map V.ref)):=(e2.trans e3).at hsu
  have hqd:qs.getD i 0=q:=by rw[ye,hqi];rfl
  walk_at "x"
  rename_i H4 e4 H5 b5 h5
  refine⟨⟨_,_,rfl⟩,by walk_at "h",_,h5,by rw[yb];exact yp hvl,?_⟩
  dsimp only
  rw[ze1,hqd]
 ·rintro D H2 vs hD e2 hv hvl rfl
  rw[hwl]at hv
  exact k D H2 (Same.none hD e1) (e1.trans e2) hv
theorem zie(T:Txt K mg):FnOk P w K mg base (CXF P w) 1 T.d_first_dues.a T.d_first_dues.fd ["sheet", "ranks"] (zkM K):=by
 refine T.d_first_dues.F.okN sc_first_dues (fun vs H Q E h=>?_) (fun cdv A outer s H vs Q E hr h=>?_)
 ·obtain⟨a,b,ds,n,l,rfl,_⟩:=h;rfl
 obtain⟨a,b,ds,n,l,rfl,⟨xs,hS,hT⟩,hb,n9,hd,hl,hc,k⟩:=h
 have hol:(z9 n (stp ds l)).length=n:=zbs
 have hxl:=hT.length
 refine⟨_,(zj (zE (i:=2) sc_first_dues.nd rfl (Or.inl rfl) (zJ zZ (zbk (ze zcn zh)) (zR (show CallR _ _ (zaO K)from zW) rfl T.z_len BT.len (ze (pv 1) zh))))
 (zj (zbf (i:=3) sc_first_dues.nd rfl rfl rfl (show PI _ _ _ (zaG K _)from zai (pv 1)) (zP (Ni:=["rank"]) (caps:=[none]) (by rfl)) (fun S _ _ _ _ _=>(zS (gi:=0) S (Or.inl rfl) rfl)) (fun _ _ _ _ _=>zal) (fun _ _ _ _ _=>(zcO zff (pv 0) zcn (nomark _))))
 (zj (zau PassesOwn.never rfl (show PI _ _ _ (zaG K _)from zai (pv 1)) (zU (i:=4) sc_first_dues.nd rfl (Or.inl rfl))
 (zm (zau PassesOwn.never rfl (show PI _ _ _ (zcb K _)from zbp rfl T.z_enumerate (ze (pv 0) zh)) (show PG _ _ (zbx K 2 _)from zaU (n:=2) rfl (zQ (zU (i:=5) sc_first_dues.nd rfl (Or.inl rfl)) (zQ (zU (i:=6) sc_first_dues.nd rfl (Or.inl rfl)) zaH)))
 (zm (zX (PW.pt (zb5 (zK zcR (zB (show IxR _ (rIx K)from zy) (pv 6) zi (fun _ _=>rfl)) zi (nomark _)) (zb5 (zK (show OpR _ (compareOp .Eq) (zaN K)from zaF hr.units) (zB (show IxR _ (rIx K)from zy) (pv 6) zi (fun _ _=>rfl)) (zB (show IxR _ (rIx K)from zy) (pv 1) (zB (show IxR _ (rIx K)from zy) (pv 6) zi (fun _ _=>rfl)) (fun _ _=>rfl)) (nomark _)) (zb5 (zbw (show PT _ _ (zbL K _)from zaj (zB (show IxR _ (rIx K)from zy) (pv 3) (zB (show IxR _ (rIx K)from zy) (pv 6) zi (fun _ _=>rfl)) (fun _ _=>rfl)) (fun _=>rfl))) (zcq (show PT _ _ (zbL K _)from zaj (zB (show IxR _ (rIx K)from zy) (pv 3) (zB (show IxR _ (rIx K)from zy) (pv 6) zi (fun _ _=>rfl)) (fun _ _=>rfl)) (fun _=>rfl)))))))
 (zj (zcH (pv 5) (zcE (pv 2) (zB (show IxR _ (rIx K)from zy) (pv 6) zi (fun _ _=>rfl)) za6))
 (zm (zcH za2 (zcE (pv 3) (zB (show IxR _ (rIx K)from zy) (pv 6) zi (fun _ _=>rfl)) za6))))
 zT)))))
 (zm (zH (pv 2)))))),?_⟩
 refine zN (σ0:=[some (.ref a),some (.ref b),none,none,none,none,none]) rfl ?_
 walk_at "x"
 rename_i l0 H0 fl0 e0 hl0 ow H1 fow' e1' how
 have e1:=e0.trans e1'
 have fow:=Same.none fow' e0
 rw[yx,hol]at how
 have hb1:=e1.at hb
 refine zam (zaP (K:=K) (a:=b) (xs:=z9 n (stp ds l))) (fun H' e=>SqL.of (e.at hb1)) rfl (fun i vs _=>vs=blL i fun m=>(stp ds l m).isNone) (fun H' _=>rfl) ?_ ?_
 ·rintro i x D vs o H2 H3 hi hD e2 hv hvl rfl e3 hx
  rw[hol]at hi
  rw[za3 hi]at hx
  cases hx
  walk_at "x"
  rename_i H4 b4 h4
  rw[zgg]at h4
  refine⟨⟨_,rfl⟩,by walk_at "h",_,h4,by rw[yb];exact yp hvl,?_⟩
  dsimp only
  rw[zex]
 rintro ar H2 vs far e2 har hvl rfl
 rw[hol]at har
 have far':H ar=none:=Same.none far e1
 have nao:ar≠ow:=fun z=>by rw[z,how]at far;cases far
 have how0:H1 ow=some (.lst (z9 n fun _=>none)):=how
 walk_at "x"
 refine zco (xs:=z9 n (stp ds l)) (fun t σ' H'=>∃(on:Nat->Option Nat) (arr:Nat->Bool) (τ:Nat->Nat) (f4 f5 f6:Option V),σ'=[some (.ref a),some (.ref b),some (.ref ow),some (.ref ar),f4,f5,f6]/\H' ow=some (.lst (z9 n on))/\H' ar=some (.lst (blL n arr))/\ArrB n ds (stp ds l) on arr τ/\(t<=zda arr n\/∀m,m<n->arr m=true)/\Same H H') ⟨_,_,_,_,_,_,rfl,e2.at how0,har,ArrB.start,.inl (yF _),e1.trans e2⟩ ?_ ?_ ?_
 ·rintro t σ' H' _ ⟨_,_,_,_,_,_,_,_,_,_,_,e⟩;exact SqL.of (e.at hb)
 ·rintro t y σ' H3 hy ⟨on,arr,τ,f4,f5,f6,rfl,how3,har3,AB,hcnt,e3⟩
  walk_at "x"
  refine zdE (za4 (K:=K) (a:=a) (xs:=xs)) (fun i σ' H'=>∃(on':Nat->Option Nat) (arr':Nat->Bool) (τ':Nat->Nat) (f5 f6:Option V),σ'=[some (.ref a),some (.ref b),some (.ref ow),some (.ref ar),some y,f5,f6]/\H' ow=some (.lst (z9 n on'))/\H' ar=some (.lst (blL n arr'))/\ArrB n ds (stp ds l) on' arr' τ'/\Pass ds (stp ds l) arr arr' i/\Same H H') ⟨on,arr,τ,_,_,rfl,how3,har3,AB,Pass.start,e3⟩ ?_ ?_ ?_
  ·rintro i σ' H' ⟨_,_,_,_,_,_,_,_,_,_,e⟩;exact hS.keep e
  ·rintro i x σ' H4 H5 hi ⟨on',arr',τ',g5,g6,rfl,how4,har4,AB',PP,e4⟩ e5 ⟨tt,v,rfl,hx,htt⟩
   obtain⟨bd,d,rfl,hdi,hbd⟩:=(hT.same (e4.trans e5)).get hx
   have htt':H5 tt=some (.tup [.int (i:Int),.ref bd]):=htt
   have hbd':H5 bd=some (.tup [.int d.p,.int d.q,.int d.r,.int d.a]):=hbd
   have hdk:=hd d (ya hdi)
   obtain⟨p0,p1,q0,q1,pq,r0,r1,a0,a1⟩:=hdk
   have hpn:d.p.toNat<n:=by omega
   have hqn:d.q.toNat<n:=by omega
   have epn:d.p=((d.p.toNat:Nat):Int):=by omega
   have hb5:=(e4.trans e5).at hb
   have how5:=e5.at how4
   have har5:=e5.at har4
   have at1:atI (z9 n (stp ds l)) d.p=some (zbb (stp ds l d.p.toNat)):=zaB p0 (za3 hpn)
   have at2:atI (blL n arr') d.p=some (.bl (arr' d.p.toNat)):=zaB p0 (zeu hpn)
   have at3:atI (blL n arr') d.q=some (.bl (arr' d.q.toNat)):=zaB q0 (zeu hqn)
   have hol':(z9 n on').length=n:=zbs
   have hbl':(blL n arr').length=n:=zev
   have off:(∀m:Nat,d.p=(m:Int)->0<d.a->stp ds l m=some d.r.toNat->arr' d.q.toNat=true->arr' m=true)->∃(on':Nat->Option Nat) (arr':Nat->Bool) (τ':Nat->Nat) (f5 f6:Option V),[some (V.ref a),some (V.ref b),some (V.ref ow),some (V.ref ar),some y,some (V.int (i:Int)),some (V.ref bd)]=[some (.ref a),some (.ref b),some (.ref ow),some (.ref ar),some y,f5,f6]/\H5 ow=some (.lst (z9 n on'))/\H5 ar=some (.lst (blL n arr'))/\ArrB n ds (stp ds l) on' arr' τ'/\Pass ds (stp ds l) arr arr' (i+1)/\Same H H5:=fun h=>⟨on',arr',τ',_,_,rfl,how5,har5,AB',PP.off hdi h,e4.trans e5⟩
   walk_at "x"
   ·rename_i ha
    refine zko r0 ?_
    walk_at "x"
    ·rename_i hst hna hq
     have h1:arr' d.p.toNat=false:=by cases hz:arr' d.p.toNat with | false=>rfl | true=>rw[hz]at hna;cases hna
     refine zcC (j:=d.p.toNat) how5 (zcD p0 (by omega)) ?_
     intro H6 b6 h6
     rw[show V.int (i:Int)=zbb (some i)from rfl,zoi]at h6
     have har6:=b6.lst har5 nao
     have hbd6:H6 bd=some (.tup [.int d.p,.int d.q,.int d.r,.int d.a]):=b6.tup hbd'
     walk_at "x"
     refine zcC (j:=d.p.toNat) har6 (zcD p0 (by omega)) ?_
     intro H7 b7 h7
     rw[zkG]at h7
     walk_at "x"
     exact⟨_,_,_,_,_,rfl,b7.lst h6 (fun z=>nao z.symm),h7,AB'.step hpn (hd d (ya hdi)) ⟨hdi,epn,ha,hst⟩ h1 hq,PP.came hdi epn,b7.same (b6.same (e4.trans e5) fow) far'⟩
    ·rename_i hst hna hq
     exact off fun m _ _ _ h=>by rw[hq]at h;cases h
    ·rename_i hst hna
     refine off fun m hm _ _ _=>?_
     rw[show m=d.p.toNat by omega]
     cases hz:arr' d.p.toNat with
     | true=>rfl
     | false=>rw[hz]at hna;cases hna
    ·rename_i hst
     refine off fun m hm _ h _=>absurd ?_ hst
     rw[<- show m=d.p.toNat by omega];exact h
   ·rename_i ha
    exact off fun m _ h=>absurd h ha
  ·rintro σ' H4 ⟨on',arr',τ',g5,g6,rfl,how4,har4,AB',PP,e4⟩
   rw[hxl]at PP
   walk_at "x"
   refine⟨on',arr',τ',_,_,_,rfl,how4,har4,AB',?_,e4⟩
   rcases hcnt with h | h
   ·rcases zh1 hd hc (fun m hm hz=>(AB.A.none m hm hz).1) PP with g | g
    ·exact .inr fun m hm=>PP.up m (g m hm)
    ·exact .inl (by omega)
   ·exact .inr fun m hm=>PP.up m (h m hm)
 ·rintro σ' H3 ⟨on,arr,τ,f4,f5,f6,rfl,how3,har3,AB,hcnt,e3⟩
  rw[hol]at hcnt
  walk_at "x"
  refine k ow H3 on arr τ fow e3 how3 AB ?_
  rcases hcnt with h | h
  ·exact zi5 h
  ·exact h
theorem ziR(T:Txt K mg):FnOk P w K mg base (CXF P w) 1 T.d_road_from.a T.d_road_from.fd ["sheet", "onward", "member"] (zgJ K):=by
 refine T.d_road_from.F.okN sc_road_from (fun vs H Q E h=>?_) (fun cdv A outer s H vs Q E hr h=>?_)
 ·obtain⟨a,b,m,ds,n,ρ,on,arr,τ,rfl,_⟩:=h;rfl
 obtain⟨a,b,m,ds,n,ρ,on,arr,τ,rfl,⟨xs,hS,hT⟩,hb,n9,hm,hd,hl,A,k⟩:=h
 refine⟨_,(zj (zE (i:=3) sc_road_from.nd rfl (Or.inl rfl) (zbk zh))
 (zj (zE (i:=4) sc_road_from.nd rfl (Or.inl rfl) (pv 2))
 (zj (zdX PassesOwn.never (zK zhy (zB (show IxR _ (rIx K)from zy) (pv 1) (pv 4) (fun _ _=>rfl)) zcn (nomark _))
 (zj (zb3 (show PE _ _ (tBM K _ _ _ _)from zc7 yT yY yZ zbj (pv 3) (ze (zB (show IxR _ (rIx K)from zy) (pv 1) (pv 4) (fun _ _=>rfl)) zh)))
 (zm (zE (i:=4) sc_road_from.nd rfl (Or.inl rfl) (zB (show IxR _ (rIx K)from zy) (zB (show IxR _ (rIx K)from zy) (pv 0) (zB (show IxR _ (rIx K)from zy) (pv 1) (pv 4) (fun _ _=>rfl)) (fun _ _=>rfl)) zi (fun _ _=>rfl))))))
 (zm (zH (pv 3)))))),?_⟩
 refine zN (σ0:=[some (.ref a),some (.ref b),some (.int (m:Int)),none,none]) rfl ?_
 walk_at "x"
 rename_i ro H1 fro e1 hro
 refine⟨fun mm σ H'=>∃(h:Nat) (rd:List Nat),σ=[some (.ref a),some (.ref b),some (.int (m:Int)),some (.ref ro),some (.int (h:Int))]/\h<n/\H' ro=some (.lst (zax rd))/\Same H H'/\(∀rest,Road ds on h rest->Road ds on m (rd++rest))/\rd.length+τ h<=τ m/\mm=τ h,⟨_,m,[],rfl,hm,hro,e1,fun _ r=>r,Nat.le_of_eq (Nat.zero_add _),rfl⟩,?_⟩
 rintro mm σ H2 ⟨h,rd,rfl,hh,hro2,e2,hrd,hlen,rfl⟩
 have hb2:=e2.at hb
 have hat:atI (z9 n on) (h:Int)=some (zbb (on h)):=zak (za3 hh)
 cases hon:on h with
 | none=>
  rw[hon]at hat
  walk_at "x"
  ·exact absurd rfl (by assumption)
  ·refine k ro H2 rd fro e2 hro2 ?_ ?_
   ·have:=hrd [] (Road.nil hon)
    rwa [yau]at this
   ·have:=A.B m hm
    have:=zlS (arr:=arr) (n:=n)
    omega
 | some i=>
  rw[hon,show zbb (some i)=V.int (i:Int)from rfl]at hat
  obtain⟨d,L,a1,a2,a3⟩:=A.A.some h i hh hon
  obtain⟨bd,hbi,hbd⟩:=(hT.same e2).getI L.1
  have hdk:=hd d (ya L.1)
  have q0:=hdk.2.2.1
  have q1:=hdk.2.2.2.1
  have hbd':H2 bd=some (.tup [.int d.p,.int d.q,.int d.r,.int d.a]):=hbd
  have hati:atI xs (i:Int)=some (.ref bd):=zak hbi
  have hsq:SqL K H2 a xs:=hS.keep e2
  have hn1:=zac (l:=rd)
  have hb9:=A.B m hm
  have hc9:=zlS (arr:=arr) (n:=n)
  walk_at "x"
  ·refine⟨fun σ' H'=>∃(h':Nat),σ'=[some (.ref a),some (.ref b),some (.int (m:Int)),some (.ref ro),some (.int (h':Int))]/\h'=d.q.toNat/\H' ro=some (.lst (zax (rd++[i])))/\Same H H',?_,?_⟩
   ·rintro σ' H' ⟨h',rfl,rfl,hro3,e3⟩
    refine⟨τ d.q.toNat,a3,d.q.toNat,rd++[i],rfl,by omega,hro3,e3,fun rest hr=>?_,?_,rfl⟩
    ·rw[ybH]
     exact hrd _ (Road.cons hon L.1 hr)
    ·rw[yb];simp only[y8];omega
   ·walk_at "x"
    rename_i hz H3 b3 h3
    have e3:=b3.same e2 fro
    have hsq3:SqL K H3 a xs:=hS.keep e3
    have hbd3:H3 bd=some (.tup [.int d.p,.int d.q,.int d.r,.int d.a]):=b3.tup hbd'
    walk_at "x"
    refine⟨d.q.toNat,by rw[<- show d.q=((d.q.toNat:Nat):Int) by omega],rfl,?_,e3⟩
    rw[zdA];exact h3
  ·rename_i hz
   cases hz
theorem znW(T:Txt K mg):FnOk P w K mg base (CXF P w) 6 T.d_roads.a T.d_roads.fd ["sheet", "purses"] (zkJ K):=by
 refine T.d_roads.F.okN sc_roads (fun vs H Q E h=>?_) (fun cdv A outer s H vs Q E hr h=>?_)
 ·obtain⟨a,u,n,ds,ps,W,P,rfl,_⟩:=h;rfl
 obtain⟨a,u,n,ds,ps,W,P,rfl,hS,hu,C,k⟩:=h
 refine⟨_,(zj (zE (i:=2) sc_roads.nd rfl (Or.inl rfl) (zA (znN T) (hr.mono (by decide)) rfl T.d_stops.m T.d_stops.F.kp T.d_stops.b .nil (zG zF) (ze (pv 0) (ze (zA (zdP T) (hr.mono (by decide)) rfl T.d_cleared.m T.d_cleared.F.kp T.d_cleared.b .nil (zG zF) (ze (pv 0) (ze (pv 1) zh))) zh))))
 (zj (zE (i:=3) sc_roads.nd rfl (Or.inr rfl) (zA (zie T) (hr.mono (by decide)) rfl T.d_first_dues.m T.d_first_dues.F.kp T.d_first_dues.b .nil (zG zF) (ze (pv 0) (ze (pv 2) zh))))
 (zm (zH (za0 rfl (zaS rfl T.z_range (ze (zR (show CallR _ _ (zaO K)from zW) rfl T.z_len BT.len (ze (pv 2) zh)) zh)) (zP (Ni:=["member", "sheet", "onward"]) (caps:=[none,some 0,some 3]) (by rfl)) (fun S _ _ _ _ _=>(zS (gi:=0) S (Or.inl rfl) rfl)) (fun _ _ _ _ _=>zal) (fun _ _ _ _ _=>(zA (ziR T) (hr.mono (by decide)) rfl T.d_road_from.m T.d_road_from.F.kp T.d_road_from.b .nil (zG zF) (ze (pv 1) (ze (pv 2) (ze (pv 0) zh)))))))))),?_⟩
 refine zN (σ0:=[some (.ref a),some (.ref u),none,none]) rfl ?_
 walk_at "x"
 refine zb1 ?_
 refine zdx hS hu C ?_
 intro la H1 ws kk fla e1 hla hws hfin hnf hok
 have hwide:=C.wide hok
 have hql:(zba n ds ps kk).length=n:=zdm
 have hd:∀d∈ds,zM (zba n ds ps kk).length d/\d.a<=1000000000000:=by rw[hql];exact fun d h=>⟨C.hd d h,C.ha d h⟩
 have h9:=C.n9
 walk_at "x"
 refine ze0 (hS.same e1) hla hws hd C.hl (by rw[hql];exact h9) (fun q hq=>(hwide q hq).2.mono (by decide) (by decide)) ?_
 intro ra H2 fra e2 hra
 rw[zfr]at hra
 have hS2:=(hS.same e1).same e2
 walk_at "x"
 refine zb1 ?_
 refine zlZ hS2 hra h9 C.hd C.hl hfin.1 ?_
 intro ow H3 on arr τ fow e3 how AB all
 have hra3:=e3.at hra
 have hS3:=hS2.same e3
 have hol:(z9 n (stp ds (cst n ds (pQ ps) kk).1)).length=n:=zbs
 walk_at "x"
 refine zam (zcA (lo:=0) (n:=((z9 n (stp ds (cst n ds (pQ ps) kk).1)).length:Int).toNat)) (fun _ _=>trivial) rfl (fun i vs H'=>∃(as:List Addr) (rds:List (List Nat)),vs=as.map V.ref/\LsOf H' as rds/\as.length=i/\(∀b∈as,H3 b=none)/\as.Nodup/\∀m rd,rds[m]?=some rd->Road ds on m rd/\rd.length<=9) (fun H' _=>⟨[],[],rfl,LsOf.nil,rfl,(fun _ h=>nomatch h),yaE,fun _ _ h=>nomatch h⟩) ?_ ?_
 ·rintro i x D vs o H4 H5 hi hD e4 hv hvl ⟨as,rds,rfl,hL,hal,hF,hnd,hrd⟩ e5 rfl
  have ei:(0:Int)+(i:Int)=i:=by omega
  rw[yx,hol]at hi
  rw[ei]
  have e35:=e4.trans e5
  walk_at "x"
  refine zje (hS3.same e35) (e35.at how) h9 hi C.hd C.hl AB ?_
  intro p H6 rd fp e6 hp hr r9
  have hv6:=(e5.trans e6).at hv
  walk_at "x"
  rename_i H7 b7 h7
  have npD:p≠D:=zcK fp (e5.at hv)
  have nD:D∉as:=fun z=>by
   obtain⟨j,hj,ej⟩:=y9 z
   obtain⟨l,_,h2⟩:=hL.2 j D (by rw[yj hj,ej])
   rw[hv]at h2
   cases as with
   | nil=>cases z
   | cons y ys=>
    cases l with
    | nil=>cases h2
    | cons l0 ls=>cases h2
  have np:p∉as:=fun z=>by
   obtain⟨j,hj,ej⟩:=y9 z
   obtain⟨l,_,h2⟩:=(hL.same e5).2 j p (by rw[yj hj,ej])
   rw[fp]at h2;cases h2
  refine⟨⟨_,rfl⟩,b7.same (e35.trans e6) hD,_,h7,by rw[yb];exact yp hvl,as++[p],rds++[rd],by rw[yl];rfl,((hL.same (e5.trans e6)).but b7 nD).snoc (b7.lst hp npD),by rw[yb,hal];rfl,fun b hb=>?_,?_,fun m rd' hm=>?_⟩
  ·rcases yR.mp hb with h | h
   ·exact hF b h
   ·rw[yw.mp h];exact Same.none fp e35
  ·exact ya3.mpr ⟨hnd,by simp,fun x hx y hy e=>np (by rw[yw]at hy;subst hy;subst e;exact hx)⟩
  ·have hrl:rds.length=i:=by rw[<- hL.1];exact hal
   rcases ybL m rds.length with h | h | h
   ·rw[yW h]at hm;exact hrd m rd' hm
   ·rw[h,ya7]at hm
    cases hm
    rw[h,hrl];exact⟨hr,r9⟩
   ·rw[yae (by rw[yb];simp only[y8];omega)]at hm;cases hm
 ·rintro D H4 vs hD e4 hv hvl ⟨as,rds,rfl,hL,hal,hF,hnd,hrd⟩
  rw[yx,hol]at hal
  have e03:=(e1.trans e2).trans e3
  exact k D H4 as rds on arr τ kk (Same.none hD e03) (e03.trans e4) hv hL (fun b hb=>Same.none (hF b hb) e03) hnd ⟨by rw[<- hL.1];exact hal,hrd⟩ AB all hfin hnf
theorem zhi(T:Txt K mg):FnOk P w K mg base (CXF P w) 4 T.d_shares_paid.a T.d_shares_paid.fd ["owed", "lay"] (zfu K):=by
 refine T.d_shares_paid.F.okN sc_shares_paid (fun vs H Q E h=>?_) (fun cdv A outer s H vs Q E hr h=>?_)
 ·obtain⟨l,y,f,q,rfl,_⟩:=h;rfl
 obtain⟨l,y,f,q,rfl,hl,hf,hy,hs,k⟩:=h
 refine⟨_,(zj (zE (i:=2) sc_shares_paid.nd rfl (Or.inl rfl) (zbk zh))
 (zj (zE (i:=3) sc_shares_paid.nd rfl (Or.inl rfl) (pv 1))
 (zj (zau PassesOwn.never rfl (show PI _ _ _ (zaG K _)from zai (pv 0)) (zU (i:=4) sc_shares_paid.nd rfl (Or.inl rfl))
 (zj (zE (i:=5) sc_shares_paid.nd rfl (Or.inl rfl) (zA (zeS T) (hr.mono (by decide)) rfl T.d_least.m T.d_least.F.kp T.d_least.b .nil (zG zF) (ze (pv 3) (ze (zad (ze (pv 4) (ze zi zh))) zh))))
 (zj (zE (i:=3) sc_shares_paid.nd rfl (Or.inl rfl) (zA (zgs T) (hr.mono (by decide)) rfl T.d_minus.m T.d_minus.F.kp T.d_minus.b .nil (zG zF) (ze (pv 3) (ze (pv 5) zh))))
 (zm (zb3 (show PE _ _ (tBM K _ _ _ _)from zc7 yT yY yZ zbj (pv 2) (ze (zeN (zK zcR (pv 4) zi (nomark _)) (zA (zkx T) (hr.mono (by decide)) rfl T.d_over.m T.d_over.F.kp T.d_over.b .nil (zG zF) (ze (pv 5) (ze (zad (ze (pv 4) (ze zi zh))) zh))) (zad (ze zi (ze zi zh)))) zh)))))))
 (zm (zH (pv 2)))))),?_⟩
 refine zN (σ0:=[some (.ref l),some (.ref y),none,none,none,none]) rfl ?_
 walk_at "x"
 rename_i sh H0 fsh e0 hsh
 refine zco (xs:=(vec 3 f).map V.int) (fun i σ' H'=>∃(p:Addr) (vs:List V) (f4 f5:Option V),σ'=[some (.ref l),some (.ref y),some (.ref sh),some (.ref p),f4,f5]/\IsQ H' p (zaC f q i)/\H' sh=some (.lst vs)/\IsQs H' vs ((List.range i).map (zae f q))/\Same H H') ⟨y,[],_,_,rfl,e0.at hy,hsh,trivial,e0⟩ ?_ ?_ ?_
 ·rintro i σ' H' _ ⟨_,_,_,_,_,_,_,_,e⟩;exact SqL.of (e.at hl)
 ·rintro i x σ' H1 hx ⟨p,vs,f4,f5,rfl,hp,hs1,hvs,e1⟩
  have hi:i<3:=by
   have:=(yk.mp hx).1
   rwa [yh,zbo]at this
  have ex:x=.int (f i):=by rw[yf,zbn hi]at hx;exact(yn hx).symm
  subst ex
  obtain⟨f0,f1⟩:=hf i hi
  have zr:=hs.rest hf (yaQ hi)
  have zl:=hs.laid hf hi
  have zf:=zf0 f0 f1
  have o1:OkQ (zaC f q i):=zr.ok (by decide) (by decide)
  have o2:OkQ (zaa f q i):=zl.ok (by decide) (by decide)
  have z8:SzQ ((f i:Int):Rat) 8999 8999:=zf.mono (by decide) (by decide)
  have hvl:vs.length<=3:=by have:=hvs.length;rw[yh,yv]at this;omega
  walk_at "x"
  refine zay (q:=((f i:Int):Rat)) ⟨rfl,rfl⟩ ?_
  intro t H2 e2 ht
  refine zb1 ?_
  refine zmn (e2.at hp) ht (zr.mono (by decide) (by decide)) (zf.mono (by decide) (by decide)) fun c hc=>?_
  have hc':IsQ H2 c (zaa f q i):=hc
  have hp2:IsQ H2 p (zaC f q i):=e2.at hp
  walk_at "x"
  ·rename_i r2 H3 e3 hr3 h0
   refine zay (q:=((f i:Int):Rat)) ⟨rfl,rfl⟩ ?_
   intro t2 H4 e4 ht2
   have hnz:((f i:Int):Rat).num≠0:=by show f i≠0;omega
   have hc4:IsQ H4 c (zaa f q i):=e4.at (e3.at hc')
   have hs4:H4 sh=some (.lst vs):=e4.at (e3.at (e2.at hs1))
   refine zb1 ?_
   refine zhW hc4 ht2 o2 z8 hnz ?_
   intro r3 H5 e5 hr5
   walk_at "x"
   rename_i H6 b6 h6
   refine⟨r2,vs++[.ref r3],_,_,rfl,?_,h6,?_,by walk_at "h"⟩
   ·show IsQ H6 r2 (zaC f q i-zaa f q i)
    walk_at "h"
   ·rw[yC,yl,yA,show zae f q i=zaa f q i/((f i:Int):Rat)from if_pos h0]
    exact IsQs.app (by walk_at "h") (by walk_at "h")
  ·rename_i r2 H3 e3 hr3 h0
   refine zay (q:=(0:Rat)) ⟨rfl,rfl⟩ ?_
   intro r3 H5 e5 hr5
   have hs4:H5 sh=some (.lst vs):=e5.at (e3.at (e2.at hs1))
   walk_at "x"
   rename_i H6 b6 h6
   refine⟨r2,vs++[.ref r3],_,_,rfl,?_,h6,?_,by walk_at "h"⟩
   ·show IsQ H6 r2 (zaC f q i-zaa f q i)
    walk_at "h"
   ·rw[yC,yl,yA,show zae f q i=0 from if_neg h0]
    exact IsQs.app (by walk_at "h") (by walk_at "h")
 ·rintro σ' H1 ⟨p,vs,f4,f5,rfl,hp,hs1,hvs,e1⟩
  rw[yh,zbo]at hvs
  walk_at "x"
  exact k _ _ _ fsh e1 hs1 hvs
theorem zo5(T:Txt K mg):FnOk P w K mg base (CXF P w) 5 T.d_paid.a T.d_paid.fd ["sheet", "lays"] (zhk K):=by
 refine T.d_paid.F.okN sc_paid (fun vs H Q E h=>?_) (fun cdv A outer s H vs Q E hr h=>?_)
 ·obtain⟨a,y,ds,ws,qs,rfl,_⟩:=h;rfl
 obtain⟨a,y,ds,ws,qs,rfl,⟨xs,hS,hT⟩,hy,hq,hd,hl,h9,hs,k⟩:=h
 have hwl:=hq.length
 have hdo:∀d∈ds,zM (ws.length:Int) d:=by rw[hwl];exact fun d h=>(hd d h).1
 have hSh:IsSh K H a ds:=⟨xs,hS,hT⟩
 refine⟨_,(zj (zE (i:=2) sc_paid.nd rfl (Or.inr rfl) (zA (ze7 T) (hr.mono (by decide)) rfl T.d_ranked.m T.d_ranked.F.kp T.d_ranked.b .nil (zG zF) (ze (zR (show CallR _ _ (zaO K)from zW) rfl T.z_len BT.len (ze (pv 1) zh)) (ze (pv 0) zh))))
 (zj (zE (i:=3) sc_paid.nd rfl (Or.inr rfl) (za0 rfl (show PI _ _ _ (zcb K _)from zbp rfl T.z_enumerate (ze (pv 1) zh)) (zP (Ni:=["member", "lay", "owed"]) (caps:=[none,none,some 2]) (by rfl)) (fun S _ _ _ _ _=>(show PG _ _ (zbx K 2 _)from zaU (n:=2) rfl (zQ (zS (gi:=0) S (Or.inl rfl) rfl) (zQ (zS (gi:=1) S (Or.inl rfl) rfl) zaH)))) (fun _ _ _ _ _=>zal) (fun _ _ _ _ _=>(zA (zhi T) (hr.mono (by decide)) rfl T.d_shares_paid.m T.d_shares_paid.F.kp T.d_shares_paid.b .nil (zG zF) (ze (zB (show IxR _ (rIx K)from zy) (pv 2) (pv 0) (fun _ _=>rfl)) (ze (pv 1) zh))))))
 (zm (zH (za0 rfl (show PI _ _ _ (zaG K _)from zai (pv 0)) (zP (Ni:=["due", "shares"]) (caps:=[none,some 3]) (by rfl)) (fun S _ _ _ _ _=>(zS (gi:=0) S (Or.inl rfl) rfl)) (fun _ _ _ _ _=>zal) (fun _ _ _ _ _=>(zA (zdV T) (hr.mono (by decide)) rfl T.d_times.m T.d_times.F.kp T.d_times.b .nil (zG zF) (ze (zad (ze (zB (show IxR _ (rIx K)from zy) (pv 0) zi (fun _ _=>rfl)) (ze zi zh))) (ze (zB (show IxR _ (rIx K)from zy) (zB (show IxR _ (rIx K)from zy) (pv 1) (zB (show IxR _ (rIx K)from zy) (pv 0) zi (fun _ _=>rfl)) (fun _ _=>rfl)) (zB (show IxR _ (rIx K)from zy) (pv 0) zi (fun _ _=>rfl)) (fun _ _=>rfl)) zh))))))))),?_⟩
 refine zN (σ0:=[some (.ref a),some (.ref y),none,none]) rfl ?_
 walk_at "x"
 rename_i su H1 as fsu e1 hsu hal hR hF
 rw[yx]at hal
 have hq1:=hq.same e1
 have hy1:=e1.at hy
 have hbnd:∀i j,j<3->0<=zD ds i j/\zD ds i j<=100000000000000:=fun i j _=>by
  have:=zci (m:=i) (r:=j) ds fun d h=>⟨(hd d h).1.2.2.2.2.2.2.2.1,(hd d h).2⟩
  omega
 refine zbT (za4 (K:=K) (a:=y) (xs:=ws)) (fun H' e=>SqL.of (e.at hy1)) rfl (fun i vs H'=>∃as:List Addr,vs=as.map V.ref/\as.length=i/\∀(m:Nat) (b:Addr),as[m]?=some b->∃us,H' b=some (.lst us)/\H1 b=none/\IsQs H' us ((List.range 3).map (zae (zD ds m) (qs.getD m 0)))) (fun H' _=>⟨[],rfl,rfl,fun m b h=>nomatch h⟩) ?_ ?_
 ·rintro i x D vs o o' H2 H3 hi hD e2 hv hvl ⟨bs,rfl,hbl,hbs⟩ e3 ⟨t,v,rfl,hx,ht⟩
  obtain⟨b,q,rfl,hqi,hb⟩:=(hq1.same (e2.trans e3)).get hx
  have ht':H3 t=some (.tup [.int (i:Int),.ref b]):=ht
  obtain⟨c,hc⟩:=zO (show((i:Int)).toNat<as.length by omega)
  have hrow:=(hR.same (e2.trans e3)).2 _ _ hc
  rw[yx]at hrow
  have hf:=hbnd i
  have hsq:=hs.lay (ya hqi)
  have hsu3:H3 su=some (.lst (as.map V.ref)):=(e2.trans e3).at hsu
  have hqd:qs.getD i 0=q:=by rw[ye,hqi];rfl
  walk_at "x"
  rename_i sp H4 us fsp e4 hsp hus H5 b5 h5
  have hspD:sp≠D:=zcK fsp (e3.at hv)
  refine⟨⟨_,_,rfl⟩,by walk_at "h",_,h5,by rw[yb];exact yp hvl,bs++[sp],by rw[yl];rfl,by rw[yb,hbl];rfl,fun m b' hb'=>?_⟩
  rw[yaN]at hb'
  split at hb'
  ·obtain⟨us',u1,u2,u3⟩:=hbs m b' hb'
   have hne:b'≠D:=fun z=>by
    subst z
    rw[hv]at u1
    cases u1
    cases bs with
    | nil=>cases hb'
    | cons z0 zs=>
     obtain⟨us0,w1,_,_⟩:=hbs 0 z0 rfl
     have u3':IsQs H2 (V.ref z0 :: zs.map V.ref) (zae (zD ds m) (qs.getD m 0) 0 :: [zae (zD ds m) (qs.getD m 0) 1,zae (zD ds m) (qs.getD m 0) 2]):=u3
     obtain⟨⟨a0,w2,w3⟩,_⟩:=u3'
     cases w2
     have w3':H2 z0=some (.tup _):=w3
     rw[w1]at w3';cases w3'
   exact⟨us',b5.lst (e4.at (e3.at u1)) hne,u2,LBut.isQs b5 (u3.same (e3.trans e4))⟩
  ·rename_i hm
   have e0:m-bs.length=0:=by
    cases e:m-bs.length with
    | zero=>rfl
    | succ k=>rw[e]at hb';cases hb'
   rw[e0]at hb';cases hb'
   obtain rfl:m=i:=by omega
   rw[hqd]
   exact⟨us,b5.lst hsp hspD,Same.none (Same.none fsp e3) e2,LBut.isQs b5 hus⟩
 rintro shs H2 vs fshs e2 hshs hvl ⟨bs,rfl,hbl,hbs⟩
 walk_at "x"
 have hT2:=hT.same (e1.trans e2)
 have hS2:SqL K H2 a xs:=(e1.trans e2).seq hS
 have hxl:=hT.length
 refine zam (zaP (K:=K) (a:=a) (xs:=xs)) (fun H' e=>e.seq hS2) rfl (fun i vs H'=>IsQs H' vs ((ds.take i).map (zY ds qs))) (fun H' _=>trivial) ?_ ?_
 ·rintro i x D vs o H3 H4 hi hD e3 hv hvl hvs e4 hx
  obtain⟨b,d,rfl,hdi,hb⟩:=(hT2.same (e3.trans e4)).get hx
  have hb':H4 b=some (.tup [.int d.p,.int d.q,.int d.r,.int d.a]):=hb
  obtain⟨⟨p0,p1,q0,q1,pq,r0,r1,a0,a1⟩,a2⟩:=hd d (ya hdi)
  obtain⟨c,hc⟩:=zO (show d.p.toNat<bs.length by omega)
  obtain⟨us,u1,u2,u3⟩:=hbs _ _ hc
  have ul:=u3.length
  rw[yh,yv]at ul
  obtain⟨v,hv3⟩:=zO (show d.r.toNat<us.length by omega)
  obtain⟨e,s,rfl,hs1,hs2⟩:=(u3.same (e3.trans e4)).get hv3
  have hr3:d.r.toNat<3:=by omega
  have es:s=zae (zD ds d.p.toNat) (qs.getD d.p.toNat 0) d.r.toNat:=by
   rw[yf,yL hr3]at hs1
   exact(yn hs1).symm
  have hat:atI us d.r=some (.ref e):=zaB r0 hv3
  have u14:H4 c=some (.lst us):=(e3.trans e4).at u1
  have hsh4:H4 shs=some (.lst (bs.map V.ref)):=(e3.trans e4).at hshs
  obtain⟨lq,hlq⟩:=zO (show d.p.toNat<qs.length by omega)
  have hqd:qs.getD d.p.toNat 0=lq:=by rw[ye,hlq];rfl
  have zs:=hs.share hd (ya hdi) hlq
  rw[<- hqd,<- es]at zs
  have o1:OkQ ((d.a:Int):Rat):=(zf0 a0 a1).ok (by decide) (by decide)
  have o2:OkQ s:=zs.ok (by decide) (by decide)
  walk_at "x"
  refine zay (q:=((d.a:Int):Rat)) ⟨rfl,rfl⟩ ?_
  intro t H5 e5 ht
  have hs5:IsQ H5 e s:=e5.at hs2
  have u15:=e5.at u14
  have hsh5:=e5.at hsh4
  have hb5:=e5.at hb'
  walk_at "x"
  rename_i p H6 e6 hp6 H7 b7 h7
  refine⟨⟨_,rfl⟩,by walk_at "h",_,h7,by rw[yb];exact yp hvl,?_⟩
  show IsQs H7 _ ((ds.take (i+1)).map (zY ds qs))
  rw[zav hdi,yl,yA,show zY ds qs d=((d.a:Int):Rat)*s by rw[es];rfl]
  exact IsQs.app (by walk_at "h") (by walk_at "h")
 ·rintro D H3 vs hD e3 hv hvl hvs
  rw[hxl,yK]at hvs
  exact k _ _ _ (Same.none (Same.none hD e2) e1) (e1.trans (e2.trans e3)) hv hvs
theorem zoc(T:Txt K mg):FnOk P w K mg base (CXF P w) 3 T.d_total.a T.d_total.fd ["some"] (zhe K):=by
 refine T.d_total.F.okN sc_total (fun vs H Q E h=>?_) (fun cdv A outer s H vs Q E hr h=>?_)
 ·obtain⟨a,xs,qs,rfl,_⟩:=h;rfl
 obtain⟨a,xs,qs,rfl,hS,hQ,hok,hsum,k⟩:=h
 refine⟨_,(zj (zE (i:=1) sc_total.nd rfl (Or.inl rfl) (zad (ze zi (ze zi zh))))
 (zj (zau PassesOwn.never rfl (show PI _ _ _ (zaG K _)from zai (pv 0)) (zU (i:=2) sc_total.nd rfl (Or.inl rfl))
 (zm (zE (i:=1) sc_total.nd rfl (Or.inl rfl) (zA (zes T) (hr.mono (by decide)) rfl T.d_plus.m T.d_plus.F.kp T.d_plus.b .nil (zG zF) (ze (pv 1) (ze (pv 2) zh))))))
 (zm (zH (pv 1))))),?_⟩
 refine zN (σ0:=[some (.ref a),none,none]) rfl ?_
 walk_at "x"
 refine zay (q:=0) ⟨rfl,rfl⟩ ?_
 intro p H1 e1 i1
 walk_at "x"
 try refine zoQ (e1.seq hS) ?_
 refine zco (xs:=xs) (fun i σ' H'=>∃p f,σ'=[some (.ref a),some (.ref p),f]/\IsQ H' p (zdf (qs.take i))/\Same H H') ⟨p,_,rfl,i1,e1⟩ ?_ ?_ ?_
 ·rintro i σ' H' _ ⟨p,f,rfl,_,e⟩
  exact e.seq hS
 ·rintro i x σ' H' hx ⟨p,f,rfl,hp,e⟩
  obtain⟨b,q,rfl,hq,ib⟩:=(hQ.same e).get hx
  have ho:OkQ q:=hok q (ya hq)
  have hs:=hsum i
  walk_at "x"
  rename_i p2 H2 e2 i2
  refine⟨p2,_,rfl,?_,e.trans e2⟩
  have:qs.take (i+1)=qs.take i++[q]:=by
   obtain⟨hi,rfl⟩:=yk.mp hq
   exact yaS hi
  rw[this,zeY];exact i2
 ·rintro σ' H' ⟨p,f,rfl,hp,e⟩
  rw[hQ.length,yK]at hp
  walk_at "x"
  exact k _ _ e hp
theorem zqo(T:Txt K mg):FnOk P w K mg base (CXF P w) 6 T.d_got.a T.d_got.fd ["sheet", "lays"] (zjY K):=by
 refine T.d_got.F.okN sc_got (fun vs H Q E h=>?_) (fun cdv A outer s H vs Q E hr h=>?_)
 ·obtain⟨a,y,ds,ws,qs,rfl,_⟩:=h;rfl
 obtain⟨a,y,ds,ws,qs,rfl,⟨xs,hS,hT⟩,hy,hq,hd,hl,h9,hs,k⟩:=h
 have hwl:=hq.length
 have hxl:=hT.length
 have hSh:IsSh K H a ds:=⟨xs,hS,hT⟩
 refine⟨_,(zj (zbf (i:=2) sc_got.nd rfl rfl rfl (show PI _ _ _ (zaG K _)from zai (pv 1)) (zP (Ni:=["lay"]) (caps:=[none]) (by rfl)) (fun S _ _ _ _ _=>(zS (gi:=0) S (Or.inl rfl) rfl)) (fun _ _ _ _ _=>zal) (fun _ _ _ _ _=>(zbk zh)))
 (zj (zau PassesOwn.never rfl (show PI _ _ _ (zcb K _)from zbp rfl T.z_enumerate (ze (zA (zo5 T) (hr.mono (by decide)) rfl T.d_paid.m T.d_paid.F.kp T.d_paid.b .nil (zG zF) (ze (pv 0) (ze (pv 1) zh))) zh)) (show PG _ _ (zbx K 2 _)from zaU (n:=2) rfl (zQ (zU (i:=3) sc_got.nd rfl (Or.inl rfl)) (zQ (zU (i:=4) sc_got.nd rfl (Or.inl rfl)) zaH)))
 (zm (zb3 (show PE _ _ (tBM K _ _ _ _)from zc7 yT yY yZ zbj (zB (show IxR _ (rIx K)from zy) (pv 2) (zB (show IxR _ (rIx K)from zy) (zB (show IxR _ (rIx K)from zy) (pv 0) (pv 3) (fun _ _=>rfl)) zi (fun _ _=>rfl)) (fun _ _=>rfl)) (ze (pv 4) zh)))))
 (zm (zH (za0 rfl (show PI _ _ _ (zaG K _)from zai (pv 2)) (zP (Ni:=["some"]) (caps:=[none]) (by rfl)) (fun S _ _ _ _ _=>(zS (gi:=0) S (Or.inl rfl) rfl)) (fun _ _ _ _ _=>zal) (fun _ _ _ _ _=>(zA (zoc T) (hr.mono (by decide)) rfl T.d_total.m T.d_total.F.kp T.d_total.b .nil (zG zF) (ze (pv 0) zh)))))))),?_⟩
 refine zN (σ0:=[some (.ref a),some (.ref y),none,none,none]) rfl ?_
 walk_at "x"
 refine zam (zaP (K:=K) (a:=y) (xs:=ws)) (fun H' e=>SqL.of (e.at hy)) rfl (fun i vs H'=>∃as:List Addr,vs=as.map V.ref/\as.length=i/\PRows H' as (fun _=>[])/\(∀b∈as,H b=none)/\∀b∈as,H' b=some (.lst [])) (fun H' _=>⟨[],rfl,rfl,⟨yaE,fun i a h=>nomatch h⟩,(fun _ h=>nomatch h),fun _ h=>nomatch h⟩) ?_ ?_
 ·rintro i x D vs o H2 H3 hi hD e2 hv hvl ⟨as,rfl,hal,hR,hF,hE⟩ e3 hx
  walk_at "x"
  rename_i p H4 fp e4 hp H5 b5 h5
  have hD':D∉as:=fun z=>by
   have:=hE D z
   rw[hv]at this
   cases as with
   | nil=>cases z
   | cons z0 zs=>cases this
  have hpD:p≠D:=zcK fp (e3.at hv)
  refine⟨⟨_,rfl⟩,by walk_at "h",_,h5,by rw[yb];exact yp hvl,as++[p],by rw[yl];rfl,by rw[yb,hal];rfl,PRows.app ((hR.same (e3.trans e4)).but b5 hD') ((hR.same e3).fresh fp) (b5.lst hp hpD) rfl,fun b hb=>?_,fun b hb=>?_⟩
  ·rcases yR.mp hb with h | h
   ·exact hF b h
   ·rw[yw.mp h];exact Same.none fp (e2.trans e3)
  ·rcases yR.mp hb with h | h
   ·exact b5.lst ((e3.trans e4).at (hE b h)) fun z=>hD' (z▸h)
   ·rw[yw.mp h];exact b5.lst hp hpD
 rintro ga H1 vs fga e1 hga hvl ⟨as,rfl,hal,hR,hF,hE⟩
 walk_at "x"
 rename_i pl H2 us fpl e2 hpl hus
 have hul:=hus.length
 rw[yh]at hul
 have npl:pl∉as:=hR.fresh fpl
 have nga:ga∉as:=fun z=>by
  have:=hE ga z
  rw[hga]at this
  cases as with
  | nil=>cases z
  | cons z0 zs=>cases this
 refine zdE (za4 (K:=K) (a:=pl) (xs:=us)) (fun i σ' H'=>∃f3 f4:Option V,σ'=[some (.ref a),some (.ref y),some (.ref ga),f3,f4]/\H' pl=some (.lst us)/\IsQs H' us (ds.map (zY ds qs))/\H' ga=some (.lst (as.map V.ref))/\PRows H' as (zbK (ds.take i) (zY ds qs))/\Same H H') ⟨_,_,rfl,hpl,hus,e2.at hga,hR.same e2,e1.trans e2⟩ ?_ ?_ ?_
 ·rintro i σ' H' ⟨_,_,_,h,_⟩;exact SqL.of h
 ·rintro i x σ' H3 H4 hi ⟨f3,f4,rfl,hpl3,hus3,hga3,hR3,e3⟩ e4 ⟨t,v,rfl,hx,htt⟩
  obtain⟨d,hdi⟩:=zO (show i<ds.length by omega)
  obtain⟨⟨p0,p1,q0,q1,pq,r0,r1,a0,a1⟩,a2⟩:=hd d (ya hdi)
  obtain⟨b,r,rfl,hri,hb⟩:=(hus3.same e4).get hx
  have er:r=zY ds qs d:=by rw[yf,hdi]at hri;exact(yn hri).symm
  subst er
  have ht':H4 t=some (.tup [.int (i:Int),.ref b]):=htt
  obtain⟨c,hc1,hc2⟩:=(hT.same (e3.trans e4)).getI hdi
  have hc':H4 c=some (.tup [.int d.p,.int d.q,.int d.r,.int d.a]):=hc2
  have hat:atI xs (i:Int)=some (.ref c):=zak hc1
  obtain⟨l,hl1⟩:=zO (show d.q.toNat<as.length by omega)
  obtain⟨zs,z1,z2⟩:=(hR3.same e4).2 _ _ hl1
  have hzl:=z2.length
  have hzl2:=zfq (ds:=ds.take i) (g:=zY ds qs) (m:=d.q.toNat)
  rw[ybM]at hzl2
  have hlm:=ya hl1
  have fl:=hF l hlm
  have hga4:=e4.at hga3
  have hS4:SqL K H4 a xs:=(e3.trans e4).seq hS
  walk_at "x"
  rename_i H5 b5 h5
  have nl1:pl≠l:=fun z=>npl (z▸hlm)
  have nl2:ga≠l:=fun z=>nga (z▸hlm)
  have R5:=(hR3.same e4).set b5 hl1 z1 hb h5
  refine⟨_,_,rfl,b5.lst (e4.at hpl3) nl1,LBut.isQs b5 (hus3.same e4),b5.lst hga4 nl2,?_,by walk_at "h"⟩
  refine⟨R5.1,fun m bb hbb=>?_⟩
  obtain⟨vs',w1,w2⟩:=R5.2 m bb hbb
  refine⟨vs',w1,?_⟩
  rw[zav hdi,zgy]
  by_cases e:d.q=(m:Int)
  ·rw[if_pos e]
   have w2':IsQs H5 vs' (if m=d.q.toNat then zbK (ds.take i) (zY ds qs) m++[zY ds qs d]else zbK (ds.take i) (zY ds qs) m):=w2
   rw[if_pos (by omega)]at w2'
   exact w2'
  ·rw[if_neg e,yau]
   have w2':IsQs H5 vs' (if m=d.q.toNat then zbK (ds.take i) (zY ds qs) m++[zY ds qs d]else zbK (ds.take i) (zY ds qs) m):=w2
   rw[if_neg (by omega)]at w2'
   exact w2'
 ·rintro σ' H3 ⟨f3,f4,rfl,hpl3,hus3,hga3,hR3,e3⟩
  rw[hul,yK]at hR3
  walk_at "x"
  refine zam (zaP (K:=K) (a:=ga) (xs:=as.map V.ref)) (fun H' e=>SqL.of (e.at hga3)) rfl (fun i vs H'=>IsQs H' vs ((List.range i).map (zV ds (zY ds qs)))) (fun H' _=>trivial) ?_ ?_
  ·rintro i x D vs o H4 H5 hi hD e4 hv hvl hvs e5 hx
   rw[yh]at hi
   obtain⟨l,hl1⟩:=zO hi
   have ex:x=.ref l:=by rw[yf,hl1]at hx;exact(yn hx).symm
   subst ex
   obtain⟨zs,z1,z2⟩:=(hR3.same (e4.trans e5)).2 _ _ hl1
   have o1:=hs.gain hd i
   have o2:=hs.sums hd hl i
   walk_at "x"
   rename_i p H6 e6 hp6 H7 b7 h7
   refine⟨⟨_,rfl⟩,by walk_at "h",_,h7,by rw[yb];exact yp hvl,?_⟩
   show IsQs H7 _ ((List.range (i+1)).map (zV ds (zY ds qs)))
   rw[yC,yl,yA]
   exact IsQs.app (LBut.isQ b7 hp6) (by walk_at "h")
  ·rintro D H4 vs hD e4 hv hvl hvs
   rw[yh,hal,hwl]at hvs
   exact k D H4 vs (Same.none hD e3) (e3.trans e4) hv hvs
theorem zkP(T:Txt K mg):FnOk P w K mg base (CXF P w) 1 T.d_owes.a T.d_owes.fd ["many", "sheet"] (zjV K):=by
 refine T.d_owes.F.okN sc_owes (fun vs H Q E h=>?_) (fun cdv A outer s H vs Q E hr h=>?_)
 ·obtain⟨n,a,ds,rfl,_⟩:=h;rfl
 obtain⟨n,a,ds,rfl,⟨xs,hS,hT⟩,n0,n1,hd,k⟩:=h
 refine⟨_,(zj (zE (i:=2) sc_owes.nd rfl (Or.inl rfl) (zJ zZ (zbk (ze zi zh)) (pv 0)))
 (zj (zau PassesOwn.never rfl (show PI _ _ _ (zaG K _)from zai (pv 1)) (show PG _ _ (zbx K 4 _)from zaU (n:=4) rfl (zQ (zU (i:=3) sc_owes.nd rfl (Or.inl rfl)) (zQ (zU (i:=4) sc_owes.nd rfl (Or.inl rfl)) (zQ (zU (i:=5) sc_owes.nd rfl (Or.inl rfl)) (zQ (zU (i:=6) sc_owes.nd rfl (Or.inl rfl)) zaH)))))
 (zm (zhB (pv 2) (pv 3) (show zjI _ (zeQ K)from zfs) (pv 6) zfp za6)))
 (zm (zH (pv 2))))),?_⟩
 refine zN (σ0:=[some (.int n),some (.ref a),none,none,none,none,none]) rfl ?_
 walk_at "x"
 rename_i l H2 fl e2 hl
 refine zco (xs:=xs) (fun i σ' H'=>∃f3 f4 f5 f6,σ'=[some (.int n),some (.ref a),some (.ref l),f3,f4,f5,f6]/\H' l=some (.lst ((vec n.toNat (zch (ds.take i))).map V.int))/\Same H H') ?_ ?_ ?_ ?_
 ·exact⟨_,_,_,_,rfl,hl,by walk_at "h"⟩
 ·rintro i σ' H' _ ⟨_,_,_,_,_,_,e⟩;exact e.seq hS
 ·rintro i x σ' H4 hx ⟨f3,f4,f5,f6,rfl,hl3,e3⟩
  obtain⟨b,d,rfl,hdi,hb⟩:=(hT.same e3).get hx
  have hb':H4 b=some (.tup [.int d.p,.int d.q,.int d.r,.int d.a]):=hb
  obtain⟨p0,p1,q0,q1,pq,r0,r1,a0,a1⟩:=hd d (ya hdi)
  walk_at "x"
  rename_i H5 b5 h5
  refine⟨_,_,_,_,rfl,?_,by walk_at "h"⟩
  rw[h5,zav hdi]
  congr 3
  refine zea fun m hm=>?_
  rw[zgO]
  by_cases e:d.p=m
  ·rw[if_pos e,if_pos (by omega)];congr 2;omega
  ·rw[if_neg e,if_neg (by omega)]
 ·rintro σ' H3 ⟨f3,f4,f5,f6,rfl,hl3,e3⟩
  rw[hT.length,yK]at hl3
  walk_at "x"
  exact k _ _ (by walk_at "h") e3 hl3
theorem zi0(T:Txt K mg):FnOk P w K mg base (CXF P w) 7 T.d_next_lays.a T.d_next_lays.fd ["sheet", "purses", "lays"] (zg5 K):=by
 refine T.d_next_lays.F.okN sc_next_lays (fun vs H Q E h=>?_) (fun cdv A outer s H vs Q E hr h=>?_)
 ·obtain⟨a,u,y,ds,ps,ws,qs,rfl,_⟩:=h;rfl
 obtain⟨a,u,y,ds,ps,ws,qs,rfl,hSh,hu,hy,hq,hd,hl,h9,hpl,hp,hs,k⟩:=h
 have hwl:=hq.length
 have hdo:∀d∈ds,zM (ws.length:Int) d:=by rw[hwl];exact fun d h=>(hd d h).1
 refine⟨_,(zj (zE (i:=3) sc_next_lays.nd rfl (Or.inr rfl) (zA (zkP T) (hr.mono (by decide)) rfl T.d_owes.m T.d_owes.F.kp T.d_owes.b .nil (zG zF) (ze (zR (show CallR _ _ (zaO K)from zW) rfl T.z_len BT.len (ze (pv 2) zh)) (ze (pv 0) zh))))
 (zj (zE (i:=4) sc_next_lays.nd rfl (Or.inr rfl) (zA (zqo T) (hr.mono (by decide)) rfl T.d_got.m T.d_got.F.kp T.d_got.b .nil (zG zF) (ze (pv 0) (ze (pv 2) zh))))
 (zm (zH (za0 rfl (show PI _ _ _ (zcb K _)from zbp rfl T.z_enumerate (ze (pv 1) zh)) (zP (Ni:=["member", "purse", "owed", "gains"]) (caps:=[none,none,some 3,some 4]) (by rfl)) (fun S _ _ _ _ _=>(show PG _ _ (zbx K 2 _)from zaU (n:=2) rfl (zQ (zS (gi:=0) S (Or.inl rfl) rfl) (zQ (zS (gi:=1) S (Or.inl rfl) rfl) zaH)))) (fun _ _ _ _ _=>zal) (fun _ _ _ _ _=>(zA (zeS T) (hr.mono (by decide)) rfl T.d_least.m T.d_least.F.kp T.d_least.b .nil (zG zF) (ze (zad (ze (zB (show IxR _ (rIx K)from zy) (pv 2) (pv 0) (fun _ _=>rfl)) (ze zi zh))) (ze (zA (zes T) (hr.mono (by decide)) rfl T.d_plus.m T.d_plus.F.kp T.d_plus.b .nil (zG zF) (ze (zad (ze (pv 1) (ze zi zh))) (ze (zB (show IxR _ (rIx K)from zy) (pv 3) (pv 0) (fun _ _=>rfl)) zh))) zh))))))))),?_⟩
 refine zN (σ0:=[some (.ref a),some (.ref u),some (.ref y),none,none]) rfl ?_
 walk_at "x"
 rename_i ow H1 fow e1 how ga H2 us fga e2 hga hus
 have hul:=hus.length
 rw[yh,yv]at hul
 have hu2:=e2.at (e1.at hu)
 refine zbT (za4 (K:=K) (a:=u) (xs:=ps.map V.int)) (fun H' e=>SqL.of (e.at hu2)) rfl (fun i vs H'=>IsQs H' vs ((List.range i).map (zbd ds ps qs))) (fun H' _=>trivial) ?_ ?_
 ·rintro i x D vs o o' H3 H4 hi hD e3 hv hvl hvs e4 ⟨t,v,rfl,hx,ht⟩
  rw[yh]at hi
  obtain⟨p,hpi⟩:=zO hi
  have ex:v=.int p:=by rw[yf,hpi]at hx;exact(yn hx).symm
  subst ex
  have ht':H4 t=some (.tup [.int (i:Int),.int p]):=ht
  obtain⟨p0,p1⟩:=hp p (ya hpi)
  have hpd:ps.getD i 0=p:=by rw[ye,hpi];rfl
  have ho:zch ds i=zao (vec 3 (zD ds i)):=zgR fun d h=>⟨(hd d h).1.2.2.2.2.2.1,(hd d h).1.2.2.2.2.2.2.1⟩
  have how4:H4 ow=some (.lst ((vec (ws.length:Int).toNat (zch ds)).map V.int)):=e4.at (e3.at (e2.at how))
  have hat:atI ((vec (ws.length:Int).toNat (zch ds)).map V.int) (i:Int)=some (.int (zao (vec 3 (zD ds i)))):=by rw[<- ho];exact zak (by rw[yf,zbn (by omega)];rfl)
  obtain⟨v,hvu⟩:=zO (show i<us.length by omega)
  obtain⟨g,r,rfl,hri,hg⟩:=(hus.same (e3.trans e4)).get hvu
  have hatg:atI us (i:Int)=some (.ref g):=zak hvu
  have er:r=zV ds (zY ds qs) i:=by rw[yf,yL (by omega)]at hri;exact(yn hri).symm
  subst er
  have hga4:H4 ga=some (.lst us):=e4.at (e3.at hga)
  have hb:=zf8 hd hl i
  have o1:OkQ ((p:Int):Rat):=(zf0 p0 p1).ok (by decide) (by decide)
  have o2:OkQ (zV ds (zY ds qs) i):=(hs.got hd hl i).ok (by decide) (by decide)
  have z1:SzQ (zbc ds i) 60000 60000:=(ziL hd hl i).2.mono (by decide) (by decide)
  have z2:SzQ (((p:Int):Rat)+zV ds (zY ds qs) i) 60000 60000:=(hs.next (ps:=ps) hd hl p0 p1 i).mono (by decide) (by decide)
  walk_at "x"
  refine zay (q:=zbc ds i) ⟨by rw[yx];exact ho,rfl⟩ ?_
  intro t1 H5 e5 ht1
  have hga5:=e5.at hga4
  have ht5:=e5.at ht'
  walk_at "x"
  refine zay (q:=((p:Int):Rat)) ⟨rfl,rfl⟩ ?_
  intro t2 H6 e6 ht2
  have hga6:=e6.at hga5
  have ht6:=e6.at ht5
  have hg6:IsQ H6 g (zV ds (zY ds qs) i):=e6.at (e5.at hg)
  walk_at "x"
  ·rename_i t3 H7 e7 ht3 hc H8 b8 h8
   refine⟨⟨_,_,rfl⟩,by walk_at "h",_,h8,by rw[yb];exact yp hvl,?_⟩
   show IsQs H8 _ ((List.range (i+1)).map (zbd ds ps qs))
   rw[yC,yl,yA]
   refine IsQs.app (LBut.isQ b8 ?_) (by walk_at "h")
   unfold zbd
   rw[hpd,if_pos hc]
   exact ht3
  ·rename_i t3 H7 e7 ht3 hc H8 b8 h8
   refine⟨⟨_,_,rfl⟩,by walk_at "h",_,h8,by rw[yb];exact yp hvl,?_⟩
   show IsQs H8 _ ((List.range (i+1)).map (zbd ds ps qs))
   rw[yC,yl,yA]
   refine IsQs.app (LBut.isQ b8 ?_) (by walk_at "h")
   unfold zbd
   rw[hpd,if_neg hc]
   exact e7.at (e6.at ht1)
 ·rintro D H3 vs hD e3 hv hvl hvs
  rw[yh]at hvs
  exact k D H3 vs (Same.none (Same.none hD e2) e1) (e1.trans (e2.trans e3)) hv hvs
theorem zkc(T:Txt K mg):FnOk P w K mg base (CXF P w) 2 T.d_are_lays.a T.d_are_lays.fd ["sheet", "lays"] (zhC K):=by
 refine T.d_are_lays.F.okN sc_are_lays (fun vs H Q E h=>?_) (fun cdv A outer s H vs Q E hr h=>?_)
 ·obtain⟨a,y,ds,ws,qs,rfl,_⟩:=h;rfl
 obtain⟨a,y,ds,ws,qs,rfl,hSh,hy,hq,hd,hl,h9,hs,k,k'⟩:=h
 have hwl:=hq.length
 have hdo:∀d∈ds,zM (ws.length:Int) d:=by rw[hwl];exact fun d h=>(hd d h).1
 refine⟨_,(zj (zE (i:=2) sc_are_lays.nd rfl (Or.inr rfl) (zA (zkP T) (hr.mono (by decide)) rfl T.d_owes.m T.d_owes.F.kp T.d_owes.b .nil (zG zF) (ze (zR (show CallR _ _ (zaO K)from zW) rfl T.z_len BT.len (ze (pv 1) zh)) (ze (pv 0) zh))))
 (zm (zH (zR (show CallR _ _ (zgB K)from zhL rfl) rfl T.z_all BT.all (ze (za0 rfl (show PI _ _ _ (zcb K _)from zbp rfl T.z_enumerate (ze (pv 1) zh)) (zP (Ni:=["member", "lay", "owed"]) (caps:=[none,none,some 2]) (by rfl)) (fun S _ _ _ _ _=>(show PG _ _ (zbx K 2 _)from zaU (n:=2) rfl (zQ (zS (gi:=0) S (Or.inl rfl) rfl) (zQ (zS (gi:=1) S (Or.inl rfl) rfl) zaH)))) (fun _ _ _ _ _=>zal) (fun _ _ _ _ _=>(zm8 (show PE _ _ (zgW K _)from zhA (zA (zeV T) (hr.mono (by decide)) rfl T.d_under.m T.d_under.F.kp T.d_under.b .nil (zG zF) (ze (pv 1) (ze (zad (ze zi (ze zi zh))) zh)))) (zm7 (show PE _ _ (zgW K _)from zhA (zA (zeV T) (hr.mono (by decide)) rfl T.d_under.m T.d_under.F.kp T.d_under.b .nil (zG zF) (ze (zad (ze (zB (show IxR _ (rIx K)from zy) (pv 2) (pv 0) (fun _ _=>rfl)) (ze zi zh))) (ze (pv 1) zh)))))))) zh))))),?_⟩
 refine zN (σ0:=[some (.ref a),some (.ref y),none]) rfl ?_
 walk_at "x"
 rename_i ow H1 fow e1 how
 have hy1:=e1.at hy
 have hq1:=hq.same e1
 refine zbT (za4 (K:=K) (a:=y) (xs:=ws)) (fun H' e=>SqL.of (e.at hy1)) rfl (fun i vs _=>vs=blL i (zej ds qs)) (fun H' _=>rfl) ?_ ?_
 ·rintro i x D vs o o' H3 H4 hi hD e3 hv hvl rfl e4 ⟨t,v,rfl,hx,ht⟩
  obtain⟨b,q,rfl,hqi,hb⟩:=(hq1.same (e3.trans e4)).get hx
  have ht':H4 t=some (.tup [.int (i:Int),.ref b]):=ht
  have hsq:=hs q (ya hqi)
  have hqd:qs.getD i 0=q:=by rw[ye,hqi];rfl
  have ho:zch ds i=zao (vec 3 (zD ds i)):=zgR fun d h=>⟨(hd d h).1.2.2.2.2.2.1,(hd d h).1.2.2.2.2.2.2.1⟩
  have how4:H4 ow=some (.lst ((vec (ws.length:Int).toNat (zch ds)).map V.int)):=e4.at (e3.at how)
  have hat:atI ((vec (ws.length:Int).toNat (zch ds)).map V.int) (i:Int)=some (.int (zao (vec 3 (zD ds i)))):=by rw[<- ho];exact zak (by rw[yf,zbn (by omega)];rfl)
  have z1:SzQ (zbc ds i) 60000 60000:=(ziL hd hl i).2.mono (by decide) (by decide)
  have z0:SzQ (0:Rat) 60000 60000:=(zmr (x:=0) (by decide) (by decide)).mono (by decide) (by decide)
  walk_at "x"
  refine zay (q:=0) ⟨rfl,rfl⟩ ?_
  intro t1 H5 e5 ht1
  have hb5:IsQ H5 b q:=e5.at hb
  have ht5:=e5.at ht'
  have how5:=e5.at how4
  walk_at "x"
  ·rename_i hq0
   refine zay (q:=zbc ds i) ⟨by rw[yx];exact ho,rfl⟩ ?_
   intro t2 H6 e6 ht2
   have hb6:IsQ H6 b q:=e6.at hb5
   have ht6:=e6.at ht5
   have el:zej ds qs i=!decide (zbc ds i<q):=by unfold zej;rw[hqd,decide_eq_false hq0];rfl
   walk_at "x"
   rename_i H7 b7 h7
   refine⟨⟨_,_,rfl⟩,by walk_at "h",_,h7,by rw[yb];exact yp hvl,?_⟩
   dsimp only
   rw[zex,el]
  ·rename_i hq0 H7 b7 h7
   have el:zej ds qs i=false:=by unfold zej;rw[hqd,decide_eq_true hq0];rfl
   refine⟨⟨_,_,rfl⟩,by walk_at "h",_,h7,by rw[yb];exact yp hvl,?_⟩
   dsimp only
   rw[zex,el]
 rintro D H3 vs hD e3 hv hvl rfl
 rw[zkF,hwl]at hv
 walk_at "x"
 show Q _ H3
 cases e:((List.range qs.length).map (zej ds qs)).all id with
 | true=>exact k _ (e1.trans e3) (layB_iff.mp e)
 | false=>exact k' _ (e1.trans e3) fun z=>by rw[layB_iff.mpr z]at e;cases e
theorem zg9(T:Txt K mg):FnOk P w K mg base (CXF P w) 8 T.d_is_clearing.a T.d_is_clearing.fd ["sheet", "purses", "lays"] (zkk K):=by
 refine T.d_is_clearing.F.okN zho (fun vs H Q E h=>?_) (fun cdv A outer s H vs Q E hr h=>?_)
 ·obtain⟨a,u,y,ds,ps,ws,qs,rfl,_⟩:=h;rfl
 obtain⟨a,u,y,ds,ps,ws,qs,rfl,hSh,hu,hy,hq,hd,hl,h9,hpl,hp,hs,hg,k,k'⟩:=h
 refine⟨_,(zj (zX (zbw (show PT _ _ (zbL K _)from zaj (zA (zkc T) (hr.mono (by decide)) rfl T.d_are_lays.m T.d_are_lays.F.kp T.d_are_lays.b .nil (zG zF) (ze (pv 0) (ze (pv 2) zh))) (fun _=>rfl)))
 (zm (zH za2))
 zT)
 (zm (zH (zcO (show OpR _ (compareOp .Eq) (zaN K)from zaF hr.units) (zA (zi0 T) (hr.mono (by decide)) rfl T.d_next_lays.m T.d_next_lays.F.kp T.d_next_lays.b .nil (zG zF) (ze (pv 0) (ze (pv 1) (ze (pv 2) zh)))) (zaR (show CallR _ _ (zaT K)from zaI) rfl T.z_list BT.list (ze (pv 2) zh)) (nomark _))))),?_⟩
 refine zN (σ0:=[some (.ref a),some (.ref u),some (.ref y)]) rfl ?_
 walk_at "x"
 refine zj5 hSh hy hq hd hl h9 hs ?_ ?_
 ·intro H1 e1 hin
  have dp:=hg hin
  have hu1:=e1.at hu
  have hy1:=e1.at hy
  have hq1:=hq.same e1
  have hSh1:=hSh.same e1
  walk_at "x"
  rename_i nx H2 us fnx e2 hnx hus li H3 fli e3 hli
  refine zpf (e3.at hnx) hli (hus.same e3) (hq1.same (e2.trans e3)) ?_
  by_cases z:(List.range ps.length).map (zbd ds ps qs)=qs
  ·rw[decide_eq_true z]
   exact k _ (e1.trans (e2.trans e3)) ⟨hin,z⟩
  ·rw[decide_eq_false z]
   exact k' _ (e1.trans (e2.trans e3)) fun h=>z h.2
 ·intro H1 e1 hin
  walk_at "x"
  exact k' _ e1 fun h=>hin h.1
theorem zdK(T:Txt K mg):FnOk P w K mg base (CXF P w) 1 T.d__law_whole.a T.d__law_whole.fd ["_law_thing"] zks:=by
 refine T.d__law_whole.F.okN zif (fun vs H Q E h=>?_) (fun cdv A outer s H vs Q E hr h=>?_)
 ·obtain⟨x,rfl,_⟩:=h;rfl
 obtain⟨i,rfl,q⟩:=h
 refine⟨_,(zm (zH (zm8 (zR (show CallR _ _ (zcU K)from zc2) rfl T.z_isinstance BT.isinstance (ze (pv 0) (ze (zdR (v:=.ty "int") rfl T.z_int BT.int rfl) zh))) (zm7 (show PE _ _ (zgW K _)from zhA (zR (show CallR _ _ (zcU K)from zc2) rfl T.z_isinstance BT.isinstance (ze (pv 0) (ze (zdR (v:=.ty "bool") rfl T.z_bool BT.bool rfl) zh)))))))),?_⟩
 refine zN (σ0:=[some (.int i)]) rfl ?_
 walk_at "x"
 exact q
theorem zil(T:Txt K mg):FnOk P w K mg base (CXF P w) 2 T.d__law_leads.a T.d__law_leads.fd ["_law_sheet_here", "_law_stand_here", "_law_first", "_law_road"] (zky K):=by
 refine T.d__law_leads.F.okN sc__law_leads (fun vs H Q E h=>?_) (fun cdv A outer s H vs Q E hr h=>?_)
 ·obtain⟨a,b,r,m,ds,n,ρ,on,arr,τ,rd,rfl,_⟩:=h;rfl
 obtain⟨a,b,r,m,ds,n,ρ,on,arr,τ,rd,rfl,⟨xs,hS,hT⟩,hb,hr',n9,hm,hd,hl,A,all,R,r9,k⟩:=h
 have hxl:=hT.length
 refine⟨_,(zj (zX (zbw (show PT _ _ (zbL K _)from zaj (zR (show CallR _ _ (zcU K)from zc2) rfl T.z_isinstance BT.isinstance (ze (pv 3) (ze (zdR (v:=.ty "list") rfl T.z_list BT.list rfl) zh))) (fun _=>rfl)))
 (zm (zH za2))
 zT)
 (zj (zE (i:=4) sc__law_leads.nd rfl (Or.inl rfl) (pv 2))
 (zj (zE (i:=5) sc__law_leads.nd rfl (Or.inl rfl) (zbk zh))
 (zj (zau PassesOwn.never rfl (show PI _ _ _ (zaG K _)from zai (pv 3)) (zU (i:=6) sc__law_leads.nd rfl (Or.inl rfl))
 (zj (zX (PW.pt (zcT (zbw (show PT _ _ (zbL K _)from zaj (zA (zdK T) (hr.mono (by decide)) rfl T.d__law_whole.m T.d__law_whole.F.kp T.d__law_whole.b .nil (zG zF) (ze (pv 6) zh)) (fun _=>rfl))) (zdG (zbw (znL zrq zcy zi (pv 6) (zR (show CallR _ _ (zaO K)from zW) rfl T.z_len BT.len (ze (pv 0) zh)))))))
 (zm (zH za2))
 zT)
 (zj (zE (i:=7) sc__law_leads.nd rfl (Or.inl rfl) (zB (show IxR _ (rIx K)from zy) (pv 0) (pv 6) (fun _ _=>rfl)))
 (zj (zX (PW.pt (zcT (zK (show OpR _ (compareOp .NotEq) (zcx K)from zcF hr.units) (zB (show IxR _ (rIx K)from zy) (pv 7) zi (fun _ _=>rfl)) (pv 4) (nomark _)) (zcT (zK (show OpR _ (compareOp .In) (rIn K false)from zhZ) (pv 4) (pv 5) (by with_unfolding_all rfl)) (zcT (zK (show OpR _ (compareOp .Eq) (zaN K)from zaF hr.units) (zB (show IxR _ (rIx K)from zy) (pv 7) zi (fun _ _=>rfl)) zi (nomark _)) (zdG (zK (show OpR _ (compareOp .NotEq) (zcx K)from zcF hr.units) (zB (show IxR _ (rIx K)from zy) (pv 7) zi (fun _ _=>rfl)) (zB (show IxR _ (rIx K)from zy) (pv 1) (pv 4) (fun _ _=>rfl)) (nomark _)))))))
 (zm (zH za2))
 zT)
 (zj (zb3 (show PE _ _ (tBM K _ _ _ _)from zc7 yT yY yZ zbj (pv 5) (ze (pv 4) zh)))
 (zm (zE (i:=4) sc__law_leads.nd rfl (Or.inl rfl) (zB (show IxR _ (rIx K)from zy) (pv 7) zi (fun _ _=>rfl)))))))))
 (zm (zH (zcO zff (zB (show IxR _ (rIx K)from zy) (pv 1) (pv 4) (fun _ _=>rfl)) zcn (nomark _)))))))),?_⟩
 refine zN (σ0:=[some (.ref a),some (.ref b),some (.int (m:Int)),some (.ref r),none,none,none,none]) rfl ?_
 walk_at "x"
 rename_i ca H1 fca e1 hca
 refine zco (xs:=zax rd) (fun j σ' H'=>∃(h:Nat) (cm:List Nat) (f6 f7:Option V),σ'=[some (.ref a),some (.ref b),some (.int (m:Int)),some (.ref r),some (.int (h:Int)),some (.ref ca),f6,f7]/\h<n/\H' ca=some (.lst (zax cm))/\Same H H'/\Road ds on h (rd.drop j)/\(∀x∈cm,τ h < τ x)/\cm.length<=j) ⟨m,[],_,_,rfl,hm,hca,e1,R,(fun _ h=>nomatch h),yg _⟩ ?_ ?_ ?_
 ·rintro j σ' H' _ ⟨_,_,_,_,_,_,_,e,_⟩;exact SqL.of (e.at hr')
 ·rintro j y σ' H2 hy ⟨h,cm,f6,f7,rfl,hh,hca2,e2,R2,hcm,hcl⟩
  have hj:j<rd.length:=by have:=(yk.mp hy).1;rwa [zac]at this
  rw[zb9 hj]at hy
  cases hy
  have hrj:rd[j]?=some (rd.getD j 0):=by rw[ye,yj hj];rfl
  obtain⟨hon,d,hdi,R3⟩:=R2.step hrj
  generalize rd.getD j 0=i at *
  obtain⟨d',L,a1,a2,a3⟩:=A.A.some h i hh hon
  have ed:d'=d:=by have:=L.1;rw[hdi]at this;exact(yn this).symm
  subst ed
  obtain⟨bd,hbi,hbd⟩:=(hT.same e2).getI hdi
  have hbd':H2 bd=some (.tup [.int d'.p,.int d'.q,.int d'.r,.int d'.a]):=hbd
  have hil:i<ds.length:=(yk.mp hdi).1
  have hati:atI xs (i:Int)=some (.ref bd):=zak hbi
  have hsq:SqL K H2 a xs:=hS.keep e2
  obtain⟨p0,p1,q0,q1,pq,r0,r1,a0,_⟩:=hd d' (ya hdi)
  have hb2:=e2.at hb
  have hat2:atI (z9 n ρ) (h:Int)=some (zbb (ρ h)):=zak (za3 hh)
  have hnin:(h:Int)∉ziC cm:=fun z=>by
   have:=hcm h (intsN_mem.mp z)
   omega
  have hLp:=L.2.1
  have hLa:=L.2.2.1
  have hn1:=zac (l:=cm)
  walk_at "x"
  all_goals first | (exfalso;omega) | skip
  refine zpt L.2.2.2 r0 ?_
  walk_at "x"
  rename_i H3 b3 h3
  refine⟨d'.q.toNat,cm++[h],_,_,by rw[<- show d'.q=((d'.q.toNat:Nat):Int) by omega],by omega,by rw[zdA];exact h3,b3.same e2 fca,R3,fun x hx=>?_,by rw[yb];simp only[y8];omega⟩
  rcases yR.mp hx with g | g
  ·exact Nat.lt_trans a3 (hcm x g)
  ·rw[yw.mp g];exact a3
 ·rintro σ' H2 ⟨h,cm,f6,f7,rfl,hh,hca2,e2,R2,hcm,hcl⟩
  rw[zac,List.drop_length]at R2
  have hon:on h=none:=by cases R2 with | nil h=>exact h
  have hρ:ρ h=none:=by
   rcases A.A.here h hh (all h hh)with g | ⟨i,g⟩
   ·exact g
   ·rw[hon]at g;cases g
  have hb2:=e2.at hb
  have hat2:atI (z9 n ρ) (h:Int)=some .non:=by
   have:=zak (za3 (w:=ρ) hh)
   rw[hρ]at this;exact this
  walk_at "x"
  show Q (.bl (decide (V.non=V.non))) H2
  rw[decide_eq_true rfl]
  exact k H2 e2
theorem zfT(T:Txt K mg):FnOk P w K mg base (CXF P w) 1 T.d__law_all_reach.a T.d__law_all_reach.fd ["_law_sheet_here", "_law_stand_here"] (zgV K):=by
 refine T.d__law_all_reach.F.okN sc__law_all_reach (fun vs H Q E h=>?_) (fun cdv A outer s H vs Q E hr h=>?_)
 ·obtain⟨a,b,ds,n,l,rfl,_⟩:=h;rfl
 obtain⟨a,b,ds,n,l,rfl,⟨xs,hS,hT⟩,hb,n9,hd,hl,hc,k⟩:=h
 have hol:(z9 n (stp ds l)).length=n:=zbs
 have hxl:=hT.length
 refine⟨_,(zj (zbf (i:=2) sc__law_all_reach.nd rfl rfl rfl (show PI _ _ _ (zaG K _)from zai (pv 1)) (zP (Ni:=["_law_one"]) (caps:=[none]) (by rfl)) (fun S _ _ _ _ _=>(zS (gi:=0) S (Or.inl rfl) rfl)) (fun _ _ _ _ _=>zal) (fun _ _ _ _ _=>(zcO zff (pv 0) zcn (nomark _))))
 (zj (zau PassesOwn.never rfl (zaS rfl T.z_range (ze (zR (show CallR _ _ (zaO K)from zW) rfl T.z_len BT.len (ze (pv 1) zh)) zh)) (zU (i:=3) sc__law_all_reach.nd rfl (Or.inl rfl))
 (zm (zau PassesOwn.never rfl (show PI _ _ _ (zaG K _)from zai (pv 0)) (zU (i:=4) sc__law_all_reach.nd rfl (Or.inl rfl))
 (zm (zX (PW.pt (zb5 (zK zcR (zB (show IxR _ (rIx K)from zy) (pv 4) zi (fun _ _=>rfl)) zi (nomark _)) (zb5 (zK (show OpR _ (compareOp .Eq) (zaN K)from zaF hr.units) (zB (show IxR _ (rIx K)from zy) (pv 1) (zB (show IxR _ (rIx K)from zy) (pv 4) zi (fun _ _=>rfl)) (fun _ _=>rfl)) (zB (show IxR _ (rIx K)from zy) (pv 4) zi (fun _ _=>rfl)) (nomark _)) (zcq (show PT _ _ (zbL K _)from zaj (zB (show IxR _ (rIx K)from zy) (pv 2) (zB (show IxR _ (rIx K)from zy) (pv 4) zi (fun _ _=>rfl)) (fun _ _=>rfl)) (fun _=>rfl))))))
 (zm (zcH za2 (zcE (pv 2) (zB (show IxR _ (rIx K)from zy) (pv 4) zi (fun _ _=>rfl)) za6)))
 zT)))))
 (zm (zH (zcO (show OpR _ (compareOp .NotIn) (rIn K true)from zfc) za2 (pv 2) (by with_unfolding_all rfl)))))),?_⟩
 refine zN (σ0:=[some (.ref a),some (.ref b),none,none,none]) rfl ?_
 walk_at "x"
 refine zam (zaP (K:=K) (a:=b) (xs:=z9 n (stp ds l))) (fun H' e=>SqL.of (e.at hb)) rfl (fun i vs _=>vs=blL i fun m=>(stp ds l m).isNone) (fun H' _=>rfl) ?_ ?_
 ·rintro i x D vs o H2 H3 hi hD e2 hv hvl rfl e3 hx
  rw[hol]at hi
  rw[za3 hi]at hx
  cases hx
  walk_at "x"
  rename_i H4 b4 h4
  rw[zgg]at h4
  refine⟨⟨_,rfl⟩,by walk_at "h",_,h4,by rw[yb];exact yp hvl,?_⟩
  dsimp only
  rw[zex]
 rintro ar H2 vs far e2 har hvl rfl
 rw[hol]at har
 have hb2:=e2.at hb
 walk_at "x"
 rw[show((z9 n (stp ds l)).length:Int).toNat=n by rw[hol];exact yx n]
 refine zdC (n:=n) (fun t σ' H'=>∃(arr:Nat->Bool) (f3 f4:Option V),σ'=[some (.ref a),some (.ref b),some (.ref ar),f3,f4]/\H' ar=some (.lst (blL n arr))/\(∀m,m<n->stp ds l m=none->arr m=true)/\(t<=zda arr n\/∀m,m<n->arr m=true)/\Same H H') ⟨_,_,_,rfl,har,(fun m _ h=>by show(stp ds l m).isNone=true;rw[h];rfl),.inl (yF _),e2⟩ ?_ ?_
 ·rintro t σ' H3 hi ⟨arr,f3,f4,rfl,har3,hz,hcnt,e3⟩
  walk_at "x"
  refine zco (xs:=xs) (fun i σ' H'=>∃(arr':Nat->Bool) (f4:Option V),σ'=[some (.ref a),some (.ref b),some (.ref ar),some (.int ((0:Int)+(t:Int))),f4]/\H' ar=some (.lst (blL n arr'))/\Pass ds (stp ds l) arr arr' i/\Same H H') ⟨arr,_,rfl,har3,Pass.start,e3⟩ ?_ ?_ ?_
  ·rintro i σ' H' _ ⟨_,_,_,_,_,e⟩;exact hS.keep e
  ·rintro i x σ' H4 hx ⟨arr',g4,rfl,har4,PP,e4⟩
   obtain⟨bd,d,rfl,hdi,hbd⟩:=(hT.same e4).get hx
   have hbd':H4 bd=some (.tup [.int d.p,.int d.q,.int d.r,.int d.a]):=hbd
   have hdk:=hd d (ya hdi)
   obtain⟨p0,p1,q0,q1,pq,r0,r1,a0,a1⟩:=hdk
   have hpn:d.p.toNat<n:=by omega
   have hqn:d.q.toNat<n:=by omega
   have epn:d.p=((d.p.toNat:Nat):Int):=by omega
   have hb4:=e4.at hb
   have at1:atI (z9 n (stp ds l)) d.p=some (zbb (stp ds l d.p.toNat)):=zaB p0 (za3 hpn)
   have at3:atI (blL n arr') d.q=some (.bl (arr' d.q.toNat)):=zaB q0 (zeu hqn)
   have hbl':(blL n arr').length=n:=zev
   have off:(∀m:Nat,d.p=(m:Int)->0<d.a->stp ds l m=some d.r.toNat->arr' d.q.toNat=true->arr' m=true)->∃(arr':Nat->Bool) (f4:Option V),[some (V.ref a),some (V.ref b),some (V.ref ar),some (V.int ((0:Int)+(t:Int))),some (V.ref bd)]=[some (.ref a),some (.ref b),some (.ref ar),some (.int ((0:Int)+(t:Int))),f4]/\H4 ar=some (.lst (blL n arr'))/\Pass ds (stp ds l) arr arr' (i+1)/\Same H H4:=fun h=>⟨arr',_,rfl,har4,PP.off hdi h,e4⟩
   walk_at "x"
   ·rename_i ha
    refine znC r0 ?_
    walk_at "x"
    ·rename_i hst hq
     refine zcC (j:=d.p.toNat) har4 (zcD p0 (by omega)) ?_
     intro H7 b7 h7
     rw[zkG]at h7
     walk_at "x"
     exact⟨_,_,rfl,h7,PP.came hdi epn,b7.same e4 far⟩
    ·rename_i hst hq
     exact off fun m _ _ _ h=>by rw[hq]at h;cases h
    ·rename_i hst
     refine off fun m hm _ h _=>absurd ?_ hst
     rw[<- show m=d.p.toNat by omega];exact h
   ·rename_i ha
    exact off fun m _ h=>absurd h ha
  ·rintro σ' H4 ⟨arr',g4,rfl,har4,PP,e4⟩
   rw[hxl]at PP
   walk_at "x"
   refine⟨arr',_,_,rfl,har4,fun m hm h=>PP.up m (hz m hm h),?_,e4⟩
   rcases hcnt with h | h
   ·rcases zh1 hd hc hz PP with g | g
    ·exact .inr fun m hm=>PP.up m (g m hm)
    ·exact .inl (by omega)
   ·exact .inr fun m hm=>PP.up m (h m hm)
 ·rintro σ' H3 ⟨arr,f3,f4,rfl,har3,hz,hcnt,e3⟩
  walk_at "x"
  refine zog har3 ?_ ?_
  ·rcases hcnt with h | h
   ·exact zi5 h
   ·exact h
  exact k H3 e3
theorem zfm(T:Txt K mg):FnOk P w K mg base (CXF P w) 1 T.d__law_cell.a T.d__law_cell.fd ["_law_script", "_law_k"] (zjK K):=by
 refine T.d__law_cell.F.okN zjP (fun vs H Q E h=>?_) (fun cdv A outer s H vs Q E hr h=>?_)
 ·obtain⟨a,ns,k,rfl,_⟩:=h;rfl
 obtain⟨a,ns,k,rfl,hS,h0,q⟩:=h
 refine⟨_,(zj (zX (zK zcy (pv 1) (zR (show CallR _ _ (zaO K)from zW) rfl T.z_len BT.len (ze (pv 0) zh)) (nomark _))
 (zm (zH (zB (show IxR _ (rIx K)from zy) (pv 0) (pv 1) (fun _ _=>rfl))))
 zT)
 (zm (zH zi))),?_⟩
 refine zN (σ0:=[some (.ref a),some (.int k)]) rfl ?_
 walk_at "x"
 ·rename_i h
  exact zlB hS (zpP h0 h) q
 ·rename_i h
  rw[znH h]at q
  exact q
theorem zaf(T:Txt K mg):FnOk P w K mg base (CXF P w) 2 T.d__law_draw.a T.d__law_draw.fd ["_law_script", "_law_k", "_law_prime", "_law_many_here"] (zg0 K):=by
 refine T.d__law_draw.F.okN ziT (fun vs H Q E h=>?_) (fun cdv A outer s H vs Q E hr h=>?_)
 ·obtain⟨a,ns,k,p,m,rfl,_⟩:=h;rfl
 obtain⟨a,ns,k,p,m,rfl,hS,hz,h0,h1,hp,hm,q⟩:=h
 have hk:=zkR h0 h1
 have hk':=ybi h0 h0
 have hc:=hz.cell k
 refine⟨_,(zm (zH (zJ zcM (zJ zcM (zJ (show OpR _ (binaryOp .Add) (zaE K)from zah) (zJ (show OpR _ (binaryOp .Add) (zaE K)from zah) (zJ zZ (zA (zfm T) (hr.mono (by decide)) rfl T.d__law_cell.m T.d__law_cell.F.kp T.d__law_cell.b .nil (zG zF) (ze (pv 0) (ze (pv 1) zh))) zi) (zJ zZ (zJ zZ zi (pv 1)) (pv 1))) zi) (pv 2)) (pv 3)))),?_⟩
 refine zN (σ0:=[some (.ref a),some (.int k),some (.int p),some (.int m)]) rfl ?_
 walk_at "x"
 exact q _ rfl (ybe _ (by omega)) (yaV _ (by omega))
theorem zdJ(T:Txt K mg):FnOk P w K mg base (CXF P w) 2 T.d__law_great.a T.d__law_great.fd ["_law_script", "_law_k", "_law_most_here"] (zgb K):=by
 refine T.d__law_great.F.okN sc__law_great (fun vs H Q E h=>?_) (fun cdv A outer s H vs Q E hr h=>?_)
 ·obtain⟨a,ns,k,m,rfl,_⟩:=h;rfl
 obtain⟨a,ns,k,m,rfl,hS,hz,h0,h1,hm,q⟩:=h
 have hk:=zkR h0 h1
 have hk':=ybi h0 h0
 have hc:=hz.cell k
 have hx:=zqB hc h0 h1
 have hB:sz 28269553036454149224292902704178252817674109380037990394614044720680140801<=244:=zas (by decide)
 refine⟨_,(zj (zE (i:=3) sc__law_great.nd rfl (Or.inl rfl) (zJ (show OpR _ (binaryOp .Add) (zaE K)from zah) (zJ (show OpR _ (binaryOp .Add) (zaE K)from zah) (zJ zZ (zA (zfm T) (hr.mono (by decide)) rfl T.d__law_cell.m T.d__law_cell.F.kp T.d__law_cell.b .nil (zG zF) (ze (pv 0) (ze (pv 1) zh))) zi) (zJ zZ (zJ zZ zi (pv 1)) (pv 1))) zi))
 (zm (zH (zJ zcM (zJ zZ (pv 3) (zJ zlM zi zi)) (zJ (show OpR _ (binaryOp .Add) (zaE K)from zah) (pv 2) zi))))),?_⟩
 refine zN (σ0:=[some (.ref a),some (.int k),some (.int m),none]) rfl ?_
 walk_at "x"
 have h2:=ybe ((cell ns k*48271+7919*k*k+11)*28269553036454149224292902704178252817674109380037990394614044720680140801) (show m+1≠0 by omega)
 have h3:=yaV ((cell ns k*48271+7919*k*k+11)*28269553036454149224292902704178252817674109380037990394614044720680140801) (show 0<m+1 by omega)
 exact q _ h2 (by omega)
theorem zjl(T:Txt K mg):FnOk P w K mg base (CXF P w) 3 T.d__law_many.a T.d__law_many.fd ["_law_script"] (zhq K):=by
 refine T.d__law_many.F.okN sc__law_many (fun vs H Q E h=>?_) (fun cdv A outer s H vs Q E hr h=>?_)
 ·obtain⟨a,ns,rfl,_⟩:=h;rfl
 obtain⟨a,ns,rfl,hS,hz,q⟩:=h
 refine⟨_,(zj (zE (i:=1) sc__law_many.nd rfl (Or.inl rfl) (zA (zaf T) (hr.mono (by decide)) rfl T.d__law_draw.m T.d__law_draw.F.kp T.d__law_draw.b .nil (zG zF) (ze (pv 0) (ze zi (ze zi (ze zi zh))))))
 (zj (zX (zK (show OpR _ (compareOp .Eq) (zaN K)from zaF hr.units) (pv 1) zi (nomark _))
 (zm (zH zi))
 zT)
 (zj (zX (zK (show OpR _ (compareOp .Eq) (zaN K)from zaF hr.units) (pv 1) zi (nomark _))
 (zm (zH zi))
 zT)
 (zm (zH (zJ (show OpR _ (binaryOp .Add) (zaE K)from zah) zi (zJ zcM (zJ (show OpR _ (binaryOp .Add) (zaE K)from zah) (pv 1) (zA (zaf T) (hr.mono (by decide)) rfl T.d__law_draw.m T.d__law_draw.F.kp T.d__law_draw.b .nil (zG zF) (ze (pv 0) (ze zi (ze zi (ze zi zh)))))) zi))))))),?_⟩
 refine zN (σ0:=[some (.ref a),none]) rfl ?_
 walk_at "x"
 all_goals exact q _ (by omega) (by omega)
theorem zik(T:Txt K mg):FnOk P w K mg base (CXF P w) 3 T.d__law_count.a T.d__law_count.fd ["_law_script", "_law_many_here"] (zga K):=by
 refine T.d__law_count.F.okN sc__law_count (fun vs H Q E h=>?_) (fun cdv A outer s H vs Q E hr h=>?_)
 ·obtain⟨a,ns,n,rfl,_⟩:=h;rfl
 obtain⟨a,ns,n,rfl,hS,hz,n0,n1,q⟩:=h
 have hn9:0<=n/9/\n/9<=1:=by omega
 have hp9:0<1+n/9:=by omega
 have hs9:sz (1+n/9)<=9000:=yc (sz200 (by omega) (by omega)) (by decide)
 refine⟨_,(zj (zE (i:=2) sc__law_count.nd rfl (Or.inl rfl) (zA (zaf T) (hr.mono (by decide)) rfl T.d__law_draw.m T.d__law_draw.F.kp T.d__law_draw.b .nil (zG zF) (ze (pv 0) (ze zi (ze zi (ze zi zh))))))
 (zj (zX (zK (show OpR _ (compareOp .Eq) (zaN K)from zaF hr.units) (pv 1) zi (nomark _))
 (zm (zH zi))
 zT)
 (zj (zX (zK (show OpR _ (compareOp .Eq) (zaN K)from zaF hr.units) (pv 2) zi (nomark _))
 (zm (zH (zJ za9 (zA (zaf T) (hr.mono (by decide)) rfl T.d__law_draw.m T.d__law_draw.F.kp T.d__law_draw.b .nil (zG zF) (ze (pv 0) (ze zi (ze zi (ze zi zh))))) (zJ (show OpR _ (binaryOp .Add) (zaE K)from zah) zi (zJ za9 (pv 1) zi)))))
 zT)
 (zj (zX (zK zcy (pv 2) zi (nomark _))
 (zm (zH (zA (zaf T) (hr.mono (by decide)) rfl T.d__law_draw.m T.d__law_draw.F.kp T.d__law_draw.b .nil (zG zF) (ze (pv 0) (ze zi (ze zi (ze zi zh)))))))
 zT)
 (zm (zH (zA (zaf T) (hr.mono (by decide)) rfl T.d__law_draw.m T.d__law_draw.F.kp T.d__law_draw.b .nil (zG zF) (ze (pv 0) (ze zi (ze zi (ze zi zh))))))))))),?_⟩
 refine zN (σ0:=[some (.ref a),some (.int n),none]) rfl ?_
 walk_at "x"
 all_goals first | exact q _ (by omega) (by omega) (fun _=>by omega) | skip
 all_goals
  rename_i y0 y1 y2
  have h4:=Int.ediv_nonneg y1 (yay hp9)
  have h5:_/(1+n/9)<=_:=Int.ediv_le_self (1+n/9) y1
  exact q _ h4 (by omega) (fun _=>by omega)
theorem zjM(T:Txt K mg):FnOk P w K mg base (CXF P w) 3 T.d__law_most.a T.d__law_most.fd ["_law_script", "_law_many_here", "_law_count_here"] (zht K):=by
 refine T.d__law_most.F.okN zi6 (fun vs H Q E h=>?_) (fun cdv A outer s H vs Q E hr h=>?_)
 ·obtain⟨a,ns,n,c,rfl,_⟩:=h;rfl
 obtain⟨a,ns,n,c,rfl,hS,hz,q⟩:=h
 refine⟨_,(zj (zX (PW.pt (zb5 (PW.pt (zcT (zK zcy (pv 2) zi (nomark _)) (zdG (PW.pt (zb5 (zK zcy (pv 1) zi (nomark _)) (zcq (zK zcy (pv 2) zi (nomark _)))))))) (zcq (zK (show OpR _ (compareOp .Eq) (zaN K)from zaF hr.units) (zA (zaf T) (hr.mono (by decide)) rfl T.d__law_draw.m T.d__law_draw.F.kp T.d__law_draw.b .nil (zG zF) (ze (pv 0) (ze zi (ze zi (ze zi zh))))) zi (nomark _)))))
 (zm (zH (zJ zlM zi zi)))
 zT)
 (zm (zH zi))),?_⟩
 refine zN (σ0:=[some (.ref a),some (.int n),some (.int c)]) rfl ?_
 walk_at "x"
 all_goals exact q _ (by omega) (by omega) (by omega)
theorem zhz(T:Txt K mg):FnOk P w K mg base (CXF P w) 3 T.d__law_amount.a T.d__law_amount.fd ["_law_script", "_law_k", "_law_most_here"] (ze4 K):=by
 refine T.d__law_amount.F.okN sc__law_amount (fun vs H Q E h=>?_) (fun cdv A outer s H vs Q E hr h=>?_)
 ·obtain⟨a,ns,k,m,rfl,_⟩:=h;rfl
 obtain⟨a,ns,k,m,rfl,hS,hz,h0,h1,m0,m1,q⟩:=h
 refine⟨_,(zj (zE (i:=3) sc__law_amount.nd rfl (Or.inl rfl) (zA (zaf T) (hr.mono (by decide)) rfl T.d__law_draw.m T.d__law_draw.F.kp T.d__law_draw.b .nil (zG zF) (ze (pv 0) (ze (pv 1) (ze zi (ze zi zh))))))
 (zj (zX (PW.pt (zb5 (zK zcR (pv 2) zi (nomark _)) (zcq (zK zcR (pv 3) zi (nomark _)))))
 (zm (zH (zA (zdJ T) (hr.mono (by decide)) rfl T.d__law_great.m T.d__law_great.F.kp T.d__law_great.b .nil (zG zF) (ze (pv 0) (ze (pv 1) (ze (pv 2) zh))))))
 zT)
 (zj (zX (zK (show OpR _ (compareOp .Eq) (zaN K)from zaF hr.units) (pv 3) zi (nomark _))
 (zm (zH zi))
 zT)
 (zj (zX (zK zcy (pv 3) zi (nomark _))
 (zm (zH zi))
 zT)
 (zm (zH (zJ (show OpR _ (binaryOp .Add) (zaE K)from zah) zi (zA (zaf T) (hr.mono (by decide)) rfl T.d__law_draw.m T.d__law_draw.F.kp T.d__law_draw.b .nil (zG zF) (ze (pv 0) (ze (pv 1) (ze zi (ze zi zh)))))))))))),?_⟩
 refine zN (σ0:=[some (.ref a),some (.int k),some (.int m),none]) rfl ?_
 walk_at "x"
 all_goals exact q _ (by omega) (by omega) (by omega)
theorem zj3(T:Txt K mg):FnOk P w K mg base (CXF P w) 4 T.d__law_due.a T.d__law_due.fd ["_law_script", "_law_k", "_law_many_here", "_law_most_here"] (zjs K):=by
 refine T.d__law_due.F.okN sc__law_due (fun vs H Q E h=>?_) (fun cdv A outer s H vs Q E hr h=>?_)
 ·obtain⟨a,ns,k,n,m,rfl,_⟩:=h;rfl
 obtain⟨a,ns,k,n,m,rfl,hS,hz,h0,h1,n0,n1,m0,m1,q⟩:=h
 refine⟨_,(zj (zE (i:=4) sc__law_due.nd rfl (Or.inl rfl) (zA (zaf T) (hr.mono (by decide)) rfl T.d__law_draw.m T.d__law_draw.F.kp T.d__law_draw.b .nil (zG zF) (ze (pv 0) (ze zi (ze zi (ze zi zh))))))
 (zj (zE (i:=5) sc__law_due.nd rfl (Or.inl rfl) (zA (zaf T) (hr.mono (by decide)) rfl T.d__law_draw.m T.d__law_draw.F.kp T.d__law_draw.b .nil (zG zF) (ze (pv 0) (ze (zJ (show OpR _ (binaryOp .Add) (zaE K)from zah) zi (pv 1)) (ze zi (ze (pv 2) zh))))))
 (zj (zE (i:=6) sc__law_due.nd rfl (Or.inl rfl) (zJ zcM (zJ (show OpR _ (binaryOp .Add) (zaE K)from zah) (zJ (show OpR _ (binaryOp .Add) (zaE K)from zah) (pv 5) zi) (zA (zaf T) (hr.mono (by decide)) rfl T.d__law_draw.m T.d__law_draw.F.kp T.d__law_draw.b .nil (zG zF) (ze (pv 0) (ze (zJ (show OpR _ (binaryOp .Add) (zaE K)from zah) zi (pv 1)) (ze zi (ze (zJ zjx (pv 2) zi) zh)))))) (pv 2)))
 (zj (zE (i:=7) sc__law_due.nd rfl (Or.inl rfl) (zA (zaf T) (hr.mono (by decide)) rfl T.d__law_draw.m T.d__law_draw.F.kp T.d__law_draw.b .nil (zG zF) (ze (pv 0) (ze (zJ (show OpR _ (binaryOp .Add) (zaE K)from zah) zi (pv 1)) (ze zi (ze zi zh))))))
 (zfD (zX (zK (show OpR _ (compareOp .Eq) (zaN K)from zaF hr.units) (pv 4) zi (nomark _))
 (zm (zE (i:=7) sc__law_due.nd rfl (Or.inl rfl) zi))
 zT)
 (zfD (zX (zK (show OpR _ (compareOp .Eq) (zaN K)from zaF hr.units) (pv 4) zi (nomark _))
 (zm (zE (i:=7) sc__law_due.nd rfl (Or.inl rfl) (zJ (show OpR _ (binaryOp .Add) (zaE K)from zah) zi (zJ zcM (pv 7) zi))))
 zT)
 (zfD (zX (PW.pt (zb5 (zK (show OpR _ (compareOp .In) (rIn K false)from zhZ) (pv 4) (zad (ze zi (ze zi zh))) (by with_unfolding_all rfl)) (zcq (zK zcy (pv 1) (pv 2) (nomark _)))))
 (zj (zE (i:=5) sc__law_due.nd rfl (Or.inl rfl) (pv 1))
 (zj (zE (i:=6) sc__law_due.nd rfl (Or.inl rfl) (zJ zcM (zJ (show OpR _ (binaryOp .Add) (zaE K)from zah) (pv 1) zi) (pv 2)))
 (zm (zE (i:=7) sc__law_due.nd rfl (Or.inl rfl) zi))))
 zT)
 (zm (zH (zad (ze (pv 5) (ze (pv 6) (ze (pv 7) (ze (zA (zhz T) (hr.mono (by decide)) rfl T.d__law_amount.m T.d__law_amount.F.kp T.d__law_amount.b .nil (zG zF) (ze (pv 0) (ze (zJ (show OpR _ (binaryOp .Add) (zaE K)from zah) zi (pv 1)) (ze (pv 3) zh)))) zh)))))))))))))),?_⟩
 refine zN (σ0:=[some (.ref a),some (.int k),some (.int n),some (.int m),none,none,none,none]) rfl ?_
 walk_at "x"
 rename_i sh _ s0 s1 pa _ p0 p1 pe _ e0 e1 rk _ r0 r1
 have hpe:=zjk p0 p1 e0 e1
 refine ziH 7 (fun v H'=>∃r:Int,v=.int r/\0<=r/\r<3/\H=H') ?_ ?_
 ·walk_at "x"
  all_goals exact⟨_,rfl,_,rfl,by omega,by omega,rfl⟩
 rintro v _ ⟨r2,rfl,r20,r21,rfl⟩
 refine ziH 7 (fun v H'=>∃r:Int,v=.int r/\0<=r/\r<3/\H=H') ?_ ?_
 ·walk_at "x"
  all_goals exact⟨_,rfl,_,rfl,by omega,by omega,rfl⟩
 rintro v _ ⟨r3,rfl,r30,r31,rfl⟩
 refine zrA (fun σ' H'=>∃(p' q' r':Int),σ'=[some (.ref a),some (.int k),some (.int n),some (.int m),some (.int sh),some (.int p'),some (.int q'),some (.int r')]/\(0<=p'/\p'<n/\0<=q'/\q'<n/\p'≠q'/\0<=r'/\r'<3)/\Same H H') ?_ ?_
 ·walk_at "x"
  refine zc3 (by first | decide | simp) fun tp H1 ftp e1 htp=>?_
  refine zqJ htp ?_
  walk_at "x"
  ·rename_i hin hlt
   have hk:=zjk (p:=k) (t:=0) (n:=n) h0 hlt (by omega) (by omega)
   rw[Int.add_zero]at hk
   exact⟨_,_,_,rfl,⟨h0,hlt,hk.1,hk.2.1,hk.2.2,by omega,by omega⟩,e1⟩
  all_goals exact⟨_,_,_,rfl,⟨p0,p1,hpe.1,hpe.2.1,hpe.2.2,r30,r31⟩,e1⟩
 rintro σ' H1 ⟨p',q',r',rfl,⟨u1,u2,u3,u4,u5,u6,u7⟩,e1⟩
 walk_at "x"
 rename_i x x0 x1 x2 t H2 ft e2 h2
 exact q t H2 ⟨p',q',r',x⟩ (Same.none ft e1) (e1.trans e2) h2 ⟨u1,u2,u3,u4,u5,u6,u7,x0,by show x<=_;omega⟩ x1 x2
theorem zio(T:Txt K mg):FnOk P w K mg base (CXF P w) 5 T.d__law_sheet.a T.d__law_sheet.fd ["_law_script", "_law_many_here", "_law_count_here", "_law_most_here"] (zgd K):=by
 refine T.d__law_sheet.F.okN zii (fun vs H Q E h=>?_) (fun cdv A outer s H vs Q E hr h=>?_)
 ·obtain⟨a,ns,n,c,m,rfl,_⟩:=h;rfl
 obtain⟨a,ns,n,c,m,rfl,hS,hz,n0,n1,c0,c1,nc,m0,m1,q⟩:=h
 refine⟨_,(zm (zH (za0 rfl (zaS rfl T.z_range (ze (pv 2) zh)) (zP (Ni:=["_law_k", "_law_script", "_law_many_here", "_law_most_here"]) (caps:=[none,some 0,some 1,some 3]) (by rfl)) (fun S _ _ _ _ _=>(zS (gi:=0) S (Or.inl rfl) rfl)) (fun _ _ _ _ _=>zal) (fun _ _ _ _ _=>(zA (zj3 T) (hr.mono (by decide)) rfl T.d__law_due.m T.d__law_due.F.kp T.d__law_due.b .nil (zG zF) (ze (pv 1) (ze (pv 0) (ze (pv 2) (ze (pv 3) zh))))))))),?_⟩
 refine zN (σ0:=[some (.ref a),some (.int n),some (.int c),some (.int m)]) rfl ?_
 walk_at "x"
 refine zam zcA (fun _ _=>trivial) rfl (fun i vs H'=>∃ds,IsTs zg2 H' vs ds/\ds.length=i/\∀d∈ds,(zM n d/\d.a<=1000000000000)/\(m=0->d.a<=12)) (fun H' _=>⟨[],trivial,rfl,fun _ h=>nomatch h⟩) ?_ ?_
 ·rintro i x D vs o H3 H4 hi hD e3 hv hvl ⟨ds,hds,hdl,hdd⟩ e4 rfl
  have hn2:2<=n:=by
   rcases ya6 n 2 with h | h
   ·have:=nc (by omega);omega
   ·exact h
  walk_at "x"
  rename_i t H5 d ft e5 h5 hd ha hg H6 b6 h6
  refine⟨⟨_,rfl⟩,by walk_at "h",_,h6,by rw[yb];exact yp hvl,ds++[d],IsTs.app (f:=zg2) (b6.tup h5) (by walk_at "h"),by rw[yb,hdl];rfl,fun y hy=>?_⟩
  rcases yR.mp hy with h | h
  ·exact hdd y h
  ·rw[yw.mp h];exact⟨⟨hd,ha⟩,hg⟩
 ·rintro D H3 vs hD e3 hv hvl ⟨ds,hds,hdl,hdd⟩
  exact q _ _ _ _ hD e3 hv hds (fun d h=>(hdd d h).1) hdl fun hm d h=>(hdd d h).2 hm
theorem zir(T:Txt K mg):FnOk P w K mg base (CXF P w) 3 T.d__law_purse.a T.d__law_purse.fd ["_law_script", "_law_k", "_law_way", "_law_most_here"] (zgp K):=by
 refine T.d__law_purse.F.okN sc__law_purse (fun vs H Q E h=>?_) (fun cdv A outer s H vs Q E hr h=>?_)
 ·obtain⟨a,ns,k,y,m,rfl,_⟩:=h;rfl
 obtain⟨a,ns,k,y,m,rfl,hS,hz,h0,h1,m0,m1,q⟩:=h
 refine⟨_,(zj (zE (i:=4) sc__law_purse.nd rfl (Or.inl rfl) (zA (zaf T) (hr.mono (by decide)) rfl T.d__law_draw.m T.d__law_draw.F.kp T.d__law_draw.b .nil (zG zF) (ze (pv 0) (ze (zJ (show OpR _ (binaryOp .Add) (zaE K)from zah) zi (pv 1)) (ze zi (ze zi zh))))))
 (zj (zX (PW.pt (zcT (zK (show OpR _ (compareOp .Eq) (zaN K)from zaF hr.units) (pv 2) zi (nomark _)) (zcT (PW.pt (zb5 (zK (show OpR _ (compareOp .Eq) (zaN K)from zaF hr.units) (pv 2) zi (nomark _)) (zcq (zK zcR (pv 4) zi (nomark _))))) (zdG (zK (show OpR _ (compareOp .Eq) (zaN K)from zaF hr.units) (pv 4) zi (nomark _))))))
 (zm (zH zi))
 zT)
 (zj (zX (PW.pt (zb5 (zK zcR (pv 3) zi (nomark _)) (zcq (zK (show OpR _ (compareOp .Eq) (zaN K)from zaF hr.units) (pv 4) zi (nomark _)))))
 (zm (zH (zA (zdJ T) (hr.mono (by decide)) rfl T.d__law_great.m T.d__law_great.F.kp T.d__law_great.b .nil (zG zF) (ze (pv 0) (ze (zJ (show OpR _ (binaryOp .Add) (zaE K)from zah) zi (pv 1)) (ze (pv 3) zh))))))
 zT)
 (zj (zX (PW.pt (zb5 (zK zcR (pv 3) zi (nomark _)) (zcq (zK (show OpR _ (compareOp .Eq) (zaN K)from zaF hr.units) (pv 4) zi (nomark _)))))
 (zm (zH (zA (zdJ T) (hr.mono (by decide)) rfl T.d__law_great.m T.d__law_great.F.kp T.d__law_great.b .nil (zG zF) (ze (pv 0) (ze (zJ (show OpR _ (binaryOp .Add) (zaE K)from zah) zi (pv 1)) (ze (zJ zZ zi (pv 3)) zh))))))
 zT)
 (zm (zH (zA (zaf T) (hr.mono (by decide)) rfl T.d__law_draw.m T.d__law_draw.F.kp T.d__law_draw.b .nil (zG zF) (ze (pv 0) (ze (zJ (show OpR _ (binaryOp .Add) (zaE K)from zah) zi (pv 1)) (ze zi (ze zi zh))))))))))),?_⟩
 refine zN (σ0:=[some (.ref a),some (.int k),some (.int y),some (.int m),none]) rfl ?_
 walk_at "x"
 all_goals exact q _ (by omega) (by omega)
theorem zg7(T:Txt K mg):FnOk P w K mg base (CXF P w) 4 T.d__law_purses.a T.d__law_purses.fd ["_law_script", "_law_many_here", "_law_most_here"] (ze2 K):=by
 refine T.d__law_purses.F.okN sc__law_purses (fun vs H Q E h=>?_) (fun cdv A outer s H vs Q E hr h=>?_)
 ·obtain⟨a,ns,n,m,rfl,_⟩:=h;rfl
 obtain⟨a,ns,n,m,rfl,hS,hz,n0,n1,m0,m1,q⟩:=h
 refine⟨_,(zj (zE (i:=3) sc__law_purses.nd rfl (Or.inr rfl) (zA (zaf T) (hr.mono (by decide)) rfl T.d__law_draw.m T.d__law_draw.F.kp T.d__law_draw.b .nil (zG zF) (ze (pv 0) (ze zi (ze zi (ze zi zh))))))
 (zm (zH (za0 rfl (zaS rfl T.z_range (ze (pv 1) zh)) (zP (Ni:=["_law_k", "_law_script", "_law_way", "_law_most_here"]) (caps:=[none,some 0,some 3,some 2]) (by rfl)) (fun S _ _ _ _ _=>(zS (gi:=0) S (Or.inl rfl) rfl)) (fun _ _ _ _ _=>zal) (fun _ _ _ _ _=>(zA (zir T) (hr.mono (by decide)) rfl T.d__law_purse.m T.d__law_purse.F.kp T.d__law_purse.b .nil (zG zF) (ze (pv 1) (ze (pv 0) (ze (pv 2) (ze (pv 3) zh)))))))))),?_⟩
 refine zN (σ0:=[some (.ref a),some (.int n),some (.int m),none]) rfl ?_
 walk_at "x"
 refine zam zcA (fun _ _=>trivial) rfl (fun i vs H'=>∃ps:List Int,vs=ps.map V.int/\ps.length=i/\zds ps) (fun H' _=>⟨[],rfl,rfl,fun _ h=>nomatch h⟩) ?_ ?_
 ·rintro i x D vs o H3 H4 hi hD e3 hv hvl ⟨ps,rfl,hpl,hp⟩ e4 rfl
  walk_at "x"
  rename_i p p0 p1 H5 b5 h5
  refine⟨⟨_,rfl⟩,by walk_at "h",_,h5,by rw[yb];exact yp hvl,ps++[p],by rw[yl];rfl,by rw[yb,hpl];rfl,fun z hz=>?_⟩
  rcases yR.mp hz with h | h
  ·exact hp z h
  ·rw[yw.mp h];exact⟨p0,p1⟩
 ·rintro D H3 vs hD e3 hv hvl ⟨ps,rfl,hpl,hp⟩
  exact q _ _ _ hD e3 hv hpl hp
theorem zgS(T:Txt K mg):FnOk P w K mg base (CXF P w) 1 T.d__law_divisor.a T.d__law_divisor.fd ["_law_one", "_law_other"] ziG:=by
 refine T.d__law_divisor.F.okN sc__law_divisor (fun vs H Q E h=>?_) (fun cdv A outer s H vs Q E hr h=>?_)
 ·obtain⟨a,b,rfl,_⟩:=h;rfl
 obtain⟨a,b,rfl,a0,b0,q⟩:=h
 refine⟨_,(zj (zdX PassesOwn.never (zK (show OpR _ (compareOp .NotEq) (zcx K)from zcF hr.units) (pv 1) zi (nomark _))
 (zj (zE (i:=2) sc__law_divisor.nd rfl (Or.inl rfl) (zJ zcM (pv 0) (pv 1)))
 (zj (zE (i:=0) sc__law_divisor.nd rfl (Or.inl rfl) (pv 1))
 (zm (zE (i:=1) sc__law_divisor.nd rfl (Or.inl rfl) (pv 2))))))
 (zm (zH (pv 0)))),?_⟩
 refine zN (σ0:=[some (.int a),some (.int b),none]) rfl ?_
 walk_at "x"
 refine⟨fun m σ H'=>∃k r f,σ=[some (.int k),some (.int r),f]/\H'=H/\0<=k/\0<=r/\My.gc k r=My.gc a b/\m=r.toNat,⟨_,_,_,_,rfl,rfl,a0,b0,rfl,rfl⟩,?_⟩
 rintro m σ H' ⟨k,r,f,rfl,rfl,hk,hr0,hg,rfl⟩
 walk_at "x"
 ·rename_i hne
  refine⟨fun σ' H''=>σ'=[some (.int r),some (.int (k%r)),some (.int (k%r))]/\H''=H',?_,?_⟩
  ·rintro σ' H'' ⟨rfl,rfl⟩
   have h1:=ybe k (b:=r) (by omega)
   have h2:=yaV k (b:=r) (by omega)
   exact⟨_,by omega,_,_,_,rfl,rfl,hr0,h1,by rw[My.gc_step];exact hg,rfl⟩
  ·walk_at "x"
   exact⟨rfl,rfl⟩
 ·rename_i he
  rw[he,My.gc_zero_right hk]at hg
  rw[hg];exact q
theorem zgx(T:Txt K mg):FnOk P w K mg base (CXF P w) 2 T.d__law_is_part.a T.d__law_is_part.fd ["_law_thing"] zfy:=by
 refine T.d__law_is_part.F.okN zgA (fun vs H Q E h=>?_) (fun cdv A outer s H vs Q E hr h=>?_)
 ·obtain⟨a,q,rfl,_⟩:=h;rfl
 obtain⟨a,q,rfl,h,k⟩:=h
 have hdp:=zap q
 have hab:=zjv q.num
 have hgc:=zpj q
 refine⟨_,(zj (zX (PW.pt (zcT (zbw (show PT _ _ (zbL K _)from zaj (zR (show CallR _ _ (zcU K)from zc2) rfl T.z_isinstance BT.isinstance (ze (pv 0) (ze (zdR (v:=.ty "tuple") rfl T.z_tuple BT.tuple rfl) zh))) (fun _=>rfl))) (zdG (zK (show OpR _ (compareOp .NotEq) (zcx K)from zcF hr.units) (zR (show CallR _ _ (zaO K)from zW) rfl T.z_len BT.len (ze (pv 0) zh)) zi (nomark _)))))
 (zm (zH za2))
 zT)
 (zj (zX (PW.pt (zcT (zbw (show PT _ _ (zbL K _)from zaj (zA (zdK T) (hr.mono (by decide)) rfl T.d__law_whole.m T.d__law_whole.F.kp T.d__law_whole.b .nil (zG zF) (ze (zB (show IxR _ (rIx K)from zy) (pv 0) zi (fun _ _=>rfl)) zh)) (fun _=>rfl))) (zcT (zbw (show PT _ _ (zbL K _)from zaj (zA (zdK T) (hr.mono (by decide)) rfl T.d__law_whole.m T.d__law_whole.F.kp T.d__law_whole.b .nil (zG zF) (ze (zB (show IxR _ (rIx K)from zy) (pv 0) zi (fun _ _=>rfl)) zh)) (fun _=>rfl))) (zdG (zK zcy (zB (show IxR _ (rIx K)from zy) (pv 0) zi (fun _ _=>rfl)) zi (nomark _))))))
 (zm (zH za2))
 zT)
 (zm (zH (zcO (show OpR _ (compareOp .Eq) (zaN K)from zaF hr.units) (zA (zgS T) (hr.mono (by decide)) rfl T.d__law_divisor.m T.d__law_divisor.F.kp T.d__law_divisor.b .nil (zG zF) (ze (zR ze5 rfl T.z_abs BT.abs (ze (zB (show IxR _ (rIx K)from zy) (pv 0) zi (fun _ _=>rfl)) zh)) (ze (zB (show IxR _ (rIx K)from zy) (pv 0) zi (fun _ _=>rfl)) zh))) zi (nomark _)))))),?_⟩
 refine zN (σ0:=[some (.ref a)]) rfl ?_
 walk_at "x"
 all_goals first | (exfalso;omega) | skip
 rw[hgc]
 walk_at "x"
 exact k
theorem zin(T:Txt K mg):FnOk P w K mg base (CXF P w) 3 T.d__law_parts.a T.d__law_parts.fd ["_law_told", "_law_many_here"] (zf9 K):=by
 refine T.d__law_parts.F.okN sc__law_parts (fun vs H Q E h=>?_) (fun cdv A outer s H vs Q E hr h=>?_)
 ·obtain⟨a,ws,qs,n,rfl,_⟩:=h;rfl
 obtain⟨a,ws,qs,n,rfl,ha,hq,hn,k⟩:=h
 have hwl:=hq.length
 refine⟨_,(zj (zX (PW.pt (zcT (zbw (show PT _ _ (zbL K _)from zaj (zR (show CallR _ _ (zcU K)from zc2) rfl T.z_isinstance BT.isinstance (ze (pv 0) (ze (zdR (v:=.ty "list") rfl T.z_list BT.list rfl) zh))) (fun _=>rfl))) (zdG (zK (show OpR _ (compareOp .NotEq) (zcx K)from zcF hr.units) (zR (show CallR _ _ (zaO K)from zW) rfl T.z_len BT.len (ze (pv 0) zh)) (pv 1) (nomark _)))))
 (zm (zH za2))
 zT)
 (zj (zau PassesOwn.never rfl (show PI _ _ _ (zaG K _)from zai (pv 0)) (zU (i:=2) sc__law_parts.nd rfl (Or.inl rfl))
 (zm (zX (zbw (show PT _ _ (zbL K _)from zaj (zA (zgx T) (hr.mono (by decide)) rfl T.d__law_is_part.m T.d__law_is_part.F.kp T.d__law_is_part.b .nil (zG zF) (ze (pv 2) zh)) (fun _=>rfl)))
 (zm (zH za2))
 zT)))
 (zm (zH za2)))),?_⟩
 refine zN (σ0:=[some (.ref a),some (.int n),none]) rfl ?_
 walk_at "x"
 ·exfalso;omega
 refine zco (xs:=ws) (fun i σ' H'=>∃f2:Option V,σ'=[some (.ref a),some (.int n),f2]/\H'=H) ⟨_,rfl,rfl⟩ ?_ ?_ ?_
 ·rintro i σ' H' _ ⟨_,_,rfl⟩;exact SqL.of ha
 ·rintro i x σ' H' hx ⟨f2,rfl,rfl⟩
  obtain⟨b,q,rfl,hqi,hb⟩:=hq.get hx
  walk_at "x"
  exact⟨_,rfl,rfl⟩
 ·rintro σ' H3 ⟨f2,rfl,rfl⟩
  walk_at "x"
  exact k
theorem zd4(T:Txt K mg):FnOk P w K mg base (CXF P w) 1 T.d__law_sums.a T.d__law_sums.fd ["_law_sheet_here", "_law_many_here"] (zhj K):=by
 refine T.d__law_sums.F.okN sc__law_sums (fun vs H Q E h=>?_) (fun cdv A outer s H vs Q E hr h=>?_)
 ·obtain⟨n,a,ds,rfl,_⟩:=h;rfl
 obtain⟨n,a,ds,rfl,⟨xs,hS,hT⟩,n0,n1,hd,k⟩:=h
 refine⟨_,(zj (zbf (i:=2) sc__law_sums.nd rfl rfl rfl (zaS rfl T.z_range (ze (pv 1) zh)) (zP (Ni:=["_law_k"]) (caps:=[none]) (by rfl)) (fun S _ _ _ _ _=>(zS (gi:=0) S (Or.inl rfl) rfl)) (fun _ _ _ _ _=>zal) (fun _ _ _ _ _=>(zbk (ze zi (ze zi (ze zi zh))))))
 (zj (zau PassesOwn.never rfl (show PI _ _ _ (zaG K _)from zai (pv 0)) (zU (i:=3) sc__law_sums.nd rfl (Or.inl rfl))
 (zm (zcH (zJ (show OpR _ (binaryOp .Add) (zaE K)from zah) (zB (show IxR _ (rIx K)from zy) (zB (show IxR _ (rIx K)from zy) (pv 2) (zB (show IxR _ (rIx K)from zy) (pv 3) zi (fun _ _=>rfl)) (fun _ _=>rfl)) (zB (show IxR _ (rIx K)from zy) (pv 3) zi (fun _ _=>rfl)) (fun _ _=>rfl)) (zB (show IxR _ (rIx K)from zy) (pv 3) zi (fun _ _=>rfl))) (zcE (zB (show IxR _ (rIx K)from zy) (pv 2) (zB (show IxR _ (rIx K)from zy) (pv 3) zi (fun _ _=>rfl)) (fun _ _=>rfl)) (zB (show IxR _ (rIx K)from zy) (pv 3) zi (fun _ _=>rfl)) za6))))
 (zm (zH (pv 2))))),?_⟩
 refine zN (σ0:=[some (.ref a),some (.int n),none,none]) rfl ?_
 walk_at "x"
 refine zam zcA (fun _ _=>trivial) rfl (fun i vs H'=>∃as,vs=as.map V.ref/\as.length=i/\Rows H' as 3 (fun _ _=>0)/\∀b∈as,H b=none) (fun H' _=>⟨[],rfl,rfl,⟨yaE,fun i a h=>nomatch h⟩,fun _ h=>nomatch h⟩) ?_ ?_
 ·rintro i x D vs o H2 H3 hi hD e2 hv hvl ⟨as,rfl,hal,hR,hF⟩ e3 rfl
  walk_at "x"
  rename_i p H4 fp e4 hp H5 b5 h5
  have hD':D∉as:=hR.ne (by decide) hv
  have hpD:p≠D:=zcK fp (e3.at hv)
  have hp':H5 p=some (.lst ((vec 3 fun _=>0).map V.int)):=b5.lst hp hpD
  refine⟨⟨_,rfl⟩,by walk_at "h",_,h5,by rw[yb];exact yp hvl,as++[p],by rw[yl];rfl,by rw[yb,hal];rfl,Rows.app ((hR.same (e3.trans e4)).but b5 hD') ((hR.same e3).fresh fp) hp',fun b hb=>?_⟩
  rcases yR.mp hb with h | h
  ·exact hF b h
  ·rw[yw.mp h];exact Same.none fp (e2.trans e3)
 ·rintro l H2 vs fl e2 hl hvl ⟨as,rfl,hal,hR,hF⟩
  walk_at "x"
  have hla:l∉as:=hR.ne (by decide) hl
  refine zco (xs:=xs) (fun i σ' H'=>∃f3:Option V,σ'=[some (.ref a),some (.int n),some (.ref l),f3]/\H' l=some (.lst (as.map V.ref))/\Rows H' as 3 (zD (ds.take i))/\Same H H') ?_ ?_ ?_ ?_
  ·exact⟨_,rfl,hl,hR,e2⟩
  ·rintro i σ' H' _ ⟨_,_,_,_,e⟩;exact e.seq hS
  ·rintro i x σ' H3 hx ⟨f3,rfl,hl3,hR3,e3⟩
   obtain⟨b,d,rfl,hdi,hb⟩:=(hT.same e3).get hx
   have hb':H3 b=some (.tup [.int d.p,.int d.q,.int d.r,.int d.a]):=hb
   obtain⟨p0,p1,q0,q1,pq,r0,r1,a0,a1⟩:=hd d (ya hdi)
   obtain⟨c,hc⟩:=zO (show d.p.toNat<as.length by omega)
   have hrow:=hR3.2 _ _ hc
   have hcm:=ya hc
   have hlc:l≠c:=fun z=>hla (z▸hcm)
   have fc:=hF c hcm
   walk_at "x"
   rename_i H4 b4 h4
   refine⟨_,rfl,b4.lst hl3 hlc,(hR3.set b4 hc h4).congr fun m hm r hr=>?_,by walk_at "h"⟩
   rw[zav hdi]
   exact zh3 p0 r0 m r
  ·rintro σ' H3 ⟨f3,rfl,hl3,hR3,e3⟩
   rw[hT.length,yK]at hR3
   walk_at "x"
   exact k _ _ _ fl e3 hl3 (by omega) hR3 hF
theorem zeX(T:Txt K mg):FnOk P w K mg base (CXF P w) 2 T.d__law_stand.a T.d__law_stand.fd ["_law_sheet_here", "_law_lays"] (zfQ K):=by
 refine T.d__law_stand.F.okN sc__law_stand (fun vs H Q E h=>?_) (fun cdv A outer s H vs Q E hr h=>?_)
 ·obtain⟨a,y,ds,ws,qs,rfl,_⟩:=h;rfl
 obtain⟨a,y,ds,ws,qs,rfl,h,hd,hl,hy,hq,h9,hs,k⟩:=h
 have hwl:=hq.length
 have hdo:∀d∈ds,zM (ws.length:Int) d:=by rw[hwl];exact fun d h=>(hd d h).1
 refine⟨_,(zj (zE (i:=2) sc__law_stand.nd rfl (Or.inl rfl) (zA (zd4 T) (hr.mono (by decide)) rfl T.d__law_sums.m T.d__law_sums.F.kp T.d__law_sums.b .nil (zG zF) (ze (pv 0) (ze (zR (show CallR _ _ (zaO K)from zW) rfl T.z_len BT.len (ze (pv 1) zh)) zh))))
 (zj (zE (i:=3) sc__law_stand.nd rfl (Or.inl rfl) (zbk zh))
 (zj (zau PassesOwn.never rfl (zaS rfl T.z_range (ze (zR (show CallR _ _ (zaO K)from zW) rfl T.z_len BT.len (ze (pv 1) zh)) zh)) (zU (i:=4) sc__law_stand.nd rfl (Or.inl rfl))
 (zj (zE (i:=5) sc__law_stand.nd rfl (Or.inl rfl) zcn)
 (zj (zau PassesOwn.never rfl (zlH rfl T.z_range (ze zi (ze (zew zd7 zi) (ze (zew zd7 zi) zh)))) (zU (i:=6) sc__law_stand.nd rfl (Or.inl rfl))
 (zm (zX (zK zcy (zB (show IxR _ (rIx K)from zy) (zB (show IxR _ (rIx K)from zy) (pv 1) (pv 4) (fun _ _=>rfl)) zi (fun _ _=>rfl)) (zJ zZ (zR (show CallR _ _ (zeg K)from zcJ rfl) rfl T.z_sum BT.sum (ze (zeG (show SlR _ (zfo K)from zfN) (zB (show IxR _ (rIx K)from zy) (pv 2) (pv 4) (fun _ _=>rfl)) zfO (zfE (zJ (show OpR _ (binaryOp .Add) (zaE K)from zah) (pv 6) zi))) zh)) (zB (show IxR _ (rIx K)from zy) (zB (show IxR _ (rIx K)from zy) (pv 1) (pv 4) (fun _ _=>rfl)) zi (fun _ _=>rfl))) (nomark _))
 (zm (zE (i:=5) sc__law_stand.nd rfl (Or.inl rfl) (pv 6)))
 zT)))
 (zm (zb3 (show PE _ _ (tBM K _ _ _ _)from zc7 yT yY yZ zbj (pv 3) (ze (pv 5) zh)))))))
 (zm (zH (pv 3)))))),?_⟩
 refine zN (σ0:=[some (.ref a),some (.ref y),none,none,none,none,none]) rfl ?_
 walk_at "x"
 rename_i su H1 as fsu e1 hsu hal hR hF ma H2 fma e2 hma
 rw[yx]at hal
 have hq1:=hq.same e1
 have hy1:=e1.at hy
 refine zdC (fun i σ' H'=>∃f4 f5 f6:Option V,σ'=[some (.ref a),some (.ref y),some (.ref su),some (.ref ma),f4,f5,f6]/\H' ma=some (.lst (z9 i fun m=>zar (zD ds m) (qs.getD m 0) 3))/\Same H1 H') ⟨_,_,_,rfl,hma,e2⟩ ?_ ?_
 ·rintro i σ' H3 hi ⟨f4,f5,f6,rfl,hm3,e3⟩
  have hi':i<ws.length:=by omega
  obtain⟨v,hv⟩:=zO hi'
  obtain⟨b,q,rfl,hqi,hb⟩:=hq1.get hv
  have ei:((0:Int)+(i:Int)).toNat=i:=by omega
  have hat:atI ws ((0:Int)+(i:Int))=some (.ref b):=zaB (by omega) (by rw[ei];exact hv)
  obtain⟨c,hc⟩:=zO (show((0:Int)+(i:Int)).toNat<as.length by omega)
  have hrow:=hR.2 _ _ hc
  have hqd:qs.getD i 0=q:=by rw[ye,hqi];rfl
  obtain⟨f,ef⟩:∃f,zD ds i=f:=⟨_,rfl⟩
  have hf:∀j,j<3->0<=f j/\f j<=100000000000000:=fun j _=>by
   have:=zci (m:=i) (r:=j) ds fun d h=>⟨(hd d h).1.2.2.2.2.2.2.2.1,(hd d h).2⟩
   rw[ef]at this
   omega
  rw[ei,ef]at hrow
  have hsq:=hs q (ya hqi)
  have hcum:=zdQ hf
  have hol:(z9 i fun m=>zar (zD ds m) (qs.getD m 0) 3).length=i:=zbs
  walk_at "x"
  refine zdE znU (fun t σ' H'=>∃f6:Option V,σ'=[some (.ref a),some (.ref y),some (.ref su),some (.ref ma),some (.int ((0:Int)+(i:Int))),some (zbb (zbl f q t)),f6]/\H' ma=some (.lst (z9 i fun m=>zar (zD ds m) (qs.getD m 0) 3))/\Same H1 H') ⟨_,rfl,hm3,e3⟩ (fun _ _ _ _=>trivial) ?_ ?_
  ·rintro t x σ' H4 H5 ht ⟨f6,rfl,hm4,e4⟩ e5 rfl
   have ht3:t<3:=ht
   have hsd:sz (q.den:Int)<=60000:=hsq.2
   have hb5:IsQ H5 b q:=(e4.trans e5).at hb
   have hrow5:=(e4.trans e5).at hrow
   have hy5:=(e4.trans e5).at hy1
   have hsu5:=(e4.trans e5).at hsu
   obtain rfl | rfl | rfl:t=0\/t=1\/t=2:=by omega
   ·walk_at "x"
    rename_i sl H6 fsl e6 hsl
    have hsl':H6 sl=some (.lst ((vec 3 f).map V.int)):=hsl
    have hc3:=hcum 3 (by omega)
    have hmul:CMulS (zaD f 3) (q.den:Int):=CMulS.of (sz200 (by omega) (by omega)) hsd (by decide)
    have hb6:IsQ H6 b q:=e6.at hb5
    have hy6:=e6.at hy5
    have hm6:=e6.at (e5.at hm4)
    have e16:Same H1 H6:=e4.trans (e5.trans e6)
    refine zfF (SqL.of hsl') ?_
    rw[zcu]
    walk_at "x"
    ·rename_i hu
     have hst:zbl f q (0+1)=some 2:=if_pos (show za1 f q 2 from hu)
     exact⟨_,by rw[hst];rfl,hm6,e16⟩
    ·rename_i hu
     have hst:zbl f q (0+1)=zbl f q 0:=if_neg (show ¬za1 f q 2 from hu)
     exact⟨_,by rw[hst],hm6,e16⟩
   ·walk_at "x"
    rename_i sl H6 fsl e6 hsl
    have hsl':H6 sl=some (.lst ((vec 2 f).map V.int)):=hsl
    have hc3:=hcum 2 (by omega)
    have hmul:CMulS (zaD f 2) (q.den:Int):=CMulS.of (sz200 (by omega) (by omega)) hsd (by decide)
    have hb6:IsQ H6 b q:=e6.at hb5
    have hy6:=e6.at hy5
    have hm6:=e6.at (e5.at hm4)
    have e16:Same H1 H6:=e4.trans (e5.trans e6)
    refine zfF (SqL.of hsl') ?_
    rw[zcu]
    walk_at "x"
    ·rename_i hu
     have hst:zbl f q (1+1)=some 1:=if_pos (show za1 f q 1 from hu)
     exact⟨_,by rw[hst];rfl,hm6,e16⟩
    ·rename_i hu
     have hst:zbl f q (1+1)=zbl f q 1:=if_neg (show ¬za1 f q 1 from hu)
     exact⟨_,by rw[hst],hm6,e16⟩
   ·walk_at "x"
    rename_i sl H6 fsl e6 hsl
    have hsl':H6 sl=some (.lst ((vec 1 f).map V.int)):=hsl
    have hc3:=hcum 1 (by omega)
    have hmul:CMulS (zaD f 1) (q.den:Int):=CMulS.of (sz200 (by omega) (by omega)) hsd (by decide)
    have hb6:IsQ H6 b q:=e6.at hb5
    have hy6:=e6.at hy5
    have hm6:=e6.at (e5.at hm4)
    have e16:Same H1 H6:=e4.trans (e5.trans e6)
    refine zfF (SqL.of hsl') ?_
    rw[zcu]
    walk_at "x"
    ·rename_i hu
     have hst:zbl f q (2+1)=some 0:=if_pos (show za1 f q 0 from hu)
     exact⟨_,by rw[hst];rfl,hm6,e16⟩
    ·rename_i hu
     have hst:zbl f q (2+1)=zbl f q 2:=if_neg (show ¬za1 f q 0 from hu)
     exact⟨_,by rw[hst],hm6,e16⟩
  ·rintro σ' H4 ⟨f6,rfl,hm4,e4⟩
   have hst:zbb (zbl f q 3)=zbb (zar (zD ds i) (qs.getD i 0) 3):=by rw[zlb,ef,hqd]
   walk_at "x"
   rename_i H5 b5 h5
   refine⟨_,_,_,rfl,?_,by walk_at "h"⟩
   rw[ze1,<- hst]
   exact h5
 ·rintro σ' H3 ⟨f4,f5,f6,rfl,hm3,e3⟩
  walk_at "x"
  rw[yx,hwl]at hm3
  exact k _ _ (Same.none fma e1) (e1.trans e3) hm3
theorem zjy(T:Txt K mg):FnOk P w K mg base (CXF P w) 1 T.d__law_same.a T.d__law_same.fd ["_law_ones", "_law_others"] (zg3 K):=by
 refine T.d__law_same.F.okN sc__law_same (fun vs H Q E h=>?_) (fun cdv A outer s H vs Q E hr h=>?_)
 ·obtain⟨a,b,us,ws,rs,rfl,_⟩:=h;rfl
 obtain⟨a,b,us,ws,rs,rfl,ha,hb,hu,hw,hl,k⟩:=h
 have l1:=hu.1
 have l2:=hw.1
 refine⟨_,(zj (zX (zK (show OpR _ (compareOp .NotEq) (zcx K)from zcF hr.units) (zR (show CallR _ _ (zaO K)from zW) rfl T.z_len BT.len (ze (pv 0) zh)) (zR (show CallR _ _ (zaO K)from zW) rfl T.z_len BT.len (ze (pv 1) zh)) (nomark _))
 (zm (zH za2))
 zT)
 (zj (zau PassesOwn.never rfl (zaS rfl T.z_range (ze (zR (show CallR _ _ (zaO K)from zW) rfl T.z_len BT.len (ze (pv 0) zh)) zh)) (zU (i:=2) sc__law_same.nd rfl (Or.inl rfl))
 (zm (zX (zK (show OpR _ (compareOp .NotEq) (zcx K)from zcF hr.units) (zJ zZ (zB (show IxR _ (rIx K)from zy) (zB (show IxR _ (rIx K)from zy) (pv 0) (pv 2) (fun _ _=>rfl)) zi (fun _ _=>rfl)) (zB (show IxR _ (rIx K)from zy) (zB (show IxR _ (rIx K)from zy) (pv 1) (pv 2) (fun _ _=>rfl)) zi (fun _ _=>rfl))) (zJ zZ (zB (show IxR _ (rIx K)from zy) (zB (show IxR _ (rIx K)from zy) (pv 1) (pv 2) (fun _ _=>rfl)) zi (fun _ _=>rfl)) (zB (show IxR _ (rIx K)from zy) (zB (show IxR _ (rIx K)from zy) (pv 0) (pv 2) (fun _ _=>rfl)) zi (fun _ _=>rfl))) (nomark _))
 (zm (zH za2))
 zT)))
 (zm (zH za2)))),?_⟩
 refine zN (σ0:=[some (.ref a),some (.ref b),none]) rfl ?_
 walk_at "x"
 ·exfalso;omega
 refine zdC (fun i σ' H'=>∃f2:Option V,σ'=[some (.ref a),some (.ref b),f2]/\H'=H) ⟨_,rfl,rfl⟩ ?_ ?_
 ·rintro i σ' H' hi ⟨f2,rfl,rfl⟩
  obtain⟨r,hr'⟩:=zO (show i<rs.length by omega)
  obtain⟨x,t1,b1,x1,x2,x3,x4,x5,x6⟩:=hu.2 i r hr'
  obtain⟨y,t2,b2,y1,y2,y3,y4,y5,y6⟩:=hw.2 i r hr'
  have ei:((0:Int)+(i:Int)).toNat=i:=by omega
  have hat1:atI us ((0:Int)+(i:Int))=some (.ref x):=zaB (by omega) (by rw[ei];exact x1)
  have hat2:atI ws ((0:Int)+(i:Int))=some (.ref y):=zaB (by omega) (by rw[ei];exact y1)
  have m1:CMulS t1 b2:=CMulS.of x5 y6 (by decide)
  have m2:CMulS t2 b1:=CMulS.of y5 x6 (by decide)
  have he:=zrx x4 y4
  walk_at "x"
  all_goals first | exact⟨_,rfl,rfl⟩ | (exfalso;contradiction)
 ·rintro σ' H' ⟨f2,rfl,rfl⟩
  walk_at "x"
  exact k
theorem zj0(T:Txt K mg):FnOk P w K mg base (CXF P w) 2 T.d__law_got.a T.d__law_got.fd ["_law_sheet_here", "_law_lays"] (zft K):=by
 refine T.d__law_got.F.okN sc__law_got (fun vs H Q E h=>?_) (fun cdv A outer s H vs Q E hr h=>?_)
 ·obtain⟨a,y,ds,ws,qs,rfl,_⟩:=h;rfl
 obtain⟨a,y,ds,ws,qs,rfl,⟨xs,hS,hT⟩,hy,hq,hd,hl,h9,hs,k⟩:=h
 have hwl:=hq.length
 have hxl:=hT.length
 have hdo:∀d∈ds,zM (ws.length:Int) d:=by rw[hwl];exact fun d h=>(hd d h).1
 have hSh:IsSh K H a ds:=⟨xs,hS,hT⟩
 have hbnd:∀i j,j<3->0<=zD ds i j/\zD ds i j<=100000000000000:=fun i j _=>by
  have:=zci (m:=i) (r:=j) ds fun d h=>⟨(hd d h).1.2.2.2.2.2.2.2.1,(hd d h).2⟩
  omega
 refine⟨_,(zj (zE (i:=2) sc__law_got.nd rfl (Or.inl rfl) (zA (zd4 T) (hr.mono (by decide)) rfl T.d__law_sums.m T.d__law_sums.F.kp T.d__law_sums.b .nil (zG zF) (ze (pv 0) (ze (zR (show CallR _ _ (zaO K)from zW) rfl T.z_len BT.len (ze (pv 1) zh)) zh))))
 (zj (zbf (i:=3) sc__law_got.nd rfl rfl rfl (show PI _ _ _ (zaG K _)from zai (pv 1)) (zP (Ni:=["_law_lay"]) (caps:=[none]) (by rfl)) (fun S _ _ _ _ _=>(zS (gi:=0) S (Or.inl rfl) rfl)) (fun _ _ _ _ _=>zal) (fun _ _ _ _ _=>(zad (ze zi (ze zi zh)))))
 (zj (zau PassesOwn.never rfl (show PI _ _ _ (zaG K _)from zai (pv 0)) (zU (i:=4) sc__law_got.nd rfl (Or.inl rfl))
 (zm (zX (zK zcR (zB (show IxR _ (rIx K)from zy) (pv 4) zi (fun _ _=>rfl)) zi (nomark _))
 (zj (zE (i:=5) sc__law_got.nd rfl (Or.inl rfl) (zB (show IxR _ (rIx K)from zy) (pv 1) (zB (show IxR _ (rIx K)from zy) (pv 4) zi (fun _ _=>rfl)) (fun _ _=>rfl)))
 (zj (zE (i:=6) sc__law_got.nd rfl (Or.inl rfl) (zB (show IxR _ (rIx K)from zy) (zB (show IxR _ (rIx K)from zy) (pv 2) (zB (show IxR _ (rIx K)from zy) (pv 4) zi (fun _ _=>rfl)) (fun _ _=>rfl)) (zB (show IxR _ (rIx K)from zy) (pv 4) zi (fun _ _=>rfl)) (fun _ _=>rfl)))
 (zj (zE (i:=7) sc__law_got.nd rfl (Or.inl rfl) (zR (show CallR _ _ (zeg K)from zcJ rfl) rfl T.z_sum BT.sum (ze (zeG (show SlR _ (zfo K)from zfN) (zB (show IxR _ (rIx K)from zy) (pv 2) (zB (show IxR _ (rIx K)from zy) (pv 4) zi (fun _ _=>rfl)) (fun _ _=>rfl)) zfO (zfE (zB (show IxR _ (rIx K)from zy) (pv 4) zi (fun _ _=>rfl)))) zh)))
 (zj (zE (i:=8) sc__law_got.nd rfl (Or.inl rfl) (zJ zZ (zB (show IxR _ (rIx K)from zy) (pv 4) zi (fun _ _=>rfl)) (zR (zmA rfl) rfl T.z_min BT.min (ze (zR (zmf rfl) rfl T.z_max BT.max (ze (zJ zjx (zB (show IxR _ (rIx K)from zy) (pv 5) zi (fun _ _=>rfl)) (zJ zZ (pv 7) (zB (show IxR _ (rIx K)from zy) (pv 5) zi (fun _ _=>rfl)))) (ze zi zh))) (ze (zJ zZ (pv 6) (zB (show IxR _ (rIx K)from zy) (pv 5) zi (fun _ _=>rfl))) zh)))))
 (zj (zE (i:=9) sc__law_got.nd rfl (Or.inl rfl) (zJ zZ (pv 6) (zB (show IxR _ (rIx K)from zy) (pv 5) zi (fun _ _=>rfl))))
 (zj (zE (i:=10) sc__law_got.nd rfl (Or.inl rfl) (zB (show IxR _ (rIx K)from zy) (pv 3) (zB (show IxR _ (rIx K)from zy) (pv 4) zi (fun _ _=>rfl)) (fun _ _=>rfl)))
 (zm (zcH (zad (ze (zJ (show OpR _ (binaryOp .Add) (zaE K)from zah) (zJ zZ (zB (show IxR _ (rIx K)from zy) (pv 10) zi (fun _ _=>rfl)) (pv 9)) (zJ zZ (pv 8) (zB (show IxR _ (rIx K)from zy) (pv 10) zi (fun _ _=>rfl)))) (ze (zJ zZ (zB (show IxR _ (rIx K)from zy) (pv 10) zi (fun _ _=>rfl)) (pv 9)) zh))) (zcE (pv 3) (zB (show IxR _ (rIx K)from zy) (pv 4) zi (fun _ _=>rfl)) za6)))))))))
 zT)))
 (zm (zH (pv 3)))))),?_⟩
 refine zN (σ0:=[some (.ref a),some (.ref y),none,none,none,none,none,none,none,none,none]) rfl ?_
 walk_at "x"
 rename_i su H1 as fsu e1 hsu hal hR hF
 rw[yx]at hal
 refine zam (zaP (K:=K) (a:=y) (xs:=ws)) (fun H' e=>SqL.of (e.at (e1.at hy))) rfl (fun i vs H'=>IsFr 10 H' vs ((List.range i).map (zV [] (zY ds qs)))) (fun H' _=>IsFr.nil) ?_ ?_
 ·rintro i x D vs o H2 H3 hi hD e2 hv hvl hvs e3 hx
  walk_at "x"
  refine zc3 (by first | decide | simp) fun p H4 fp e4 hp=>?_
  walk_at "x"
  rename_i H5 b5 h5
  refine⟨⟨_,rfl⟩,by walk_at "h",_,h5,by rw[yb];exact yp hvl,?_⟩
  show IsFr 10 H5 _ ((List.range (i+1)).map (zV [] (zY ds qs)))
  rw[yC,yl,yA]
  exact IsFr.app ((hvs.same (e3.trans e4)).but b5) (b5.tup hp) (by decide) (by show((0:Int):Rat)=(0:Rat)*((1:Int):Rat);rw[Rat.zero_mul];rfl) (zas (by decide)) (zas (by decide))
 rintro ma H2 vs0 fma e2 hma hvl hvs
 have nma:ma∉as:=(hR.fresh fma)
 rw[hwl]at hvs
 walk_at "x"
 refine zco (xs:=xs) (fun i σ' H'=>∃(us:List V) (f4 f5 f6 f7 f8 f9 f10:Option V),σ'=[some (.ref a),some (.ref y),some (.ref su),some (.ref ma),f4,f5,f6,f7,f8,f9,f10]/\H' ma=some (.lst us)/\IsFr (7200*i+10) H' us ((List.range qs.length).map (zV (ds.take i) (zY ds qs)))/\Rows H' as 3 (zD ds)/\H' su=some (.lst (as.map V.ref))/\Same H H') ⟨_,_,_,_,_,_,_,_,rfl,hma,hvs,hR.same e2,e2.at hsu,e1.trans e2⟩ ?_ ?_ ?_
 ·rintro i σ' H' _ ⟨_,_,_,_,_,_,_,_,_,_,_,_,_,h⟩;exact h.seq hS
 ·rintro i x σ' H3 hx ⟨us,f4,f5,f6,f7,f8,f9,f10,rfl,hma3,hus,hR3,hsu3,e3⟩
  obtain⟨b,d,rfl,hdi,hb⟩:=(hT.same e3).get hx
  have hb':H3 b=some (.tup [.int d.p,.int d.q,.int d.r,.int d.a]):=hb
  have hdm:=ya hdi
  obtain⟨⟨p0,p1,q0,q1,pq,r0,r1,a0,a1⟩,a2⟩:=hd d hdm
  have hi:i<ds.length:=(yk.mp hdi).1
  have hul:us.length=qs.length:=by rw[hus.1,yh,yv]
  obtain⟨v,hv⟩:=zO (show d.p.toNat<ws.length by omega)
  obtain⟨g,q,rfl,hqi,hg⟩:=(hq.same e3).get hv
  have hat:atI ws d.p=some (.ref g):=zaB p0 hv
  obtain⟨c,hc⟩:=zO (show d.p.toNat<as.length by omega)
  have hrow:=hR3.2 _ _ hc
  have hqd:qs.getD d.p.toNat 0=q:=by rw[ye,hqi];rfl
  have hr3:d.r.toNat<3:=by omega
  have hge:=zpo (m:=d.p.toNat) (r:=d.r.toNat) (fun d h=>(hd d h).1.2.2.2.2.2.2.2.1) hdm (by omega) (by omega)
  have hf:=hbnd d.p.toNat
  obtain⟨f,ef⟩:∃f,zD ds d.p.toNat=f:=⟨_,rfl⟩
  rw[ef]at hrow hge hf
  have hlq:=hs q (ya hqi)
  have hlq0:=hlq.1
  have hpay:zY ds qs d=((d.a:Int):Rat)*zae f q d.r.toNat:=by unfold zY;rw[hqd,ef]
  have hcl:=znb (f:=f) (r:=d.r.toNat) hlq0 (fun j hj=>(hf j hj).1) hr3
  have hsm:=zcI (f:=f) (q:=q) (r:=d.r.toNat) hlq0 (hf _ hr3).1
  have hcum:=zdQ hf d.r.toNat (by omega)
  obtain⟨l,t,m,l1,l2,l3,l4,l5,l6⟩:=hus.2 d.q.toNat (zV (ds.take i) (zY ds qs) d.q.toNat) (by rw[yf,yL (by omega)];rfl)
  have hatl:atI us d.q=some (.ref l):=zaB q0 l1
  have hy3:=e3.at hy
  have zd:sz (q.den:Int)<=7001:=hlq.2.2
  have zf:sz (f d.r.toNat)<=47:=ze3 (hf _ hr3).1 (yaW (hf _ hr3).2 (by decide))
  have zc:sz (zaD f d.r.toNat)<=200:=sz200 (by omega) (by omega)
  have zb:sz (f d.r.toNat*(q.den:Int))<=7048:=zbN zf zd
  have zk:sz (zdc f q d.r.toNat)<=7048:=by
   have h1:=sz_le.mp zb
   exact zas (by omega)
  have za:sz d.a<=47:=ze3 a0 (yaW a1 (by decide))
  have zt:sz (d.a*zdc f q d.r.toNat)<=7095:=zbN za zk
  have m1:CMulS (zaD f d.r.toNat) (q.den:Int):=CMulS.of zc zd (by decide)
  have m2:CMulS (f d.r.toNat) (q.den:Int):=CMulS.of zf zd (by decide)
  have m3:CMulS d.a (zdc f q d.r.toNat):=CMulS.of za zk (by decide)
  have m4:CMulS t (f d.r.toNat*(q.den:Int)):=CMulS.of l5 zb (by omega)
  have m5:CMulS (d.a*zdc f q d.r.toNat) m:=CMulS.of zt l6 (by omega)
  have m6:CMulS m (f d.r.toNat*(q.den:Int)):=CMulS.of l6 zb (by omega)
  walk_at "x"
  ·rename_i h0 sl H4 fsl e4 hsl
   rw[cut3 r0 (by omega)]at hsl
   refine zfF (SqL.of hsl) ?_
   rw[zcu]
   have l2':=e4.at l2
   walk_at "x"
   refine zc3 (by first | decide | simp) fun p H5 fp e5 hp=>?_
   walk_at "x"
   refine zcC (e5.at (e4.at hma3)) (zcD q0 (by omega)) fun H6 b6 h6=>?_
   have hsm':((f d.r.toNat:Int):Rat)*zae f q d.r.toNat=zaa f q d.r.toNat:=hsm
   have hfp:0<f d.r.toNat:=by omega
   refine⟨_,_,_,_,_,_,_,_,rfl,h6,IsFr.set (F:=zV (ds.take i) (zY ds qs)) (((hus.same e4).same e5).but b6) (by omega) (b6.tup hp) (yaF l3 (yaF hfp (zap q))) ?_ ?_ ?_ ?_,(hR3.same (e4.trans e5)).but b6 nma,b6.lst (e5.at (e4.at hsu3)) ?_,b6.same (e3.trans (e4.trans e5)) (Same.none fma e1)⟩
   ·show((t*(f d.r.toNat*(q.den:Int))+(d.a*zdc f q d.r.toNat)*m:Int):Rat)=_
    rw[zav hdi,zaQ,if_pos (show d.q=((d.q.toNat:Nat):Int) by omega),hpay,yS,yu,yu,yu,yu,yu,yu,l4,hcl.2.2,<- hsm']
    grind
   ·exact yc (zfg (yc (zbN l5 zb) (show _<=7200*i+7150 by omega)) (yc (zbN zt l6) (by omega))) (by omega)
   ·exact yc (zbN l6 zb) (by omega)
   ·intro m' hm'
    rw[zav hdi,zaQ,if_neg (by omega)]
    grind
   ·intro z
    rw[<- z]at hma3
    rw[hsu3]at hma3
    exact(zcK fma hsu) z.symm
  ·rename_i h0
   have ha0:d.a=0:=by omega
   have e:zV (ds.take (i+1)) (zY ds qs)=zV (ds.take i) (zY ds qs):=by
    funext m'
    rw[zav hdi,zaQ,hpay,ha0]
    have:((0:Int):Rat)=0:=rfl
    rw[this]
    split<;>grind
   exact⟨us,_,_,_,_,_,_,_,rfl,hma3,by rw[e];exact hus.mono (by omega),hR3,hsu3,e3⟩
 ·rintro σ' H3 ⟨us,f4,f5,f6,f7,f8,f9,f10,rfl,hma3,hus,hR3,hsu3,e3⟩
  rw[hxl,yK]at hus
  walk_at "x"
  exact k _ _ _ (Same.none fma e1) e3 hma3 (hus.mono (by omega))
theorem zjc(T:Txt K mg):FnOk P w K mg base (CXF P w) 3 T.d__law_next.a T.d__law_next.fd ["_law_sheet_here", "_law_purses_here", "_law_lays"] (zeU K):=by
 refine T.d__law_next.F.okN sc__law_next (fun vs H Q E h=>?_) (fun cdv A outer s H vs Q E hr h=>?_)
 ·obtain⟨a,u,y,ds,ps,ws,qs,rfl,_⟩:=h;rfl
 obtain⟨a,u,y,ds,ps,ws,qs,rfl,hSh,hu,hy,hq,hd,hl,h9,hpl,hp,hs,k⟩:=h
 have hwl:=hq.length
 have hdo:∀d∈ds,zM (ws.length:Int) d:=by rw[hwl];exact fun d h=>(hd d h).1
 refine⟨_,(zj (zE (i:=3) sc__law_next.nd rfl (Or.inl rfl) (zA (zd4 T) (hr.mono (by decide)) rfl T.d__law_sums.m T.d__law_sums.F.kp T.d__law_sums.b .nil (zG zF) (ze (pv 0) (ze (zR (show CallR _ _ (zaO K)from zW) rfl T.z_len BT.len (ze (pv 2) zh)) zh))))
 (zj (zE (i:=4) sc__law_next.nd rfl (Or.inl rfl) (zA (zj0 T) (hr.mono (by decide)) rfl T.d__law_got.m T.d__law_got.F.kp T.d__law_got.b .nil (zG zF) (ze (pv 0) (ze (pv 2) zh))))
 (zj (zE (i:=5) sc__law_next.nd rfl (Or.inl rfl) (zbk zh))
 (zj (zau PassesOwn.never rfl (zaS rfl T.z_range (ze (zR (show CallR _ _ (zaO K)from zW) rfl T.z_len BT.len (ze (pv 2) zh)) zh)) (zU (i:=6) sc__law_next.nd rfl (Or.inl rfl))
 (zj (zE (i:=7) sc__law_next.nd rfl (Or.inl rfl) (zJ (show OpR _ (binaryOp .Add) (zaE K)from zah) (zB (show IxR _ (rIx K)from zy) (zB (show IxR _ (rIx K)from zy) (pv 4) (pv 6) (fun _ _=>rfl)) zi (fun _ _=>rfl)) (zJ zZ (zB (show IxR _ (rIx K)from zy) (pv 1) (pv 6) (fun _ _=>rfl)) (zB (show IxR _ (rIx K)from zy) (zB (show IxR _ (rIx K)from zy) (pv 4) (pv 6) (fun _ _=>rfl)) zi (fun _ _=>rfl)))))
 (zm (zX (zK zcR (pv 7) (zJ zZ (zR (show CallR _ _ (zeg K)from zcJ rfl) rfl T.z_sum BT.sum (ze (zB (show IxR _ (rIx K)from zy) (pv 3) (pv 6) (fun _ _=>rfl)) zh)) (zB (show IxR _ (rIx K)from zy) (zB (show IxR _ (rIx K)from zy) (pv 4) (pv 6) (fun _ _=>rfl)) zi (fun _ _=>rfl))) (nomark _))
 (zm (zb3 (show PE _ _ (tBM K _ _ _ _)from zc7 yT yY yZ zbj (pv 5) (ze (zad (ze (zR (show CallR _ _ (zeg K)from zcJ rfl) rfl T.z_sum BT.sum (ze (zB (show IxR _ (rIx K)from zy) (pv 3) (pv 6) (fun _ _=>rfl)) zh)) (ze zi zh))) zh))))
 (zm (zb3 (show PE _ _ (tBM K _ _ _ _)from zc7 yT yY yZ zbj (pv 5) (ze (zad (ze (pv 7) (ze (zB (show IxR _ (rIx K)from zy) (zB (show IxR _ (rIx K)from zy) (pv 4) (pv 6) (fun _ _=>rfl)) zi (fun _ _=>rfl)) zh))) zh))))))))
 (zm (zH (pv 5))))))),?_⟩
 refine zN (σ0:=[some (.ref a),some (.ref u),some (.ref y),none,none,none,none,none]) rfl ?_
 walk_at "x"
 rename_i su H1 as fsu e1 hsu hal hR hF co H2 vs fco e2 hco hfr ma H3 fma e3 hma
 rw[yx]at hal
 have hvl:vs.length=qs.length:=by have:=hfr.1;rwa [yh,yv]at this
 refine zdC (n:=ws.length) (fun i σ' H'=>∃(us:List V) (f6 f7:Option V),σ'=[some (.ref a),some (.ref u),some (.ref y),some (.ref su),some (.ref co),some (.ref ma),f6,f7]/\H' ma=some (.lst us)/\IsFr 10000000 H' us ((List.range i).map (zbd ds ps qs))/\Same H2 H') ⟨[],_,_,rfl,hma,IsFr.nil,e3⟩ ?_ ?_
 ·rintro i σ' H4 hi ⟨us,f6,f7,rfl,hma4,hus,e4⟩
  have ei:((0:Int)+(i:Int)).toNat=i:=by omega
  obtain⟨p,hpi⟩:=zO (show i<ps.length by omega)
  obtain⟨p0,p1⟩:=hp p (ya hpi)
  have hpd:ps.getD i 0=p:=by rw[ye,hpi];rfl
  have hatp:atI (ps.map V.int) ((0:Int)+(i:Int))=some (.int p):=zaB (by omega) (by rw[ei,yf,hpi];rfl)
  obtain⟨g,t,b,g1,g2,g3,g4,g5,g6⟩:=hfr.2 i (zV ds (zY ds qs) i) (by rw[yf,yL (by omega)];rfl)
  have hatg:atI vs ((0:Int)+(i:Int))=some (.ref g):=zaB (by omega) (by rw[ei];exact g1)
  obtain⟨c,hc⟩:=zO (show((0:Int)+(i:Int)).toNat<as.length by omega)
  have hrow:=((hR.same e2).same e4).2 _ _ hc
  rw[ei]at hrow
  have hatc:atI (as.map V.ref) ((0:Int)+(i:Int))=some (.ref c):=zaB (by omega) (by rw[yf,hc];rfl)
  have hu4:H4 u=some (.lst (ps.map V.int)):=e4.at (e2.at (e1.at hu))
  have hco4:H4 co=some (.lst vs):=e4.at hco
  have hsu4:H4 su=some (.lst (as.map V.ref)):=e4.at (e2.at hsu)
  have g24:=e4.at g2
  have hb:=zf8 hd hl i
  have hnn:=zoe (ps:=ps) g3 g4 hpd
  have zp:sz p<=47:=ze3 p0 (yaW p1 (by decide))
  have zo:sz (zao (vec 3 (zD ds i)))<=49:=ze3 hb.1 (yaW hb.2 (by decide))
  have m1:CMulS p b:=CMulS.of zp g6 (by decide)
  have m2:CMulS (zao (vec 3 (zD ds i))) b:=CMulS.of zo g6 (by decide)
  have hul:us.length=i:=by rw[hus.1,yh,yv]
  walk_at "x"
  ·rename_i h0
   refine zc3 (by first | decide | simp) fun tp H5 ftp e5 htp=>?_
   walk_at "x"
   rename_i H6 b6 h6
   refine⟨_,_,_,rfl,h6,?_,by walk_at "h"⟩
   rw[yC,yl,yA,hnn.1 (by omega)]
   refine IsFr.app ((hus.same e5).but b6) (b6.tup htp) (by decide) ?_ (yc zo (by omega)) (yc (sz200 (i:=1) (by decide) (by decide)) (by omega))
   show((zao (vec 3 (zD ds i)):Int):Rat)=zbc ds i*((1:Int):Rat)
   have:((1:Int):Rat)=1:=rfl
   rw[this];unfold zbc;grind
  ·rename_i h0
   refine zc3 (by first | decide | simp) fun tp H5 ftp e5 htp=>?_
   walk_at "x"
   rename_i H6 b6 h6
   refine⟨_,_,_,rfl,h6,?_,by walk_at "h"⟩
   rw[yC,yl,yA]
   refine IsFr.app ((hus.same e5).but b6) (b6.tup htp) g3 (hnn.2 (by omega)) ?_ (yc g6 (by omega))
   exact yc (zfg (n:=480000) (yc g5 (by omega)) (yc (zbN zp g6) (by omega))) (by omega)
 ·rintro σ' H4 ⟨us,f6,f7,rfl,hma4,hus,e4⟩
  walk_at "x"
  exact k _ _ us (Same.none (Same.none fma e2) e1) (e1.trans (e2.trans e4)) hma4 (by rw[hpl,<- hwl];exact hus)
theorem zd2(T:Txt K mg):FnOk P w K mg base (CXF P w) 4 T.d__law_greatest.a T.d__law_greatest.fd ["_law_sheet_here", "_law_purses_here", "_law_lays"] (zgE K):=by
 refine T.d__law_greatest.F.okN zf4 (fun vs H Q E h=>?_) (fun cdv A outer s H vs Q E hr h=>?_)
 ·obtain⟨a,u,y,n,ds,ps,W,P,k,ws,rfl,_⟩:=h;rfl
 obtain⟨a,u,y,n,ds,ps,W,P,kk,ws,rfl,hSh,hu,hy,hq,C,hf,ok,k⟩:=h
 refine⟨_,(zj (zX (zbw (show PT _ _ (zbL K _)from zaj (zA (zin T) (hr.mono (by decide)) rfl T.d__law_parts.m T.d__law_parts.F.kp T.d__law_parts.b .nil (zG zF) (ze (pv 2) (ze (zR (show CallR _ _ (zaO K)from zW) rfl T.z_len BT.len (ze (pv 1) zh)) zh))) (fun _=>rfl)))
 (zm (zH za2))
 zT)
 (zj (zX (zbw (show PT _ _ (zbL K _)from zaj (zA (zjy T) (hr.mono (by decide)) rfl T.d__law_same.m T.d__law_same.F.kp T.d__law_same.b .nil (zG zF) (ze (pv 2) (ze (zA (zjc T) (hr.mono (by decide)) rfl T.d__law_next.m T.d__law_next.F.kp T.d__law_next.b .nil (zG zF) (ze (pv 0) (ze (pv 1) (ze (pv 2) zh)))) zh))) (fun _=>rfl)))
 (zm (zH za2))
 zT)
 (zm (zH (zA (zfT T) (hr.mono (by decide)) rfl T.d__law_all_reach.m T.d__law_all_reach.F.kp T.d__law_all_reach.b .nil (zG zF) (ze (pv 0) (ze (zA (zeX T) (hr.mono (by decide)) rfl T.d__law_stand.m T.d__law_stand.F.kp T.d__law_stand.b .nil (zG zF) (ze (pv 0) (ze (pv 2) zh))) zh))))))),?_⟩
 refine zN (σ0:=[some (.ref a),some (.ref u),some (.ref y)]) rfl ?_
 have hwide:=C.wide ok
 have hnext:=C.next ok hf
 have hql:(zba n ds ps kk).length=n:=zdm
 have hpl:=C.pl
 have hpz:=C.pz
 have h64:=C.hl
 have n9:=C.n9
 have hdn:∀d∈ds,zM n d/\d.a<=1000000000000:=fun d hm=>⟨C.hd d hm,C.ha d hm⟩
 have hpv:((ps.map V.int).length:Nat)=n:=by rw[yh];exact hpl
 have hqn:(((zba n ds ps kk).length:Nat):Int)=((ps.map V.int).length:Nat):=by omega
 have hst:=zfr (n:=n) (k:=kk) (ds:=ds) (ps:=ps)
 obtain⟨qs,eqs⟩:∃qs,qs=zba n ds ps kk:=⟨_,rfl⟩
 rw[<- eqs]at hwide hnext hql hqn hq hst
 have hdq:∀d∈ds,zM (qs.length:Int) d/\d.a<=1000000000000:=by rw[hql];exact hdn
 have hpq:ps.length=qs.length:=by omega
 have hq9:qs.length<=9:=by omega
 have hsq:∀q∈qs,SzQ q 60000 60000:=fun q hq=>(hwide q hq).2.mono (by decide) (by decide)
 walk_at "x"
 rename_i nx H7 vs7 fnx e7 hnx hfr
 rw[hnext]at hfr
 have hwf:IsFr 10000000 H7 ws qs:=((hq.same e7).fr (z:=7051) fun q hq=>(hwide q hq).2.mono (by decide) (by decide)).mono (by decide)
 have hy7:=e7.at hy
 have hSh7:=hSh.same e7
 refine zb1 ?_
 refine zh7 hy7 hnx hwf hfr (by omega) ?_
 walk_at "x"
 rename_i st H8 fst e8 hst8
 rw[hst]at hst8
 refine zb1 ?_
 refine zjA (hSh7.same e8) hst8 n9 (fun d h=>(hdn d h).1) h64 hf.1 ?_
 intro H9 e9
 walk_at "x"
 exact k _ (e7.trans (e8.trans e9))
def ziB(K:Fg):Sp:=fun vs H Q _=>∃(a:Addr) (ns:List Int),vs=[.ref a]/\SqL K H a (ns.map V.int)/\ns.length<=63/\Light ns/\∀H',Q (.bl true) H'
theorem zp9(T:Txt K mg):FnOk P w K mg base (CXF P w) 9 T.d_law.a T.d_law.fd ["_law_script"] (ziB K):=by
 refine T.d_law.F.okN sc_law (fun vs H Q E h=>?_) (fun cdv A outer s H vs Q E hr h=>?_)
 ·obtain⟨a,ns,rfl,_⟩:=h;rfl
 obtain⟨a,ns,rfl,hS,h63,hz,k⟩:=h
 refine⟨_,(zj (zE (i:=1) sc_law.nd rfl (Or.inl rfl) (zA (zjl T) (hr.mono (by decide)) rfl T.d__law_many.m T.d__law_many.F.kp T.d__law_many.b .nil (zG zF) (ze (pv 0) zh)))
 (zj (zE (i:=2) sc_law.nd rfl (Or.inl rfl) (zA (zik T) (hr.mono (by decide)) rfl T.d__law_count.m T.d__law_count.F.kp T.d__law_count.b .nil (zG zF) (ze (pv 0) (ze (pv 1) zh))))
 (zj (zE (i:=3) sc_law.nd rfl (Or.inl rfl) (zA (zjM T) (hr.mono (by decide)) rfl T.d__law_most.m T.d__law_most.F.kp T.d__law_most.b .nil (zG zF) (ze (pv 0) (ze (pv 1) (ze (pv 2) zh)))))
 (zj (zE (i:=4) sc_law.nd rfl (Or.inl rfl) (zA (zio T) (hr.mono (by decide)) rfl T.d__law_sheet.m T.d__law_sheet.F.kp T.d__law_sheet.b .nil (zG zF) (ze (pv 0) (ze (pv 1) (ze (pv 2) (ze (pv 3) zh))))))
 (zj (zE (i:=5) sc_law.nd rfl (Or.inl rfl) (zA (zg7 T) (hr.mono (by decide)) rfl T.d__law_purses.m T.d__law_purses.F.kp T.d__law_purses.b .nil (zG zF) (ze (pv 0) (ze (pv 1) (ze (pv 3) zh)))))
 (zj (zE (i:=6) sc_law.nd rfl (Or.inl rfl) (zA (zdP T) (hr.mono (by decide)) rfl T.d_cleared.m T.d_cleared.F.kp T.d_cleared.b .nil (zG zF) (ze (zaR (show CallR _ _ (zaT K)from zaI) rfl T.z_list BT.list (ze (pv 4) zh)) (ze (zaR (show CallR _ _ (zaT K)from zaI) rfl T.z_list BT.list (ze (pv 5) zh)) zh))))
 (zj (zX (zbw (show PT _ _ (zbL K _)from zaj (zA (zd2 T) (hr.mono (by decide)) rfl T.d__law_greatest.m T.d__law_greatest.F.kp T.d__law_greatest.b .nil (zG zF) (ze (pv 4) (ze (pv 5) (ze (pv 6) zh)))) (fun _=>rfl)))
 (zm (zH za2))
 zT)
 (zj (zX (zK (show OpR _ (compareOp .IsNot) zlF from zo9) (zA (zg9 T) (hr.mono (by decide)) rfl T.d_is_clearing.m T.d_is_clearing.F.kp T.d_is_clearing.b .nil (zG zF) (ze (zaR (show CallR _ _ (zaT K)from zaI) rfl T.z_list BT.list (ze (pv 4) zh)) (ze (zaR (show CallR _ _ (zaT K)from zaI) rfl T.z_list BT.list (ze (pv 5) zh)) (ze (zaR (show CallR _ _ (zaT K)from zaI) rfl T.z_list BT.list (ze (pv 6) zh)) zh)))) za2 (nomark _))
 (zm (zH za2))
 zT)
 (zj (zE (i:=7) sc_law.nd rfl (Or.inl rfl) (zA (zeX T) (hr.mono (by decide)) rfl T.d__law_stand.m T.d__law_stand.F.kp T.d__law_stand.b .nil (zG zF) (ze (pv 4) (ze (pv 6) zh))))
 (zj (zE (i:=8) sc_law.nd rfl (Or.inl rfl) (zA (znW T) (hr.mono (by decide)) rfl T.d_roads.m T.d_roads.F.kp T.d_roads.b .nil (zG zF) (ze (zaR (show CallR _ _ (zaT K)from zaI) rfl T.z_list BT.list (ze (pv 4) zh)) (ze (zaR (show CallR _ _ (zaT K)from zaI) rfl T.z_list BT.list (ze (pv 5) zh)) zh))))
 (zj (zX (PW.pt (zcT (zbw (show PT _ _ (zbL K _)from zaj (zR (show CallR _ _ (zcU K)from zc2) rfl T.z_isinstance BT.isinstance (ze (pv 8) (ze (zdR (v:=.ty "list") rfl T.z_list BT.list rfl) zh))) (fun _=>rfl))) (zdG (zK (show OpR _ (compareOp .NotEq) (zcx K)from zcF hr.units) (zR (show CallR _ _ (zaO K)from zW) rfl T.z_len BT.len (ze (pv 8) zh)) (pv 1) (nomark _)))))
 (zm (zH za2))
 zT)
 (zj (zau PassesOwn.never rfl (zaS rfl T.z_range (ze (pv 1) zh)) (zU (i:=9) sc_law.nd rfl (Or.inl rfl))
 (zm (zX (zbw (show PT _ _ (zbL K _)from zaj (zA (zil T) (hr.mono (by decide)) rfl T.d__law_leads.m T.d__law_leads.F.kp T.d__law_leads.b .nil (zG zF) (ze (pv 4) (ze (pv 7) (ze (pv 9) (ze (zB (show IxR _ (rIx K)from zy) (pv 8) (pv 9) (fun _ _=>rfl)) zh))))) (fun _=>rfl)))
 (zm (zH za2))
 zT)))
 (zj (zE (i:=10) sc_law.nd rfl (Or.inl rfl) (zeG (show SlR _ (zfo K)from zfN) (pv 4) (zfE zi) zfO))
 (zj (zX (zbw (show PT _ _ (zbL K _)from zaj (zA (zd2 T) (hr.mono (by decide)) rfl T.d__law_greatest.m T.d__law_greatest.F.kp T.d__law_greatest.b .nil (zG zF) (ze (pv 10) (ze (pv 5) (ze (zA (zdP T) (hr.mono (by decide)) rfl T.d_cleared.m T.d_cleared.F.kp T.d_cleared.b .nil (zG zF) (ze (zaR (show CallR _ _ (zaT K)from zaI) rfl T.z_list BT.list (ze (pv 10) zh)) (ze (zaR (show CallR _ _ (zaT K)from zaI) rfl T.z_list BT.list (ze (pv 5) zh)) zh))) zh)))) (fun _=>rfl)))
 (zm (zH za2))
 zT)
 (zm (zH (zcO (show OpR _ (compareOp .Eq) (zaN K)from zaF hr.units) (zA (zdP T) (hr.mono (by decide)) rfl T.d_cleared.m T.d_cleared.F.kp T.d_cleared.b .nil (zG zF) (ze (zaR (show CallR _ _ (zaT K)from zaI) rfl T.z_list BT.list (ze (pv 4) zh)) (ze (zaR (show CallR _ _ (zaT K)from zaI) rfl T.z_list BT.list (ze (pv 5) zh)) zh))) (pv 6) (nomark _)))))))))))))))))),?_⟩
 refine zN (σ0:=[some (.ref a),none,none,none,none,none,none,none,none,none,none]) rfl ?_
 walk_at "x"
 rename_i n n0 n1 c c0 c1 nc m m0 m1 mc sh H1 xs ds fsh e1 hsh ht hds hdl hda pu H2 ps fpu e2 hpu hpl hps hs H3 fhs e3 hhs hu H4 fhu e4 hhu
 have hnn:((n.toNat:Nat):Int)=n:=by omega
 have hdl64:ds.length<=64:=by omega
 have hdsn:∀d∈ds,zM (n.toNat:Int) d/\d.a<=1000000000000:=by rw[hnn];exact hds
 have hdo:∀d∈ds,zM (n.toNat:Int) d:=fun d h=>(hdsn d h).1
 have hcase:(∀d∈ds,d.a<=12)\/ds.length<=12\/(n.toNat<=6/\ds.length<=16):=by
  by_cases z:m=0
  ·exact .inl (hda z)
  ·rcases mc z with h | h
   ·right;left;omega
   ·right;right;omega
 obtain⟨W,P,C⟩:=zhK (n:=n.toNat) (by omega) hdsn hdl64 hpl hps hcase
 have hS4:IsSh K H4 hs ds:=⟨xs,SqL.of (e4.at hhs),ht.same ((e2.trans e3).trans e4)⟩
 refine zb1 ?_
 refine zdx hS4 hhu C ?_
 intro la H5 wl kk fla e5 hla hwl hfin hnf hok
 have hwide:=C.wide hok
 have hql:(zba n.toNat ds ps kk).length=n.toNat:=zdm
 have hqn:(((zba n.toNat ds ps kk).length:Nat):Int)=n:=by omega
 have hdq:∀d∈ds,zM ((zba n.toNat ds ps kk).length:Int) d/\d.a<=1000000000000:=by rw[hqn];exact hds
 have hsq:∀q∈zba n.toNat ds ps kk,SzQ q 60000 60000:=fun q hq=>(hwide q hq).2.mono (by decide) (by decide)
 have e25:=(e3.trans e4).trans e5
 have hsh5:IsSh K H5 sh ds:=⟨xs,SqL.of ((e2.trans e25).at hsh),ht.same (e2.trans e25)⟩
 have hpu5:=e25.at hpu
 clear e25
 walk_at "x"
 refine zfk hsh5 hpu5 hla hwl C hfin hok ?_
 intro H5a e5a
 have hsh5a:=hsh5.same e5a
 have hpu5a:=e5a.at hpu5
 have hla5a:=e5a.at hla
 have hwl5a:=hwl.same e5a
 have hT:sz ((zcV ds:Nat):Int)<=750:=zpK (zof (n:=3) ⟨hda,fun z=>by rcases mc z with h | h<;>omega,hdl⟩ (fun d h=>⟨(hds d h).1.2.2.2.2.2.2.2.1,(hds d h).2⟩) c0 c1 m0 (by decide) (by decide) (fun _=>by decide))
 have hps1:SqL K H5a sh xs:=SqL.of (((e2.trans e3).trans (e4.trans (e5.trans e5a))).at hsh)
 walk_at "x"
 rename_i s5 H5b fs5 e5b hs5 u5 H5c fu5 e5c hu5 l5 H5d fl5 e5d hl5
 have e5ad:=(e5b.trans e5c).trans e5d
 have hS5d:IsSh K H5d s5 ds:=⟨xs,SqL.of ((e5c.trans e5d).at hs5),ht.same ((((e2.trans e3).trans e4).trans (e5.trans e5a)).trans e5ad)⟩
 refine zb1 ?_
 refine zmC hS5d (e5d.at hu5) hl5 (hwl5a.same e5ad) hdq hdl64 (show(zba n.toNat ds ps kk).length<=9 by omega) (show ps.length=(zba n.toNat ds ps kk).length by omega) hps hsq (fun _=>C.deep hT hok) ?_ ?_
 ·intro H5e e5e _
  have e5ae:=e5ad.trans e5e
  have hsh5e:=hsh5a.same e5ae
  have hpu5e:=e5ae.at hpu5a
  have hla5e:=e5ae.at hla5a
  have hwl5e:=hwl5a.same e5ae
  clear e5ad e5ae
  walk_at "x"
  refine zqR ?_
  rw[show(!decide (true=true))=false from rfl]
  walk_at "x"
  refine ze0 hsh5e hla5e hwl5e hdq hdl64 (show(zba n.toNat ds ps kk).length<=9 by omega) hsq ?_
  intro st H6 fst e6 hst
  rw[zfr]at hst
  have hsh6:=hsh5e.same e6
  have hpu6:=e6.at hpu5e
  have hla6:=e6.at hla5e
  have hwl6:=hwl5e.same e6
  have e26:Same H1 H6:=((e2.trans e3).trans e4).trans ((e5.trans e5a).trans (((e5b.trans e5c).trans e5d).trans (e5e.trans e6)))
  have hxs6:H6 sh=some (.lst xs):=e26.at hsh
  have ht6:=ht.same e26
  clear e26
  walk_at "x"
  rename_i s1 H7 fs1 e7 hs1 u1 H8 fu1 e8 hu1
  have hS8:IsSh K H8 s1 ds:=⟨xs,SqL.of (e8.at hs1),ht6.same (e7.trans e8)⟩
  refine zb1 ?_
  refine zmd hS8 hu1 C ?_
  intro to H10 as rds on arr τ k2 fto e10 hto hL hFr hnd hR AB all hfin2 hnf2
  have ek:kk=k2:=zjX hfin hnf hfin2 hnf2
  subst ek
  have e610:=(e7.trans e8).trans e10
  have hsh10:=hsh6.same e610
  have hxs10:=e610.at hxs6
  have ht10:=ht6.same e610
  have hpu10:=e610.at hpu6
  have hst10:=e610.at hst
  have hla10:=e610.at hla6
  have hwl10:=hwl6.same e610
  clear e610
  have hal0:as.length=n.toNat:=by rw[hL.1];exact hR.len
  have hal:(as.map V.ref).length=n.toNat:=by rw[yh];exact hal0
  walk_at "x"
  all_goals first | (exfalso;omega) | skip
  refine zdC (n:=n.toNat) (fun i σ' H'=>∃f9:Option V,σ'=[some (.ref a),some (.int n),some (.int c),some (.int m),some (.ref sh),some (.ref pu),some (.ref la),some (.ref st),some (.ref to),f9,none]/\Same H10 H') ⟨_,rfl,Same.refl _⟩ ?_ ?_
  ·rintro i σ' H11 hi ⟨f9,rfl,e11⟩
   have ei:(0:Int)+(i:Int)=i:=by omega
   rw[ei]
   obtain⟨b,hb⟩:=zO (show i<as.length by omega)
   obtain⟨rd,hrd,hbr⟩:=(hL.same e11).2 i b hb
   obtain⟨hro,r9⟩:=hR.road i rd hrd
   have hat:atI (as.map V.ref) (i:Int)=some (.ref b):=zak (by rw[yf,hb];rfl)
   have hto11:=e11.at hto
   walk_at "x"
   refine zmx (hsh10.same e11) (e11.at hst10) hbr (by omega) hi hdo hdl64 AB all hro r9 ?_
   intro H12 e12
   walk_at "x"
   exact⟨_,rfl,e11.trans e12⟩
  rintro σ' H11 ⟨f9,rfl,e11⟩
  have hsh11:=hsh10.same e11
  have hxs11:=e11.at hxs10
  have ht11:=ht10.same e11
  have hpu11:=e11.at hpu10
  have hla11:=e11.at hla10
  have hwl11:=hwl10.same e11
  walk_at "x"
  rename_i ls H12 fls e12 hls s2 H13 fs2 e13 hs2 u2 H14 fu2 e14 hu2
  have ecut:zd3 xs (some 1) none=xs.drop 1:=zmp
  rw[ecut]at hls hs2
  have htl12:IsTs zg2 H12 (xs.drop 1) (ds.drop 1):=(ht11.same e12).drop 1
  obtain⟨es,ees⟩:∃es,es=ds.drop 1:=⟨_,rfl⟩
  rw[<- ees]at htl12
  have hmem:∀d∈es,d∈ds:=fun d hm=>List.mem_of_mem_drop (ees▸hm)
  have hel:es.length<=ds.length:=by rw[ees,List.length_drop];omega
  obtain⟨W',P',C'⟩:=zhK (n:=n.toNat) (ds:=es) (by omega) (fun d h=>hdsn d (hmem d h)) (by omega) hpl hps (by
   rcases hcase with h | h | h
   ·exact .inl fun d hm=>h d (hmem d hm)
   ·right;left;omega
   ·right;right;omega)
  have hpu12:=e12.at hpu11
  have hS14:IsSh K H14 s2 es:=⟨_,SqL.of (e14.at hs2),htl12.same (e13.trans e14)⟩
  refine zb1 ?_
  refine zdx hS14 hu2 C' ?_
  intro lb H15 wb kb flb e15 hlb hwb hfinb hnfb hokb
  have e1115:Same H12 H15:=(e13.trans e14).trans e15
  have hls15:IsSh K H15 ls es:=⟨_,SqL.of (e1115.at hls),htl12.same e1115⟩
  walk_at "x"
  refine zfk hls15 (e1115.at hpu12) hlb hwb C' hfinb hokb ?_
  intro H16 e16
  have e1116:Same H11 H16:=e12.trans (e1115.trans e16)
  have hxs16:=e1116.at hxs11
  have ht16:=ht11.same e1116
  have hpu16:=e1116.at hpu11
  have hla16:=e1116.at hla11
  have hwl16:=hwl11.same e1116
  clear e1115 e1116
  walk_at "x"
  rename_i s3 H17 fs3 e17 hs3 u3 H18 fu3 e18 hu3
  have hS18:IsSh K H18 s3 ds:=⟨xs,SqL.of (e18.at hs3),ht16.same (e17.trans e18)⟩
  refine zb1 ?_
  refine zdx hS18 hu3 C ?_
  intro lc H19 wc kc flc e19 hlc hwc hfinc hnfc hokc
  have ekc:kk=kc:=zjX hfin hnf hfinc hnfc
  subst ekc
  have e1619:=(e17.trans e18).trans e19
  have hla19:=e1619.at hla16
  have hwl19:=hwl16.same e1619
  clear e1619
  walk_at "x"
  exact k _
 ·intro H5e e5e hno
  exact absurd (C.isClr hok hfin) hno
end
theorem fin{P:Program}{w:World}{K:Fg}{mg:Str->Option Value}{fa:Addr}(T:Txt K mg)(hfa:mg "law" = some (.ref fa)) :
  ∃fd:FuncData,(∀(s:Shared) (v:Value),BindsTo s fd ⟨[v],[]⟩ [("_law_script",v)])/\∀base:Heap,K.In base->base.Ns mainGlobals mg->FnOk P w K mg base (CXF P w) 9 fa fd ["_law_script"] (ziB K):=by
 have e:=hfa.symm.trans T.d_law.m
 cases e
 exact⟨_,T.bl_law,fun base _ _=>zp9 T⟩
theorem walk{l:PySem.W.OpenLaw}{q:Program}{loose:List Str}{XP:(Str->Option Value)->Heap->Prop}{YP:World->Heap->Prop}{d:DefRec}{K:Params->Fg}(hn:l.most=some 63)(hdf:d.params.defaults=[])
  (hY:∀(w:World) (h:Heap),YP w h->(K w.params).In h)
  (F:∀(w:World) (mg:Str->Option Value) (fa:Addr) (h:Heap),(K w.params).In h->h.Ns mainGlobals mg->mg d.name=some (.ref fa) ->
   ∃fd:FuncData,(∀(s:Shared) (u:Value),BindsTo s fd ⟨[u],[]⟩ [("_law_script",u)])/\∀base:Heap,(K w.params).In base->base.Ns mainGlobals mg->FnOk l.prog w (K w.params) mg base (CXF l.prog w) 9 fa fd ["_law_script"] (ziB (K w.params))) :
  PySem.W.WalkO q loose XP YP l.row.toRowW d [] (fun f vs=>PySem.call f vs):=
 Internal.walk_ofZ (n:=63) (k:=9) (x := "_law_script") (CX:=fun w=>CXF l.prog w) (sp:=fun w=>ziB (K w.params)) hn (by decide) hdf ⟨rfl,by decide,by decide⟩ hY F (fun _ _ a ns hl hz _ hS=>⟨a,ns,rfl,hS,hl,hz,fun _=>rfl⟩) fun _ H s e s' z=>zF _ H s e s' z
end Internal.K
theorem PySem.W.Fast.tw656547981495417329:True:=trivial
theorem PySem.W.Fast.tw10648521261954886283:True:=trivial
theorem PySem.W.Fast.tw1207676811813960472:True:=trivial
theorem PySem.W.Fast.tw1512469463351724225:True:=trivial
theorem PySem.W.Fast.tw13771059157684723605:True:=trivial
theorem PySem.W.Fast.tw4543911014895490966:True:=trivial
theorem PySem.W.Fast.tw15566734382228165024:True:=trivial
theorem PySem.W.Fast.tw12858907554685702515:True:=trivial
theorem PySem.W.Fast.tw10359785643923267080:True:=trivial
theorem PySem.W.Fast.tw2762126093444570950:True:=trivial
theorem PySem.W.Fast.tw18184095473921178747:True:=trivial
theorem PySem.W.Fast.tw17811953756510584216:True:=trivial
theorem PySem.W.Fast.tw7769199387734914202:True:=trivial
theorem PySem.W.Fast.tw12935672940490258551:True:=trivial
theorem PySem.W.Fast.tw8231390873860387169:True:=trivial
theorem PySem.W.Fast.tw16999075854464092647:True:=trivial
theorem PySem.W.Fast.tw3717520799515899856:True:=trivial
theorem PySem.W.Fast.tw7668230126762283155:True:=trivial
theorem PySem.W.Fast.tw11680666748367222628:True:=trivial
theorem PySem.W.Fast.tw10459381260165344421:True:=trivial
theorem PySem.W.Fast.tw17232125539552286643:True:=trivial
theorem PySem.W.Fast.tw2538668578605199805:True:=trivial
theorem PySem.W.Fast.tw6588885019374887858:True:=trivial
theorem PySem.W.Fast.tw16695704815934637378:True:=trivial
theorem PySem.W.Fast.tw1619646013496377397:True:=trivial
theorem PySem.W.Fast.tw36197900275668873:True:=trivial
theorem PySem.W.Fast.tw11463342893644885098:True:=trivial
theorem PySem.W.Fast.tw4231805717026562108:True:=trivial
open PySem PySem.W PyProof.Rows
set_option maxRecDepth 100000 in
set_option maxHeartbeats 0 in
theorem PySem.Challenge.cw_quits_k43_whole_the_greatest_holds : PySem.Challenge.rw_quits_k43_whole_the_greatest.Holds := by
 w_on;o_law;k_head;(case hw=>w_witness2)
 k_fill
 refine Internal.K.walk (l:=PySem.Challenge.rw_quits_k43_whole_the_greatest) rfl rfl (fun w h Y=>PySem.W.kIn_of Y) ?F
 case F=>
  intro w mg fa h KX G hmg
  refine Internal.K.fin ?T hmg
  case T=>
   refine' Internal.K.txt_mk KX G ?m_NoAnswer ?m_NoPart ?hd_NoAnswer ?ty_NoAnswer ?hd_NoPart ?ty_NoPart ?sn_ ?tk_ ?x_NoAnswer ?ga_NoAnswer ?gn_NoAnswer ?be_NoAnswer ?fa_NoAnswer ?mo_NoAnswer ?s_NoAnswer_NoAnswer ?s_NoAnswer_NoPart ?n_NoAnswer_NoPart ?x_NoPart ?ga_NoPart ?gn_NoPart ?be_NoPart ?fa_NoPart ?mo_NoPart ?s_NoPart_NoAnswer ?n_NoPart_NoAnswer ?s_NoPart_NoPart ?a_divisor ?l_divisor ?c_divisor ?k_divisor ?a_part ?l_part ?c_part ?k_part ?a_plus ?l_plus ?c_plus ?k_plus ?a_minus ?l_minus ?c_minus ?k_minus ?a_times ?l_times ?c_times ?k_times ?a_over ?l_over ?c_over ?k_over ?a_under ?l_under ?c_under ?k_under ?a_least ?l_least ?c_least ?k_least ?a_total ?l_total ?c_total ?k_total ?a_owes ?l_owes ?c_owes ?k_owes ?a_ranked ?l_ranked ?c_ranked ?k_ranked ?a_paid ?l_paid ?c_paid ?k_paid ?a_shares_paid ?l_shares_paid ?c_shares_paid ?k_shares_paid ?a_stop_of ?l_stop_of ?c_stop_of ?k_stop_of ?a_got ?l_got ?c_got ?k_got ?a_is_clearing ?l_is_clearing ?c_is_clearing ?k_is_clearing ?a_are_lays ?l_are_lays ?c_are_lays ?k_are_lays ?a_next_lays ?l_next_lays ?c_next_lays ?k_next_lays ?a_solved ?l_solved ?c_solved ?k_solved ?a_whole_row ?l_whole_row ?c_whole_row ?k_whole_row ?a_with_first ?l_with_first ?c_with_first ?k_with_first ?a_swept ?l_swept ?c_swept ?k_swept ?a_swept_row ?l_swept_row ?c_swept_row ?k_swept_row ?a_cleared ?l_cleared ?c_cleared ?k_cleared ?a_flows_of ?l_flows_of ?c_flows_of ?k_flows_of ?a_closed_circle ?l_closed_circle ?c_closed_circle ?k_closed_circle ?a_reach_of ?l_reach_of ?c_reach_of ?k_reach_of ?a_balances ?l_balances ?c_balances ?k_balances ?a_circling_rates ?l_circling_rates ?c_circling_rates ?k_circling_rates ?a_opening_rates ?l_opening_rates ?c_opening_rates ?k_opening_rates ?a_rates_of ?l_rates_of ?c_rates_of ?k_rates_of ?a_least_room ?l_least_room ?c_least_room ?k_least_room ?a_grown ?l_grown ?c_grown ?k_grown ?a_stops ?l_stops ?c_stops ?k_stops ?a_roads ?l_roads ?c_roads ?k_roads ?a_first_dues ?l_first_dues ?c_first_dues ?k_first_dues ?a_road_from ?l_road_from ?c_road_from ?k_road_from ?a__law_cell ?l__law_cell ?c__law_cell ?k__law_cell ?a__law_draw ?l__law_draw ?c__law_draw ?k__law_draw ?a__law_great ?l__law_great ?c__law_great ?k__law_great ?a__law_many ?l__law_many ?c__law_many ?k__law_many ?a__law_count ?l__law_count ?c__law_count ?k__law_count ?a__law_most ?l__law_most ?c__law_most ?k__law_most ?a__law_amount ?l__law_amount ?c__law_amount ?k__law_amount ?a__law_due ?l__law_due ?c__law_due ?k__law_due ?a__law_sheet ?l__law_sheet ?c__law_sheet ?k__law_sheet ?a__law_purse ?l__law_purse ?c__law_purse ?k__law_purse ?a__law_purses ?l__law_purses ?c__law_purses ?k__law_purses ?a__law_whole ?l__law_whole ?c__law_whole ?k__law_whole ?a__law_divisor ?l__law_divisor ?c__law_divisor ?k__law_divisor ?a__law_is_part ?l__law_is_part ?c__law_is_part ?k__law_is_part ?a__law_parts ?l__law_parts ?c__law_parts ?k__law_parts ?a__law_sums ?l__law_sums ?c__law_sums ?k__law_sums ?a__law_got ?l__law_got ?c__law_got ?k__law_got ?a__law_next ?l__law_next ?c__law_next ?k__law_next ?a__law_same ?l__law_same ?c__law_same ?k__law_same ?a__law_stand ?l__law_stand ?c__law_stand ?k__law_stand ?a__law_leads ?l__law_leads ?c__law_leads ?k__law_leads ?a__law_all_reach ?l__law_all_reach ?c__law_all_reach ?k__law_all_reach ?a__law_greatest ?l__law_greatest ?c__law_greatest ?k__law_greatest ?a_law ?l_law ?c_law ?k_law ?w_abs ?w_all ?w_bool ?w_enumerate ?w_int ?w_isinstance ?w_len ?w_list ?w_max ?w_min ?w_range ?w_sum ?w_tuple ?w_zip
   (case m_NoAnswer|m_NoPart|hd_NoAnswer|ty_NoAnswer|hd_NoPart|ty_NoPart|sn_|tk_=>k_is)
   (case x_NoAnswer=>k_exc)
   (case ga_NoAnswer|gn_NoAnswer|be_NoAnswer|fa_NoAnswer|mo_NoAnswer|s_NoAnswer_NoAnswer|s_NoAnswer_NoPart=>k_is)
   (case n_NoAnswer_NoPart=>decide)
   (case x_NoPart=>k_exc)
   (case ga_NoPart|gn_NoPart|be_NoPart|fa_NoPart|mo_NoPart|s_NoPart_NoAnswer=>k_is)
   (case n_NoPart_NoAnswer=>decide)
   (case s_NoPart_NoPart|a_divisor|l_divisor|c_divisor|k_divisor|a_part|l_part|c_part|k_part|a_plus|l_plus|c_plus|k_plus|a_minus|l_minus|c_minus|k_minus|a_times|l_times|c_times|k_times|a_over|l_over|c_over|k_over|a_under|l_under|c_under|k_under|a_least|l_least|c_least|k_least|a_total|l_total|c_total|k_total|a_owes|l_owes|c_owes|k_owes|a_ranked|l_ranked|c_ranked|k_ranked|a_paid|l_paid|c_paid|k_paid|a_shares_paid|l_shares_paid|c_shares_paid|k_shares_paid|a_stop_of|l_stop_of|c_stop_of|k_stop_of|a_got|l_got|c_got|k_got|a_is_clearing|l_is_clearing|c_is_clearing|k_is_clearing|a_are_lays|l_are_lays|c_are_lays|k_are_lays|a_next_lays|l_next_lays|c_next_lays|k_next_lays|a_solved|l_solved|c_solved|k_solved|a_whole_row|l_whole_row|c_whole_row|k_whole_row|a_with_first|l_with_first|c_with_first|k_with_first|a_swept|l_swept|c_swept|k_swept|a_swept_row|l_swept_row|c_swept_row|k_swept_row|a_cleared|l_cleared|c_cleared|k_cleared|a_flows_of|l_flows_of|c_flows_of|k_flows_of|a_closed_circle|l_closed_circle|c_closed_circle|k_closed_circle|a_reach_of|l_reach_of|c_reach_of|k_reach_of|a_balances|l_balances|c_balances|k_balances|a_circling_rates|l_circling_rates|c_circling_rates|k_circling_rates|a_opening_rates|l_opening_rates|c_opening_rates|k_opening_rates|a_rates_of|l_rates_of|c_rates_of|k_rates_of|a_least_room|l_least_room|c_least_room|k_least_room|a_grown|l_grown|c_grown|k_grown|a_stops|l_stops|c_stops|k_stops|a_roads|l_roads|c_roads|k_roads|a_first_dues|l_first_dues|c_first_dues|k_first_dues|a_road_from|l_road_from|c_road_from|k_road_from|a__law_cell|l__law_cell|c__law_cell|k__law_cell|a__law_draw|l__law_draw|c__law_draw|k__law_draw|a__law_great|l__law_great|c__law_great|k__law_great|a__law_many|l__law_many|c__law_many|k__law_many|a__law_count|l__law_count|c__law_count|k__law_count|a__law_most|l__law_most|c__law_most|k__law_most|a__law_amount|l__law_amount|c__law_amount|k__law_amount|a__law_due|l__law_due|c__law_due|k__law_due|a__law_sheet|l__law_sheet|c__law_sheet|k__law_sheet|a__law_purse|l__law_purse|c__law_purse|k__law_purse|a__law_purses|l__law_purses|c__law_purses|k__law_purses|a__law_whole|l__law_whole|c__law_whole|k__law_whole|a__law_divisor|l__law_divisor|c__law_divisor|k__law_divisor|a__law_is_part|l__law_is_part|c__law_is_part|k__law_is_part|a__law_parts|l__law_parts|c__law_parts|k__law_parts|a__law_sums|l__law_sums|c__law_sums|k__law_sums|a__law_got|l__law_got|c__law_got|k__law_got|a__law_next|l__law_next|c__law_next|k__law_next|a__law_same|l__law_same|c__law_same|k__law_same|a__law_stand|l__law_stand|c__law_stand|k__law_stand|a__law_leads|l__law_leads|c__law_leads|k__law_leads|a__law_all_reach|l__law_all_reach|c__law_all_reach|k__law_all_reach|a__law_greatest|l__law_greatest|c__law_greatest|k__law_greatest|a_law|l_law|c_law|k_law|w_abs|w_all|w_bool|w_enumerate|w_int|w_isinstance|w_len|w_list|w_max|w_min|w_range|w_sum|w_tuple|w_zip=>k_is)
