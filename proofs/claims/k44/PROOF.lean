import PyProof.Rows.All
import Wide.All
import OpenK.AllK
import Wide.FinOn
import Lean
import PyProof.EqAt
import PyProof.EqKinds
import PyProof.TupleCall
import PyProof.CompFree
import PyProof.Cells
import PyProof.EnumFor
import PyProof.EnumStmt
import PyProof.EnumMake
import PyProof.ZipIter
import PyProof.SumAny
import PyProof.MinMaxWalk
import PyProof.ConsumeWalk
import PyProof.Rows.EnumRows
import PyProof.Rows.FactsT2
import PyProof.Rows.SeqGen
import KE.KTryMore
import PyProof.ExcBaseAll.ValueError
import PyProof.ExcAttrAll.ValueError
import PyProof.ListRange
import PyProof.Rows.SortShell
import PyProof.Rows.SortWalk
import KE.LcSums
import KE.KMinBuiltin
import KE.RegKLenAny
import PyProof.Rows.CallKwBuiltin
import PyProof.Rows.SortRev
import PyProof.SeqI3
import PySem.Challenge.RW_quits_k44_safe_cut
set_option compiler.extract_closed false
set_option bootstrap.genMatcherCode false
set_option Elab.async false
set_option linter.all false
set_option maxRecDepth 100000
noncomputable section
abbrev Fg:=PySem.W.Frag
abbrev ya:=@List.length_append
abbrev yb:=@List.mem_of_getElem?
abbrev yc:=@List.length_map
abbrev ye:=@Nat.le_refl
abbrev yf:=@List.getElem?_map
abbrev yg:=@List.getD_eq_getElem?_getD
abbrev yh:=@Nat.le_trans
abbrev yi:=@List.getElem?_eq_getElem
abbrev yj:=@List.getElem?_eq_some_iff
abbrev yk:=@PySem.W.mg_of
abbrev yl:=@List.map_append
abbrev ym:=@Nat.succ_le_succ
abbrev yn:=@List.size_toArray
abbrev yo:=@Bool.false_ne_true
abbrev yp:=@Option.some.inj
abbrev yq:=@List.mem_append_right
abbrev yr:=@Nat.ne_of_lt
abbrev yt:=@Nat.lt_of_lt_of_le
abbrev yu:=@Rat.mul_nonneg
abbrev yv:=@List.mem_singleton
abbrev yw:=@Int.toNat_natCast
abbrev yx:=@List.map_congr_left
abbrev yy:=@List.length_range
abbrev yz:=@List.mem_cons
abbrev yA:=@List.getElem?_append_left
abbrev yB:=@List.lookup_cons
abbrev yC:=@List.mem_append_left
abbrev yD:=@Nat.zero_le
abbrev yE:=@List.getElem?_eq_none
abbrev yF:=@List.take_length
abbrev yG:=@List.range_succ
abbrev yH:=@Rat.mul_le_mul_of_nonneg_right
abbrev yI:=@List.getElem_of_mem
abbrev yJ:=@Rat.mul_le_mul_of_nonneg_left
abbrev yK:=@Rat.le_refl
abbrev yL:=@Nat.lt_or_eq_of_le
abbrev yM:=@Rat.le_trans
abbrev yN:=@List.mem_range
abbrev yO:=@PySem.W.mg_none_of
abbrev yP:=@Rat.intCast_mul
abbrev yQ:=@Nat.lt_irrefl
abbrev yR:=@List.mem_cons_of_mem
abbrev yS:=@Int.mul_ediv_cancel_left
abbrev yT:=@List.mem_append
abbrev yU:=@List.getElem?_append_right
abbrev yV:=@PySem.F.plainAttrs_list
abbrev yW:=@Nat.le_of_lt_succ
abbrev yX:=@List.eq_nil_of_length_eq_zero
abbrev yY:=@List.map_singleton
abbrev yZ:=@PySem.W.kia_one
abbrev y3:=@Bool.and_eq_true
abbrev y4:=@List.getElem?_range
abbrev y6:=@Int.mul_nonpos_of_nonneg_of_nonpos
abbrev y8:=@List.ext_getElem?
abbrev y9:=@List.length_singleton
abbrev yaa:=@List.mem_map
abbrev yab:=@PySem.F.slot_list_append
abbrev yac:=@PySem.F.type_list_append
abbrev yad:=@List.mem_cons_self
abbrev yae:=@PyProof.Rows.callWith_type1
abbrev yaf:=@List.map_cons
abbrev yag:=@Classical.em
abbrev yah:=@PySem.F.plain_min_loop
abbrev yai:=@Int.ediv_mul_cancel
abbrev yaj:=@List.length_drop
abbrev yak:=@Nat.lt_of_le_of_lt
abbrev yal:=@Int.ne_of_gt
abbrev yam:=@List.mem_filter
abbrev yan:=@List.append_nil
abbrev yao:=@List.length_set
abbrev yap:=@List.replicate_succ
abbrev yaq:=@Classical.epsilon_spec
abbrev yar:=@List.take_of_length_le
abbrev yas:=@List.not_mem_nil
abbrev yat:=@List.filter_append
abbrev yau:=@List.getElem?_eq_none_iff
abbrev yav:=@Rat.intCast_add
abbrev yaw:=@List.getElem?_set
abbrev yax:=@List.length_cons
abbrev yay:=@Int.le_of_lt
abbrev yaz:=@Int.mul_comm
abbrev yaA:=@Nat.not_lt_zero
abbrev yaB:=@Rat.intCast_neg
abbrev yaC:=@Int.mul_assoc
abbrev yaD:=@List.foldl_append
abbrev yaE:=@Classical.byContradiction
abbrev yaF:=@List.nodup_nil
abbrev yaG:=@Nat.lt_succ_self
abbrev yaH:=@PySem.mem_of_lookup
abbrev yaI:=@List.getElem?_replicate
abbrev yaJ:=@List.filter_cons_of_pos
abbrev yaK:=@List.filter_cons_of_neg
abbrev yaL:=@List.nodup_cons
abbrev yaM:=@Int.natAbs_natCast
abbrev yaN:=@Int.emod_lt_of_pos
abbrev yaO:=@Nat.eq_zero_or_pos
abbrev yaP:=@Int.mul_le_mul_of_nonneg_right
abbrev yaQ:=@List.getElem?_drop
abbrev yaR:=@Int.mul_pos
abbrev yaS:=@Int.le_refl
abbrev yaT:=@List.flatten_cons
abbrev yaU:=@Int.mul_left_comm
abbrev yaV:=@Rat.divInt_eq_div
abbrev yaW:=@Int.lt_or_le
abbrev yaX:=@Nat.mul_le_mul
abbrev yaY:=@List.getElem?_append
abbrev yaZ:=@Nat.pow_le_pow_right
abbrev ya0:=@Int.ediv_pos_of_pos_of_dvd
abbrev ya1:=@Ne.symm
abbrev ya2:=@Nat.pow_add
abbrev ya3:=@List.map_eq_nil_iff
abbrev ya4:=@Bool.eq_iff_iff
abbrev ya5:=@Nat.two_pow_pos
abbrev ya6:=@Int.emod_nonneg
abbrev ya7:=@List.mem_or_eq_of_mem_set
abbrev ya8:=@Nat.le_of_lt
abbrev ya9:=@Option.isSome_iff_exists
abbrev yba:=@Rat.num_divInt_den
abbrev ybb:=@Nat.lt_succ_of_lt
abbrev ybc:=@List.nodup_append
abbrev ybd:=@Nat.le_succ_of_le
abbrev ybe:=@List.range_succ_eq_map
abbrev ybf:=@PySem.F.entry_min_loop
abbrev ybg:=@List.take_succ_eq_append_getElem
abbrev ybh:=@List.length_filter_le
abbrev ybi:=@List.Nodup.length_le_of_subset
abbrev ybj:=@List.filterMap_cons
abbrev ybk:=@Rat.divInt_mul_left
abbrev ybl:=@List.length_pos_iff
abbrev ybm:=@Int.natAbs_mul
abbrev ybn:=@Int.gcd_eq_natAbs_gcd_natAbs
abbrev ybo:=@Int.mul_nonneg
abbrev ybp:=@Rat.mul_pos
abbrev ybq:=@Bool.false_eq_true
abbrev ybr:=@Rat.neg_divInt_neg
abbrev ybs:=@Nat.lt_or_gt_of_ne
abbrev ybt:=@Rat.div_mul_cancel
abbrev ybu:=@List.getElem?_concat_length
abbrev ybv:=@Rat.sub_eq_add_neg
abbrev ybw:=@List.all_cons
abbrev ybx:=@Nat.le_of_succ_le
abbrev yby:=@List.getElem_inj
abbrev ybz:=@List.length_take
abbrev ybA:=@Nat.pow_succ
abbrev ybB:=@List.all_eq_true
abbrev ybC:=@List.map_set
abbrev ybD:=@List.nodup_range
abbrev ybE:=@List.getElem_mem
abbrev ybF:=@Nat.mod_eq_of_lt
abbrev ybG:=@Rat.mul_comm
abbrev ybH:=@List.of_mem_zip
abbrev ybI:=@Bool.or_eq_true
abbrev ybJ:=@Rat.div_def
namespace Internal
theorem aut0(h:True:=by first | exact .inl rfl | exact .inr rfl | assumption):True:=h
theorem aut1(h:True:=by decide):True:=h
theorem aut2(h:True:=by rfl):True:=h
theorem aut3(h:True:=by intro _;rfl):True:=h
theorem aut4(h:True:=by intros;rfl):True:=h
theorem aut5(h:True:=by with_unfolding_all rfl):True:=h
open PySem PySem.Spec PyProof.Rows
abbrev Key:=Sum Int Str
def zol:Key->Value->Bool
 | .inl k,v=>Value.isInt k v
 | .inr x,v=>Value.isStrOf x v
def zrr(w:World):Key->Int
 | .inl k=>hashInt k
 | .inr x=>hashStr w x
theorem zaY:∀{k:Key} {v:Value},zol k v=true->(∃i t,k=Sum.inl i/\v=Value.int i t)\/(∃x t,k=Sum.inr x/\v=Value.str x t)
 | .inl i,v,h=>by
  obtain⟨t,e⟩:=Value.isInt_shape (k:=i) (v:=v) h
  exact .inl ⟨i,t,rfl,e⟩
 | .inr x,v,h=>by
  obtain⟨t,e⟩:=Value.isStrOf_shape (x:=x) (v:=v) h
  exact .inr ⟨x,t,rfl,e⟩
theorem zqr(a b:Int):decide ((Sum.inl a:Key)=Sum.inl b)=(a == b):=by
 by_cases e:a=b
 ·subst e;simp
 ·have h:¬(Sum.inl a:Key)=Sum.inl b:=fun q=>e (Sum.inl.inj q)
  rw[decide_eq_false h]
  exact(beq_eq_false_iff_ne.mpr e).symm
theorem zqd(a b:Str):decide ((Sum.inr a:Key)=Sum.inr b)=decide (a=b):=by
 by_cases e:a=b
 ·subst e;simp
 ·have h:¬(Sum.inr a:Key)=Sum.inr b:=fun q=>e (Sum.inr.inj q)
  rw[decide_eq_false h,decide_eq_false e]
theorem zp1(a:Int)(b:Str):decide ((Sum.inl a:Key)=Sum.inr b)=false:=decide_eq_false (fun q=>nomatch q)
theorem zpZ(a:Str)(b:Int):decide ((Sum.inr a:Key)=Sum.inl b)=false:=decide_eq_false (fun q=>nomatch q)
def zgI(prog:Program)(w:World):PySem.KeyKind prog w Key where
 is:=zol
 hash:=zrr w
 inj:=fun v a b ha hb=>by
  rcases zaY ha with⟨i,t,rfl,rfl⟩ | ⟨x,t,rfl,rfl⟩
  ·rcases zaY hb with⟨j,u,rfl,e⟩ | ⟨y,u,rfl,e⟩
   ·injection e with e1 _;rw[e1]
   ·exact nomatch e
  ·rcases zaY hb with⟨j,u,rfl,e⟩ | ⟨y,u,rfl,e⟩
   ·exact nomatch e
   ·injection e with e1 _;rw[e1]
 byValue:=fun k v h=>by
  rcases zaY h with⟨i,t,rfl,rfl⟩ | ⟨x,t,rfl,rfl⟩<;>rfl
 pyHash:=fun hv h=>by
  rcases zaY hv with⟨i,t,rfl,rfl⟩ | ⟨x,t,rfl,rfl⟩
  ·exact wpAny_pyHash_int h
  ·exact wpAny_pyHash_str h
 eqBool:=fun hu hv h=>by
  rcases zaY hu with⟨i,t,rfl,rfl⟩ | ⟨x,t,rfl,rfl⟩
  ·rcases zaY hv with⟨j,u,rfl,rfl⟩ | ⟨y,u,rfl,rfl⟩
   ·rw[zqr]at h;exact wpAny_eqBool_int h
   ·rw[zp1]at h;exact SeqAt.EqAt.int_str i t y u _ _ _ _ h
  ·rcases zaY hv with⟨j,u,rfl,rfl⟩ | ⟨y,u,rfl,rfl⟩
   ·rw[zpZ]at h;exact SeqAt.EqAt.str_int x t j u _ _ _ _ h
   ·rw[zqd]at h;exact wpAny_eqBool_str h
 «strs»:=fun k x t v h=>by
  rcases zaY h with⟨i,u,rfl,e⟩ | ⟨y,u,rfl,e⟩
  ·exact nomatch e
  ·injection e with e1 _
   subst e1
   cases v<;>rfl
inductive V where
 | non | bl (b:Bool) | int (i:Int) | str (x:Str) | byt (b:Array UInt8) | flt (b:UInt64) | ref (a:Addr) | ty (n:String)
 deriving DecidableEq
def RelV:V->Value->Prop
 | .non,u=>u=Value.none
 | .bl b,u=>u=Value.bool b
 | .int i,u=>∃t,u=Value.int i t
 | .str x,u=>∃t,u=Value.str x t
 | .byt b,u=>∃t,u=Value.bytes b t
 | .flt b,u=>∃t,u=Value.float b t
 | .ref a,u=>u=Value.ref a
 | .ty n,u=>u=Value.type n
abbrev Vals:List V->List Value->Prop:=Paired RelV
theorem Vals.length{xs:List V}{us:List Value}(r:Vals xs us):xs.length=us.length:=Paired.length r
theorem Vals.get:∀{xs:List V} {us:List Value} {i:Nat} {x:V},Vals xs us->xs[i]?=some x->∃u,us[i]?=some u/\RelV x u
 | _,_,_,_,.nil,e=>by simp at e
 | _,_,0,_,.cons r _,e=>by simp at e;subst e;exact⟨_,rfl,r⟩
 | _,_,i+1,x,.cons _ t,e=>by
  obtain⟨u,h1,h2⟩:=Vals.get (i:=i) (x:=x) t (by simpa using e)
  exact⟨u,by simpa using h1,h2⟩
theorem Vals.set{x:V}{u:Value}(r:RelV x u):∀{xs:List V} {us:List Value} (i:Nat),Vals xs us->Vals (xs.set i x) (us.set i u)
 | _,_,_,.nil=>.nil
 | _,_,0,.cons _ t=>.cons r t
 | _,_,i+1,.cons q t=>.cons q (Vals.set r i t)
theorem Vals.append:∀{xs ys:List V} {us ws:List Value},Vals xs us->Vals ys ws->Vals (xs++ys) (us++ws)
 | _,_,_,_,.nil,s=>s
 | _,_,_,_,.cons r t,s=>.cons r (Vals.append t s)
theorem Vals.take:∀{xs:List V} {us:List Value} (n:Nat),Vals xs us->Vals (xs.take n) (us.take n)
 | _,_,0,_=>.nil
 | _,_,_+1,.nil=>.nil
 | _,_,n+1,.cons r t=>.cons r (Vals.take n t)
theorem Vals.drop:∀{xs:List V} {us:List Value} (n:Nat),Vals xs us->Vals (xs.drop n) (us.drop n)
 | _,_,0,r=>r
 | _,_,_+1,.nil=>.nil
 | _,_,n+1,.cons _ t=>Vals.drop n t
def zmS:Option V->Option Value->Prop
 | some v,some u=>RelV v u
 | none,none=>True
 | _,_=>False
def KV{κ:Type}:List (κ × V)->List (κ × Value)->Prop:=Paired fun(p:κ × V) (q:κ × Value)=>p.1=q.1/\RelV p.2 q.2
def kV:Key->V
 | .inl i=>.int i
 | .inr x=>.str x
inductive HO where
 /-- a list -/
 | lst (xs:List V)
 /-- a tuple (never changes) -/
 | tup (xs:List V)
 /-- a dict whose keys are ints and texts;one whose keys are tuples of ints and texts (the empty one is both) -/
 | dK (kvs:List (Key × V)) | dT (kvs:List (List Key × V))
 /-- a set of ints: its members,its size -/
 | set (S:Int->Bool) (n:Nat)
 /-- an instance of the class at C,its dict at dx,its attributes -/
 | ins (C dx:Addr) (fs:List (Str × V))
 /-- the dict of the instance at x -/
 | own (x:Addr)
 /-- the dict of an exception -/
 | xd (fs:List (Str × V))
 /-- a bound method,f of x -/
 | met (f x:Addr)
 /-- a range object lo,lo+1,.. below hi -/
 | rng (lo hi:Int)
 /-- a thing that is known to the object (the script;a dict while a loop walks it): read,never written while it is so -/
 | frz (o:Obj) (u:HO)
 /-- a code object's table -/
 | tbl (ps:Array Value)
 /-- any other thing,by what is true of its one object (a def of one's own: SetO a S n:=HO.ext fun h=>..) -/
 | ext (φ:Heap->Prop)
abbrev Hp:=Addr->Option HO
def upd(H:Hp)(a:Addr)(o:HO):Hp:=fun b=>if b=a then some o else H b
theorem zaj{H:Hp}{a:Addr}{o:HO}:upd H a o a=some o:=by unfold upd;rw[if_pos rfl]
theorem zag{H:Hp}{a b:Addr}{o:HO}(h:b≠a):upd H a o b=H b:=by unfold upd;rw[if_neg h]
theorem zqD{H:Hp}{a b:Addr}{o u:HO}(h:H a=some o)(h':H b=some u)(d:o≠u):a≠b:=by
 intro e;subst e;rw[h]at h';exact d (yp h')
theorem zao{H:Hp}{a b:Addr}{o:HO}(h:H a=some o)(h':H b=none):a≠b:=by
 intro e;subst e;rw[h]at h';cases h'
section
variable (P:Program)(w:World)
def ObjOk(H:Hp)(h:Heap)(a:Addr):HO->Prop
 | .lst xs=>xs.length<=sizeLine/\∃(its:List Value) (n:Nat),Vals xs its/\h.get? a=some { cls:=.type "list",data:=.seq its.toArray n }
 | .tup xs=>xs.length<=sizeLine/\∃its:List Value,Vals xs its/\IsTup h a its.toArray
 | .dK kvs=>kvs.length<=sizeLine/\(a == sysModules)=false/\∃vs,KV kvs vs/\h.DictOf (zgI P w) a vs
 | .dT kvs=>kvs.length<=sizeLine/\(a == sysModules)=false/\∃xs:List (List Key × Addr × Value),
   Paired (fun(p:List Key × V) (q:List Key × Addr × Value)=>p.1=q.1/\H q.2.1=some (.tup (p.1.map kV))/\RelV p.2 q.2.2) kvs xs /\
   ∃o es ep,h.get? a=some o/\o.ExactDict/\o.data=.dict es ep/\es.toList=xs.map (entryOfKey (tupleKind (zgI P w)))/\(xs.map (·.1)).Nodup
 | .set S n=>h.SetOf (intKind P w) a S n
 | .ins C dx fs=>H dx=some (.own a)/\fs.length<=1000/\dx≠a/\h.get? a=some (PySem.W.instObj C dx) /\
   ∃mA,h.Ns1 dx mA/\(∀f,zmS (fs.lookup f) (mA f))/\PySem.Within mA (fs.map (·.1))
 | .own _=>∃o,h.get? a=some o
 | .xd fs=>∃mA,h.Ns1 a mA/\∀f,zmS (fs.lookup f) (mA f)
 | .rng lo hi=>∃t u v,h.get? a=some { cls:=.type "range",data:=.fields #[.int lo t,.int hi u,.int 1 v] }
 | .frz o u=>h.get? a=some o/\ObjOk H h a u
 | .tbl ps=>h.get? a=some { cls:=.none,data:=.fields ps }
 | .met f x=>h.get? a=some (PySem.W.methodObj (.ref f) (.ref x))
 | .ext φ=>φ h/\(∃o,h.get? a=some o)/\∀h1 h2:Heap,φ h1->(∀o,h1.get? a=some o->h2.get? a=some o)->φ h2
def HOk(H:Hp)(h:Heap):Prop:=∀a o,H a=some o->ObjOk P w H h a o
end
section
variable {P:Program}{w:World}{H H':Hp}{h h':Heap}{a:Addr}{o:HO}
theorem ObjOk.lt(x:ObjOk P w H h a o):a<h.objs.size:=by
 cases o with
 | lst xs=>obtain⟨_,_,_,_,e⟩:=x;exact Heap.lt_size e
 | tup xs=>obtain⟨_,_,_,p⟩:=x;exact p.lt
 | dK kvs=>obtain⟨_,_,_,_,o,_,_,e,_⟩:=x;exact Heap.lt_size e
 | dT kvs=>obtain⟨_,_,_,_,o,_,_,e,_⟩:=x;exact Heap.lt_size e
 | set S n=>obtain⟨o,_,_,_,e,_⟩:=x;exact Heap.lt_size e
 | ins C dx fs=>obtain⟨_,_,_,e,_⟩:=x;exact Heap.lt_size e
 | own y=>obtain⟨_,e⟩:=x;exact Heap.lt_size e
 | xd fs=>obtain⟨_,⟨_,_,_,e,_⟩,_⟩:=x;exact Heap.lt_size e
 | rng lo hi=>obtain⟨_,_,_,e⟩:=x;exact Heap.lt_size e
 | frz ob u=>obtain⟨e,_⟩:=x;exact Heap.lt_size e
 | tbl ps=>exact Heap.lt_size (show h.get? a=some _ from x)
 | met f y=>exact Heap.lt_size (show h.get? a=some _ from x)
 | ext φ=>obtain⟨_,⟨_,e⟩,_⟩:=x;exact Heap.lt_size e
theorem Paired.mapP{α β:Type}{F G:α->β->Prop}:∀{l₁:List α} {l₂:List β},Paired F l₁ l₂->(∀a b,F a b->G a b)->Paired G l₁ l₂
 | _,_,.nil,_=>.nil
 | _,_,.cons r t,f=>.cons (f _ _ r) (Paired.mapP t f)
theorem ObjOk.stay(x:ObjOk P w H h a o)(k:∀b u,(b=a\/H b=some (.own a))->h.get? b=some u->h'.get? b=some u)
  (ho:∀b,H b=some (.own a)->H' b=some (.own a)) (ht:∀b xs,H b=some (.tup xs)->H' b=some (.tup xs)):ObjOk P w H' h' a o:=by
 induction o with
 | lst xs=>obtain⟨z,its,n,r,e⟩:=x;exact⟨z,its,n,r,k _ _ (.inl rfl) e⟩
 | tup xs=>obtain⟨z,its,r,ob,e,c⟩:=x;exact⟨z,its,r,ob,k _ _ (.inl rfl) e,c⟩
 | dK kvs=>obtain⟨z,y,vs,r,ob,es,ep,e,c⟩:=x;exact⟨z,y,vs,r,ob,es,ep,k _ _ (.inl rfl) e,c⟩
 | dT kvs=>
  obtain⟨z,y,xs,r,ob,es,ep,e,c⟩:=x
  exact⟨z,y,xs,Paired.mapP r fun p q z=>⟨z.1,ht _ _ z.2.1,z.2.2⟩,ob,es,ep,k _ _ (.inl rfl) e,c⟩
 | set S n=>obtain⟨ob,es,ep,t,e,c⟩:=x;exact⟨ob,es,ep,t,k _ _ (.inl rfl) e,c⟩
 | ins C dx fs=>
  obtain⟨d,z,ne,e,mA,⟨od,es,ep,e2,c⟩,r⟩:=x
  exact⟨ho _ d,z,ne,k _ _ (.inl rfl) e,mA,⟨od,es,ep,k _ _ (.inr d) e2,c⟩,r⟩
 | own y=>obtain⟨ob,e⟩:=x;exact⟨ob,k _ _ (.inl rfl) e⟩
 | xd fs=>obtain⟨mA,⟨od,es,ep,e,c⟩,r⟩:=x;exact⟨mA,⟨od,es,ep,k _ _ (.inl rfl) e,c⟩,r⟩
 | rng lo hi=>obtain⟨t,u,v,e⟩:=x;exact⟨t,u,v,k _ _ (.inl rfl) e⟩
 | frz ob u ih=>obtain⟨e,q⟩:=x;exact⟨k _ _ (.inl rfl) e,ih q⟩
 | tbl ps=>
  have e:h.get? a=some { cls:=.none,data:=.fields ps }:=x
  show h'.get? a=some { cls:=.none,data:=.fields ps }
  exact k a _ (.inl rfl) e
 | met f y=>
  have e:h.get? a=some (PySem.W.methodObj (.ref f) (.ref y)):=x
  show h'.get? a=some (PySem.W.methodObj (.ref f) (.ref y))
  exact k a _ (.inl rfl) e
 | ext φ=>obtain⟨p,⟨o,e⟩,st⟩:=x;exact⟨st _ _ p fun o q=>k _ _ (.inl rfl) q,⟨o,k _ _ (.inl rfl) e⟩,st⟩
theorem HOk.lt(x:HOk P w H h)(e:H a=some o):a<h.objs.size:=(x a o e).lt
theorem HOk.fresh(x:HOk P w H h)(e:h.objs.size<=a):H a=none:=by
 cases q:H a with
 | none=>rfl
 | some u=>exact absurd (yt (x.lt q) e) (yQ _)
theorem HOk.kept(x:HOk P w H h)(k:∀b u,h.get? b=some u->h'.get? b=some u):HOk P w H h':=fun a o e=>
 (x a o e).stay (fun b u _ q=>k b u q) (fun _ q=>q) fun _ _ q=>q
theorem HOk.laid(x:HOk P w H h)(k:∀b u,h.get? b=some u->h'.get? b=some u)(hp:h.objs.size<=a)(new:ObjOk P w (upd H a o) h' a o):HOk P w (upd H a o) h':=fun b u e=>by
 have hn:=x.fresh hp
 by_cases hb:b=a
 ·subst hb;rw[zaj]at e;cases e;exact new
 ·rw[zag hb]at e
  exact(x b u e).stay (fun c v _ q=>k c v q) (fun c q=>by rw[zag (zao q hn)];exact q) fun c xs q=>by rw[zag (zao q hn)];exact q
end
def Rd(H:Hp)(a:Addr)(u:HO):Prop:=H a=some u\/∃o,H a=some (.frz o u)
theorem Rd.ok{P:Program}{w:World}{H:Hp}{h:Heap}{a:Addr}{u:HO}(r:Rd H a u)(x:HOk P w H h):ObjOk P w H h a u:=by
 rcases r with r | ⟨o,r⟩
 ·exact x a u r
 ·obtain⟨_,q⟩:=x a _ r
  exact q
def Mut:Option HO->Prop
 | some (.lst _)=>True
 | some (.dK _)=>True
 | some (.dT _)=>True
 | some (.set _ _)=>True
 | some (.ins _ _ _)=>True
 | some (.ext _)=>True
 | _=>False
section
variable {P:Program}{w:World}{H:Hp}{h h':Heap}{x e:Addr}{o':HO}
theorem HOk.write(ok:HOk P w H h)(mu:Mut (H x))(he:e=x\/H e=some (.own x))(k:∀b u,b≠e->h.get? b=some u->h'.get? b=some u)(heo:∃u,h'.get? e=some u)
  (new:ObjOk P w (upd H x o') h' x o'):HOk P w (upd H x o') h':=fun b u q=>by
 have nown:∀c y,H c=some (.own y)->c≠x:=fun c y r z=>by subst z;rw[r]at mu;exact mu
 have ntup:∀c xs,H c=some (.tup xs)->c≠x:=fun c xs r z=>by subst z;rw[r]at mu;exact mu
 by_cases hb:b=x
 ·subst hb;rw[zaj]at q;cases q;exact new
 ·rw[zag hb]at q
  by_cases hbe:b=e
  ·have q':H b=some (.own x):=by
    rcases he with z | z
    ·exact absurd (hbe.trans z) hb
    ·rw[hbe];exact z
   rw[q]at q';cases q'
   obtain⟨v,hv⟩:=heo
   exact⟨v,by rw[hbe];exact hv⟩
  ·refine(ok b u q).stay (fun c v hc r=>k c v ?_ r) (fun c r=>by rw[zag (nown c b r)];exact r) fun c xs r=>by rw[zag (ntup c xs r)];exact r
   rcases hc with rfl | hc
   ·exact hbe
   ·rintro rfl
    rcases he with z | z
    ·exact nown c b hc z
    ·rw[hc]at z;cases z;exact hb rfl
end
set_option genInjectivity false in
set_option genSizeOf false in
structure Un(fs ex:List Addr)(H H':Hp)(h h':Heap):Prop where
 keep:∀b o,h.get? b=some o->H b=none->b∉fs->b∉ex->h'.get? b=some o
 slot:∀b o,h.get? b=some o->H b=none->b∈fs->b∉ex->∃sl,h'.get? b=some { o with slots:=sl }
 free:∀b o,h.get? b=some o->H b=none->b∉ex->H' b=none
 there:∀b o,h.get? b=some o->b∉ex->∃o',h'.get? b=some o'
 tups:∀b xs,H b=some (.tup xs)->H' b=some (.tup xs)
 frzs:∀b o u,H b=some (.frz o u)->H' b=some (.frz o u)
 tbls:∀b ps,H b=some (.tbl ps)->∃more,H' b=some (.tbl (ps++more))
section
variable {fs fs' ex ex':List Addr}{H H1 H2:Hp}{h h1 h2 h':Heap}{a x e:Addr}{o:HO}
theorem Un.any(u:Un fs ex H H1 h h1){b:Addr}{ob:Obj}(q:h.get? b=some ob)(n:H b=none)(hx:b∉ex):∃sl,h1.get? b=some { ob with slots:=sl }:=by
 by_cases hb:b∈fs
 ·exact u.slot b ob q n hb hx
 ·exact⟨ob.slots,u.keep b ob q n hb hx⟩
theorem Un.kept(k:∀b u,h.get? b=some u->h'.get? b=some u):Un fs ex H H h h':=
 ⟨fun b ob q _ _ _=>k b ob q,fun b ob q _ _ _=>⟨ob.slots,k b ob q⟩,fun _ _ _ n _=>n,fun b ob q _=>⟨ob,k b ob q⟩,fun _ _ q=>q,fun _ _ _ q=>q,fun _ ps q=>⟨#[],by rw[q];simp⟩⟩
theorem Un.refl:Un fs ex H H h h:=Un.kept fun _ _ q=>q
theorem Un.laid(k:∀b u,h.get? b=some u->h'.get? b=some u)(hp:h.objs.size<=a)(hn:H a=none):Un fs ex H (upd H a o) h h' where
 keep:=fun b u q _ _ _=>k b u q
 slot:=fun b u q _ _ _=>⟨u.slots,k b u q⟩
 free:=fun b u q n _=>by rw[zag (yr (yt (Heap.lt_size q) hp))];exact n
 there:=fun b u q _=>⟨u,k b u q⟩
 tups:=fun b xs q=>by rw[zag (zao q hn)];exact q
 frzs:=fun b u xs q=>by rw[zag (zao q hn)];exact q
 tbls:=fun b ps q=>⟨#[],by rw[zag (zao q hn),q];simp⟩
theorem Un.write(mu:Mut (H x))(he:e=x\/H e=some (.own x))(k:∀b u,b≠e->h.get? b=some u->h'.get? b=some u)(heo:∃u,h'.get? e=some u):Un fs ex H (upd H x o) h h':=by
 have hx:∀b,H b=none->b≠x:=fun b n z=>by subst z;rw[n]at mu;exact mu
 have hb:∀b,H b=none->b≠e:=fun b n z=>by
  subst z
  rcases he with r | r
  ·exact hx b n r
  ·rw[n]at r;cases r
 have hm:∀b u,H b=some u->¬Mut (some u)->b≠x:=fun b u q nm z=>by subst z;rw[q]at mu;exact nm mu
 refine⟨fun b u q n _ _=>k b u (hb b n) q,fun b u q n _ _=>⟨u.slots,k b u (hb b n) q⟩,fun b u q n _=>by rw[zag (hx b n)];exact n,fun b u q _=>?_,
  fun b xs q=>by rw[zag (hm b _ q fun z=>z)];exact q,fun b u xs q=>by rw[zag (hm b _ q fun z=>z)];exact q,fun b ps q=>⟨#[],by rw[zag (hm b _ q fun z=>z),q];simp⟩⟩
 by_cases hbe:b=e
 ·subst hbe;exact heo
 ·exact⟨u,k b u hbe q⟩
end
def trk(h:Heap)(H:Hp):List Addr:=(List.range h.objs.size).filter fun a=>(H a).isSome
def zeq(h:Heap)(H:Hp):Heap:=PySem.W.hideAll h (trk h H)
theorem zlz(h:Heap)(H:Hp):(zeq h H).objs.size=h.objs.size:=PySem.W.hideAll_size _ _
theorem zmI{h:Heap}{H:Hp}{b:Addr}{o:Obj}(e:h.get? b=some o)(n:H b=none):(zeq h H).get? b=some o:=
 PySem.W.hideAll_get _ e fun hm=>by
  have q:(H b).isSome=true:=(yam.mp hm).2
  rw[n]at q;simp at q
theorem zoC{h:Heap}{H:Hp}{b:Addr}{o:Obj}(e:(zeq h H).get? b=some o):h.get? b=some o/\H b=none:=by
 have e':h.get? b=some o:=PySem.W.of_hideAll (trk h H) e
 refine⟨e',?_⟩
 cases q:H b with
 | none=>rfl
 | some x=>
  have hm:b∈trk h H:=yam.mpr ⟨yN.mpr (Heap.lt_size e'),by simp[q]⟩
  have z:(zeq h H).get? b=none:=PySem.W.hideAll_none (trk h H) hm
  rw[z]at e;cases e
def zo0(g h:Heap)(L:Addr):List (Addr × Obj):=(List.range h.objs.size).filterMap fun a=>if a=L\/(g.get? a).isSome=true then none else(h.get? a).map fun o=>(a,o)
def rest(g h:Heap)(L d:Addr):List (Addr × Obj):=(zo0 g h L).filter fun p=>decide (p.1≠d)
set_option genInjectivity false in
set_option genSizeOf false in
structure Mod(K:Fg)(mg:Str->Option Value)(base:Heap):Prop where
 kin:K.In base
 glob:base.Ns mainGlobals mg
 blt:∃mb,base.Ns builtinsNs mb/\∀x:Str,x ≠ "__name__" -> mb x=bootBuiltins x
 nolimit:base.NoLimit
set_option genSizeOf false in
structure Cx where
 prog:Program
 w:World
 K:Fg
 mg:Str->Option Value
 base:Heap
 A:Around
 N:List Str
 s₀:Shared
 H₀:Hp
 env:Env
 outer:List Env
 stack:List Env
 ex:List Addr
 fn:Str->Bool
 calm:Bool
 pn:List (Addr × Obj)
 xe:Value->Shared->Prop
def frs(l:List Env):List Addr:=l.filterMap (·.frame)
abbrev Cx.fs(X:Cx):List Addr:=frs X.outer
def Vis(sc:Scope)(x:Str):Prop:=sc.names.lookup x=some .local\/sc.names.lookup x=some .cell\/sc.names.lookup x=some .free
def Loc(sc:Scope)(x:Str):Prop:=sc.names.lookup x=some .local\/sc.names.lookup x=some .cell
def zrc(env:Env)(h:Heap)(m:Str->Option Value)(x:Str)(u:Value):Prop:=
 (env.kindOf x=some .local/\m x=some u)\/((env.kindOf x=some .cell\/env.kindOf x=some .free)/\∃c,env.cells.lookup x=some c/\h.IsCell c (some u))
set_option genSizeOf false in
structure Cx.Ok(X:Cx):Prop where
 mod:Mod X.K X.mg X.base
 kind:X.env.scope.kind=.function
 glob:X.env.globals=mainGlobals
 blt:X.env.builtins=builtinsNs
 above:X.s₀.heap.objs.size<=X.env.locals
 inj:∀x y c,X.env.cells.lookup x=some c->X.env.cells.lookup y=some c->x=y
 has:∀x,(X.env.kindOf x=some .cell\/X.env.kindOf x=some .free)->∃c,X.env.cells.lookup x=some c
 cab:∀x c,X.fn x=true->X.env.cells.lookup x=some c->X.s₀.heap.objs.size<=c
 hd:X.calm=true->X.A.handled=none
 frames:X.A.frames=some X.stack
 stk:X.stack=X.outer\/(X.stack=X.env :: X.outer/\X.env.frame=some X.env.locals)
 exf:∀b∈X.ex,b≠X.env.locals/\∀x c,X.env.cells.lookup x=some c->c≠b
 bs:∀b o,X.base.get? b=some o->X.s₀.heap.get? b=some o/\X.H₀ b=none
 bsz:X.base.objs.size<=X.s₀.heap.objs.size
 noex:∀b o,X.base.get? b=some o->b∉X.ex
 exfs:∀b∈X.ex,b∉X.fs
 funs:X.s₀.heap.FunFrames X.base X.outer
 frf:∀b∈X.fs,X.H₀ b=none
set_option genInjectivity false in
set_option genSizeOf false in
structure Inv(X:Cx)(pins:List (Addr × Obj))(σ:List (Option V))(H:Hp)(s:Shared):Prop where
 ok:X.Ok
 os:s.os=X.s₀.os
 bare:AllBare s.gens
 base:Un X.fs X.ex X.H₀ H X.s₀.heap s.heap
 loc:∃m,s.heap.Ns X.env.locals m/\∀(i:Nat) (x:Str) (v:V),X.N[i]?=some x->σ[i]?=some (some v)->Vis X.env.scope x->∃u,RelV v u/\zrc X.env s.heap m x u
 cell:∀x c,X.env.cells.lookup x=some c->∃v,s.heap.IsCell c v
 free:H X.env.locals=none
 freeC:∀x c,X.env.cells.lookup x=some c->H c=none
 pin:∀p∈X.pn++pins,s.heap.get? p.1=some p.2/\H p.1=none/\p.1≠X.env.locals/\p.1∉X.fs/\∀v,p.2.data≠.cell v
 hok:HOk X.prog X.w H s.heap
 len:σ.length=X.N.length
section
variable {X:Cx}{pins:List (Addr × Obj)}{σ:List (Option V)}{H H':Hp}{s:Shared}{h':Heap}
theorem Cx.Ok.nofr(ok:X.Ok){b:Addr}{o:Obj}(e:X.base.get? b=some o):b∉X.fs:=fun hb=>by
 have:=(ok.funs.mem hb).1
 rw[e]at this;cases this
theorem Inv.bs(I:Inv X pins σ H s):∀b o,X.base.get? b=some o->s.heap.get? b=some o/\H b=none:=fun b o e=>
 ⟨I.base.keep b o (I.ok.bs b o e).1 (I.ok.bs b o e).2 (I.ok.nofr e) (I.ok.noex b o e),I.base.free b o (I.ok.bs b o e).1 (I.ok.bs b o e).2 (I.ok.noex b o e)⟩
theorem Inv.bk(I:Inv X pins σ H s):∀b o,X.base.get? b=some o->s.heap.get? b=some o:=fun b o e=>(I.bs b o e).1
theorem Inv.mod(I:Inv X pins σ H s):Mod X.K X.mg X.base:=I.ok.mod
theorem Inv.kIn(I:Inv X pins σ H s):X.K.In s.heap:=I.ok.mod.kin.keeps I.bk
theorem Inv.lt(I:Inv X pins σ H s):X.env.locals<s.heap.objs.size:=let ⟨_,hn,_⟩:=I.loc;hn.lt
theorem Inv.sz(I:Inv X pins σ H s):X.s₀.heap.objs.size<=s.heap.objs.size:=yh I.ok.above (ya8 I.lt)
theorem Inv.nofs(I:Inv X pins σ H s){a:Addr}(h:s.heap.objs.size<=a):a∉X.fs:=fun hb=>by
 obtain⟨_,o,ho,_⟩:=I.ok.funs.mem hb
 exact absurd (yt (Heap.lt_size ho) (yh I.sz h)) (yQ _)
theorem Inv.cne(I:Inv X pins σ H s):∀x c,X.env.cells.lookup x=some c->c≠X.env.locals:=fun x c e z=>by
 obtain⟨v,o,ho,hd⟩:=I.cell x c e
 obtain⟨m,⟨o',es,ep,ho',hd',_⟩,_⟩:=I.loc
 rw[z,ho']at ho;cases ho;rw[hd']at hd;cases hd
theorem Inv.funs(I:Inv X pins σ H s):s.heap.FunFrames X.base X.outer:=by
 have all:∀(l:List Env),(∀b∈frs l,b∈X.fs)->X.s₀.heap.FunFrames X.base l->s.heap.FunFrames X.base l:=by
  intro l
  induction l with
  | nil=>intro _ _;trivial
  | cons env r ih=>
   intro hs hl
   obtain⟨hk,⟨L,o,hf,hn,ho,hd⟩,hr⟩:=hl
   have hL:L∈X.fs:=hs L (by unfold frs;rw[ybj,hf];exact yad)
   obtain⟨sl,e⟩:=I.base.slot L o ho (I.ok.frf L hL) hL fun z=>I.ok.exfs L z hL
   exact⟨hk,⟨L,_,hf,hn,e,hd⟩,ih (fun b hb=>hs b (by unfold frs;rw[ybj,hf];exact yR _ hb)) hr⟩
 exact all X.outer (fun _ hb=>hb) I.ok.funs
theorem Inv.stack(I:Inv X pins σ H s):s.heap.FunFrames X.base X.stack:=by
 rcases I.ok.stk with e | ⟨e,hf⟩
 ·rw[e];exact I.funs
 ·rw[e]
  obtain⟨m,hn,_⟩:=I.loc
  refine .cons (by rw[I.ok.kind];decide) hf hn ?_ I.funs
  exact Heap.get?_none_of_le (yh I.ok.bsz I.ok.above)
theorem Inv.stkSub(I:Inv X pins σ H s):∀b∈frs X.stack,b∈X.env.locals :: X.fs:=fun b hb=>by
 rcases I.ok.stk with e | ⟨e,hf⟩
 ·rw[e]at hb;exact yR _ hb
 ·rw[e]at hb
  unfold frs at hb
  rw[ybj,hf]at hb
  exact hb
theorem Inv.stkFree(I:Inv X pins σ H s):∀b∈frs X.stack,H b=none:=fun b hb=>by
 rcases yz.mp (I.stkSub b hb)with e | hb
 ·rw[e];exact I.free
 ·obtain⟨_,o,ho,_⟩:=I.ok.funs.mem hb
  exact I.base.free b o ho (I.ok.frf b hb) fun z=>I.ok.exfs b z hb
theorem Inv.step{g':Array GenState}{t':Nat}{d':Drawn}{ch:List Addr}(I:Inv X pins σ H s)
  (hch:∀b∈ch,(b∈X.ex\/X.s₀.heap.objs.size<=b)/\b≠X.env.locals/\(∀x c,X.env.cells.lookup x=some c->c≠b)/\∀p∈X.pn++pins,p.1≠b)
  (keep:∀b o,b≠X.env.locals->b∉X.fs->b∉ch->s.heap.get? b=some o->H b=none->h'.get? b=some o)
  (slot:∀b o,b≠X.env.locals->b∈X.fs->b∉ch->s.heap.get? b=some o->H b=none->∃sl,h'.get? b=some { o with slots:=sl }) (free:∀b o,b∉ch->s.heap.get? b=some o->H b=none->H' b=none)
  (there:∀b o,b∉ch->s.heap.get? b=some o->∃o',h'.get? b=some o')
  (tups:∀b xs,H b=some (.tup xs)->H' b=some (.tup xs)) (frzs:∀b o u,H b=some (.frz o u)->H' b=some (.frz o u)) (tbls:∀b ps,H b=some (.tbl ps)->∃more,H' b=some (.tbl (ps++more)))
  (ns:∀m,s.heap.Ns X.env.locals m->h'.Ns X.env.locals m) (hok:HOk X.prog X.w H' h') (hg:AllBare g') :
  Inv X pins σ H' { s with heap:=h',gens:=g',drawn:=d',toks:=t' }:=by
 have neL:∀b o,X.s₀.heap.get? b=some o->b≠X.env.locals:=fun b o e=>yr (yt (Heap.lt_size e) I.ok.above)
 have neC:∀b o,X.s₀.heap.get? b=some o->b∉X.ex->b∉ch:=fun b o e hx hb=>by
  rcases(hch b hb).1 with z | z
  ·exact hx z
  ·exact absurd (yt (Heap.lt_size e) z) (yQ _)
 have cellK:∀x c,X.env.cells.lookup x=some c->∀v,s.heap.IsCell c v->h'.IsCell c v:=fun x c e v ⟨o,ho,hd⟩=>by
  have nch:c∉ch:=fun z=>(hch c z).2.2.1 x c e rfl
  by_cases hc:c∈X.fs
  ·obtain⟨sl,q⟩:=slot c o (I.cne x c e) hc nch ho (I.freeC x c e)
   exact⟨_,q,hd⟩
  ·exact⟨o,keep c o (I.cne x c e) hc nch ho (I.freeC x c e),hd⟩
 refine⟨I.ok,I.os,hg,⟨fun b o e n hb hx=>?_,fun b o e n hb hx=>?_,fun b o e n hx=>?_,fun b o e hx=>?_,fun b xs e=>tups b xs (I.base.tups b xs e),fun b o xs e=>frzs b o xs (I.base.frzs b o xs e),fun b ps e=>?_⟩,?_,fun x c e=>?_,?_,fun x c e=>?_,fun p hp=>?_,hok,I.len⟩
 ·exact keep b o (neL b o e) hb (neC b o e hx) (I.base.keep b o e n hb hx) (I.base.free b o e n hx)
 ·obtain⟨sl,e1⟩:=I.base.slot b o e n hb hx
  obtain⟨sl',e2⟩:=slot b _ (neL b o e) hb (neC b o e hx) e1 (I.base.free b o e n hx)
  exact⟨sl',e2⟩
 ·obtain⟨o',e1⟩:=I.base.there b o e hx
  exact free b o' (neC b o e hx) e1 (I.base.free b o e n hx)
 ·obtain⟨o',e1⟩:=I.base.there b o e hx
  exact there b o' (neC b o e hx) e1
 ·obtain⟨m1,e1⟩:=I.base.tbls b ps e
  obtain⟨m2,e2⟩:=tbls b _ e1
  exact⟨m1++m2,by rw[e2,Array.append_assoc]⟩
 ·obtain⟨m,hn,hl⟩:=I.loc
  refine⟨m,ns m hn,fun i x v e1 e2 e3=>?_⟩
  obtain⟨u,r,l⟩:=hl i x v e1 e2 e3
  refine⟨u,r,?_⟩
  rcases l with l | ⟨k,c,e,z⟩
  ·exact .inl l
  ·exact .inr ⟨k,c,e,cellK x c e _ z⟩
 ·obtain⟨v,z⟩:=I.cell x c e
  exact⟨v,cellK x c e v z⟩
 ·obtain⟨m,⟨o,_,_,ho,_⟩,_⟩:=I.loc
  exact free _ o (fun z=>(hch _ z).2.1 rfl) ho I.free
 ·obtain⟨v,o,ho,hd⟩:=I.cell x c e
  exact free c o (fun z=>(hch c z).2.2.1 x c e rfl) ho (I.freeC x c e)
 ·obtain⟨e,n,ne,nf,d⟩:=I.pin p hp
  have nch:p.1∉ch:=fun z=>(hch p.1 z).2.2.2 p hp rfl
  exact⟨keep p.1 p.2 ne nf nch e n,free p.1 p.2 nch e n,ne,nf,d⟩
theorem Inv.un{t':Nat}(I:Inv X pins σ H s)(u:Un X.fs [] H H' s.heap h')(hok:HOk X.prog X.w H' h'):Inv X pins σ H' { s with heap:=h',toks:=t' }:=by
 obtain⟨m,⟨o,es,ep,ho,r⟩,_⟩:=id I.loc
 obtain⟨sl,hL⟩:=u.any ho I.free (by simp)
 exact I.step (g':=s.gens) (d':=s.drawn) (ch:=[]) (fun _ z=>nomatch z) (fun b o _ hb _ e n=>u.keep b o e n hb (by simp)) (fun b o _ hb _ e n=>u.slot b o e n hb (by simp)) (fun b o _ e n=>u.free b o e n (by simp)) (fun b o _ e=>u.there b o e (by simp)) u.tups u.frzs u.tbls (fun m' hm=>by
  obtain⟨o',es',ep',ho',r'⟩:=hm
  rw[ho]at ho';cases ho'
  exact⟨_,es',ep',hL,r'⟩) hok I.bare
theorem Inv.call{g':Array GenState}{t':Nat}{d':Drawn}{ch:List Addr}(I:Inv X pins σ H s)(u:Un (frs X.stack) ch H H' s.heap h')(hok:HOk X.prog X.w H' h')(hg:AllBare g')
  (hch:∀b∈ch,(b∈X.ex\/X.s₀.heap.objs.size<=b)/\b≠X.env.locals/\(∀x c,X.env.cells.lookup x=some c->c≠b)/\∀p∈X.pn++pins,p.1≠b) :
  Inv X pins σ H' { s with heap:=h',gens:=g',drawn:=d',toks:=t' }:=by
 obtain⟨m,⟨o,es,ep,ho,r⟩,_⟩:=id I.loc
 obtain⟨sl,hL⟩:=u.any ho I.free fun z=>(hch _ z).2.1 rfl
 exact I.step (ch:=ch) hch (fun b o hL hb hc e n=>u.keep b o e n (fun z=>(yz.mp (I.stkSub b z)).elim hL hb) hc) (fun b o _ _ hc e n=>u.any e n hc) (fun b o hc e n=>u.free b o e n hc) (fun b o hc e=>u.there b o e hc) u.tups u.frzs u.tbls (fun m' hm=>by
  obtain⟨o',es',ep',ho',r'⟩:=hm
  rw[ho]at ho';cases ho'
  exact⟨_,es',ep',hL,r'⟩) hok hg
theorem Inv.turned{t':Nat}{it:Addr}(I:Inv X pins σ H s)(k:∀b o,b≠it->s.heap.get? b=some o->h'.get? b=some o)(hn:H it=none)(hL:it≠X.env.locals)
  (h1:it∈X.ex\/X.s₀.heap.objs.size<=it) (h2:∀x c,X.env.cells.lookup x=some c->c≠it) (h3:∀p∈X.pn++pins,p.1≠it):Inv X pins σ H { s with heap:=h',toks:=t' }:=by
 have nit:∀b u,H b=some u->b≠it:=fun b u e z=>by rw[z,hn]at e;cases e
 refine I.step (g':=s.gens) (d':=s.drawn) (ch:=[it]) (fun b hb=>?_) (fun b o _ _ hc e _=>k b o (fun z=>hc (by simp[z])) e) (fun b o _ _ hc e _=>⟨o.slots,k b o (fun z=>hc (by simp[z])) e⟩) (fun _ _ _ _ n=>n)
  (fun b o hc e=>⟨o,k b o (fun z=>hc (by simp[z])) e⟩) (fun _ _ e=>e) (fun _ _ _ e=>e) (fun b ps e=>⟨#[],by rw[e];simp⟩) (fun m hm=>?_) (fun b u e=>?_) I.bare
 ·have e:b=it:=by simpa using hb
  subst e
  exact⟨h1,hL,h2,h3⟩
 ·obtain⟨o,es,ep,ho,r⟩:=hm
  exact⟨o,es,ep,k _ o (ya1 hL) ho,r⟩
 ·refine(I.hok b u e).stay (fun c v hc q=>k c v ?_ q) (fun _ q=>q) fun _ _ q=>q
  rcases hc with z | z
  ·rw[z];exact nit b u e
  ·exact nit c _ z
theorem Inv.tok(I:Inv X pins σ H s)(t:Nat):Inv X pins σ H { s with toks:=t }:=I.un (h':=s.heap) (t':=t) Un.refl I.hok
theorem Inv.kept{t':Nat}(I:Inv X pins σ H s)(k:∀b u,s.heap.get? b=some u->h'.get? b=some u):Inv X pins σ H { s with heap:=h',toks:=t' }:=I.un (Un.kept k) (I.hok.kept k)
theorem Inv.laid{a:Addr}{o:HO}{t':Nat}(I:Inv X pins σ H s)(k:∀b u,s.heap.get? b=some u->h'.get? b=some u)(hp:s.heap.objs.size<=a)(new:ObjOk X.prog X.w (upd H a o) h' a o) :
  Inv X pins σ (upd H a o) { s with heap:=h',toks:=t' }:=I.un (Un.laid k hp (I.hok.fresh hp)) (I.hok.laid k hp new)
theorem Inv.write{x e:Addr}{o:HO}{t':Nat}(I:Inv X pins σ H s)(mu:Mut (H x))(he:e=x\/H e=some (.own x))(k:∀b u,b≠e->s.heap.get? b=some u->h'.get? b=some u)(heo:∃u,h'.get? e=some u)
  (new:ObjOk X.prog X.w (upd H x o) h' x o):Inv X pins σ (upd H x o) { s with heap:=h',toks:=t' }:=I.un (Un.write mu he k heo) (I.hok.write mu he k heo new)
theorem Inv.pins_of{pins':List (Addr × Obj)}(I:Inv X pins σ H s)(h:∀p∈pins',s.heap.get? p.1=some p.2/\H p.1=none/\p.1≠X.env.locals/\p.1∉X.fs/\∀v,p.2.data≠.cell v):Inv X pins' σ H s:=
 ⟨I.ok,I.os,I.bare,I.base,I.loc,I.cell,I.free,I.freeC,fun p hp=>(yT.mp hp).elim (fun z=>I.pin p (yC _ z)) (h p),I.hok,I.len⟩
theorem ziR{N:List Str}(hN:N.Nodup){i j:Nat}{x:Str}(a:N[i]?=some x)(b:N[j]?=some x):i=j:=by
 obtain⟨h1,e1⟩:=yj.mp a
 obtain⟨h2,e2⟩:=yj.mp b
 exact(yby hN).mp (e1.trans e2.symm)
theorem zhw{M:Model}{A:Around}{E:Value->Shared->Prop}{i:Nat}{x:Str}{v:V}{u:Value}{Q:Unit->Shared->Prop}(I:Inv X pins σ H s)(hN:X.N.Nodup)(hi:X.N[i]?=some x)(hx:Loc X.env.scope x)(r:RelV v u)
  (h:∀s',Inv X pins (σ.set i (some v)) H s'->(∃a,Heap.SameBut a s.heap s'.heap/\(a=X.env.locals\/X.env.cells.lookup x=some a))->Q () s') (hf:autoParam (X.fn x=true\/X.env.scope.names.lookup x=some .local) Internal.aut0._auto_1):wpAny M A (storeName X.env x u) Q E s:=by
 obtain⟨m,hn,hl⟩:=id I.loc
 have hcls:(X.env.scope.kind == .class || (X.env.scope.kind == .module&&X.env.locals != X.env.globals))=false:=by rw[I.ok.kind];rfl
 have hiσ:i < σ.length:=by rw[I.len];exact(yj.mp hi).1
 have cne:=I.cne
 have tracked:∀{a:Addr} {h':Heap},(∃o,s.heap.get? a=some o/\H a=none)->Heap.SameBut a s.heap h'->HOk X.prog X.w H h':=fun {a h'} ha hs b ob e=>by
  obtain⟨_,_,hfree⟩:=ha
  refine(I.hok b ob e).stay (fun c w' hc q=>(hs.2 c ?_).trans q) (fun _ q=>q) fun _ _ q=>q
  rintro rfl
  rcases hc with rfl | hc
  ·rw[hfree]at e;cases e
  ·rw[hfree]at hc;cases hc
 rcases hx with hk | hk
 ·refine wpAny_storeName_local hk hn (fun h' hn' hs=>?_) hcls
  obtain⟨oL,_,_,hoL,_⟩:=id hn
  refine h _ ⟨I.ok,I.os,I.bare,⟨fun b o e n hb hx=>?_,fun b o e n hb hx=>?_,I.base.free,fun b o e hx=>?_,I.base.tups,I.base.frzs,I.base.tbls⟩,⟨_,hn',fun j y v' e1 e2 e3=>?_⟩,fun y c e=>?_,I.free,I.freeC,fun p hp=>?_,tracked ⟨oL,hoL,I.free⟩ hs,by simpa using I.len⟩ ⟨_,hs,.inl rfl⟩
  ·exact(hs.2 b (yr (yt (Heap.lt_size e) I.ok.above))).trans (I.base.keep b o e n hb hx)
  ·obtain⟨sl,e1⟩:=I.base.slot b o e n hb hx
   exact⟨sl,(hs.2 b (yr (yt (Heap.lt_size e) I.ok.above))).trans e1⟩
  ·obtain⟨o',e1⟩:=I.base.there b o e hx
   exact⟨o',(hs.2 b (yr (yt (Heap.lt_size e) I.ok.above))).trans e1⟩
  ·by_cases hj:j=i
   ·subst hj
    rw[hi]at e1;cases e1
    rw[List.getElem?_set_self hiσ]at e2
    cases e2
    exact⟨u,r,.inl ⟨hk,by simp⟩⟩
   ·rw[List.getElem?_set_ne (ya1 hj)]at e2
    obtain⟨u',r',q⟩:=hl j y v' e1 e2 e3
    refine⟨u',r',?_⟩
    rcases q with⟨k,e⟩ | ⟨k,c,e,z⟩
    ·refine .inl ⟨k,?_⟩
     have:y≠x:=fun e=>hj (ziR hN e1 (e▸hi))
     simp[this,e]
    ·exact .inr ⟨k,c,e,z.sameBut hs (cne y c e)⟩
  ·obtain⟨w',z⟩:=I.cell y c e
   exact⟨w',z.sameBut hs (cne y c e)⟩
  ·obtain⟨e,n,ne,nf,d⟩:=I.pin p hp
   exact⟨(hs.2 p.1 ne).trans e,n,ne,nf,d⟩
 ·have hfn:X.fn x=true:=by
   rcases hf with z | z
   ·exact z
   ·rw[z]at hk;cases hk
  obtain⟨c,hc⟩:=I.ok.has x (.inl hk)
  obtain⟨w',z⟩:=I.cell x c hc
  refine wpAny_storeName_cell I.ok.kind hk hc z (fun h' hc' hs=>?_)
  obtain⟨oc,hoc,hocd⟩:=id z
  refine h { s with heap:=h' } ⟨I.ok,I.os,I.bare,⟨fun b o e n hb hx=>?_,fun b o e n hb hx=>?_,I.base.free,fun b o e hx=>?_,I.base.tups,I.base.frzs,I.base.tbls⟩,⟨m,hn.sameBut hs (ya1 (cne x c hc)),fun j y v' e1 e2 e3=>?_⟩,fun y c' e=>?_,I.free,I.freeC,fun p hp=>?_,tracked ⟨oc,hoc,I.freeC x c hc⟩ hs,by simpa using I.len⟩ ⟨c,hs,.inr hc⟩
  ·exact(hs.2 b (yr (yt (Heap.lt_size e) (I.ok.cab x c hfn hc)))).trans (I.base.keep b o e n hb hx)
  ·obtain⟨sl,e1⟩:=I.base.slot b o e n hb hx
   exact⟨sl,(hs.2 b (yr (yt (Heap.lt_size e) (I.ok.cab x c hfn hc)))).trans e1⟩
  ·obtain⟨o',e1⟩:=I.base.there b o e hx
   exact⟨o',(hs.2 b (yr (yt (Heap.lt_size e) (I.ok.cab x c hfn hc)))).trans e1⟩
  ·by_cases hj:j=i
   ·subst hj
    rw[hi]at e1;cases e1
    rw[List.getElem?_set_self hiσ]at e2
    cases e2
    exact⟨u,r,.inr ⟨.inl hk,c,hc,hc'⟩⟩
   ·rw[List.getElem?_set_ne (ya1 hj)]at e2
    obtain⟨u',r',q⟩:=hl j y v' e1 e2 e3
    refine⟨u',r',?_⟩
    rcases q with q | ⟨k,c',e,z'⟩
    ·exact .inl q
    ·refine .inr ⟨k,c',e,z'.sameBut hs ?_⟩
     rintro rfl
     exact hj (ziR hN e1 (I.ok.inj _ _ _ e hc▸hi))
  ·by_cases hcc:c'=c
   ·subst hcc;exact⟨_,hc'⟩
   ·obtain⟨w2,z2⟩:=I.cell y c' e
    exact⟨w2,z2.sameBut hs hcc⟩
  ·obtain⟨e,n,ne,nf,d⟩:=I.pin p hp
   refine⟨(hs.2 p.1 ?_).trans e,n,ne,nf,d⟩
   intro q
   rw[q,hoc]at e
   have q':oc=p.2:=yp e
   exact d w' (by rw[<- q'];exact hocd)
theorem zfN{M:Model}{A:Around}{E:Value->Shared->Prop}{i:Nat}{x:Str}{v:V}{u:Value}{Q:Unit->Shared->Prop}(I:Inv X pins σ H s)(hN:X.N.Nodup)(hi:X.N[i]?=some x)(hx:Loc X.env.scope x)(r:RelV v u)
  (h:∀s',Inv X pins (σ.set i (some v)) H s'->Q () s') (hf:autoParam (X.fn x=true\/X.env.scope.names.lookup x=some .local) Internal.aut0._auto_1):wpAny M A (storeName X.env x u) Q E s:=
 zhw I hN hi hx r (fun s' I' _=>h s' I') hf
end
abbrev XK:=Value->Option Addr->Hp->Prop
abbrev St:=List (Option V)
abbrev VK:=V->Hp->Prop
abbrev TE:=St->Hp->VK->Prop
abbrev TT:=St->Hp->(Bool->Hp->Prop)->Prop
abbrev TA:=St->Hp->(List V->Hp->Prop)->Prop
set_option genInjectivity false in
set_option genSizeOf false in
structure Ends where
 nx:St->Hp->Prop
 rt:VK
 bk:St->Hp->Prop:=fun _ _=>False
 ct:St->Hp->Prop:=fun _ _=>False
abbrev TS:=Ends->St->Hp->Prop
def EP(X:Cx)(pins:List (Addr × Obj))(σ:St)(Q:VK)(u:Value)(s':Shared):Prop:=∃v H',Inv X pins σ H' s'/\RelV v u/\Q v H'
def TP(X:Cx)(pins:List (Addr × Obj))(σ:St)(Q:Bool->Hp->Prop)(b:Bool)(s':Shared):Prop:=∃H',Inv X pins σ H' s'/\Q b H'
def AP(X:Cx)(pins:List (Addr × Obj))(σ:St)(Q:List V->Hp->Prop)(us:List Value)(s':Shared):Prop:=∃vs H',Inv X pins σ H' s'/\Vals vs us/\Q vs H'
def SP(X:Cx)(pins:List (Addr × Obj))(D:Ends)(f:Flow)(s':Shared):Prop:=
 match f with
 | .next=>∃σ' H',Inv X pins σ' H' s'/\D.nx σ' H'
 | .brk=>∃σ' H',Inv X pins σ' H' s'/\D.bk σ' H'
 | .cont=>∃σ' H',Inv X pins σ' H' s'/\D.ct σ' H'
 | .ret u=>∃v σ' H',Inv X pins σ' H' s'/\RelV v u/\D.rt v H'
def PE(X:Cx)(e:Expr)(t:TE):Prop:=
 ∀(pins:List (Addr × Obj)) (s:Shared) (σ:St) (H:Hp) (Q:VK),Inv X pins σ H s->t σ H Q->wpAny (model X.prog X.w) X.A (eval e X.env) (EP X pins σ Q) X.xe s
def PT(X:Cx)(e:Expr)(t:TT):Prop:=
 ∀(pins:List (Addr × Obj)) (s:Shared) (σ:St) (H:Hp) (Q:Bool->Hp->Prop),Inv X pins σ H s->t σ H Q->wpAny (model X.prog X.w) X.A (isTrue e X.env (eval e X.env)) (TP X pins σ Q) X.xe s
def PW(X:Cx)(e:Expr)(t:TT):Prop:=
 ∀(whole:Sem Value) (pins:List (Addr × Obj)) (s:Shared) (σ:St) (H:Hp) (Q:Bool->Hp->Prop),Inv X pins σ H s->t σ H Q->wpAny (model X.prog X.w) X.A (isTrue e X.env whole) (TP X pins σ Q) X.xe s
theorem PW.pt{X:Cx}{e:Expr}{t:TT}(h:PW X e t):PT X e t:=h _
def PA(X:Cx)(es:List Expr)(t:TA):Prop:=
 ∀(pos:Pos) (pins:List (Addr × Obj)) (s:Shared) (σ:St) (H:Hp) (Q:List V->Hp->Prop),Inv X pins σ H s->t σ H Q->wpAny (model X.prog X.w) X.A (spliced (backTo pos (starEach es X.env))) (AP X pins σ Q) X.xe s
def PS(X:Cx)(st:Stmt)(t:TS):Prop:=
 ∀(pins:List (Addr × Obj)) (s:Shared) (σ:St) (H:Hp) (D:Ends),Inv X pins σ H s->t D σ H->wpAny (model X.prog X.w) X.A (exec st X.env) (SP X pins D) X.xe s
def PSs(X:Cx)(st:List Stmt)(t:TS):Prop:=
 ∀(pins:List (Addr × Obj)) (s:Shared) (σ:St) (H:Hp) (D:Ends),Inv X pins σ H s->t D σ H->wpAny (model X.prog X.w) X.A (execs st X.env) (SP X pins D) X.xe s
theorem thn{α:Type}{t:Sem α}{Q Q':α->Shared->Prop}{M:Model}{A:Around}{E:Value->Shared->Prop}{s:Shared}(h:wpAny M A t Q E s)(hQ:∀a s,Q a s->Q' a s):wpAny M A t Q' E s:=wpAny_mono h hQ fun _ _ x=>x
section
variable {X:Cx}
def zkx(i:Nat):TE:=fun σ H Q=>∃v,σ[i]?=some (some v)/\Q v H
abbrev tC(v:V):TE:=fun _ H Q=>Q v H
theorem zpv{i:Nat}{x:Str}{pos:Pos}(hN:X.N[i]?=some x)(hv:Vis X.env.scope x)(hd:autoParam ((x == ("__debug__" : Str))=false) Internal.aut1._auto_1)(hcd:autoParam ((x == ("__classdict__" : Str))=false) Internal.aut1._auto_1):PE X (.Name x pos) (zkx i):=by
 intro pins s σ H Q I h
 obtain⟨v,e,h⟩:=h
 obtain⟨m,hn,hl⟩:=I.loc
 obtain⟨u,r,l⟩:=hl i x v hN e hv
 have fin:EP X pins σ Q u s:=⟨v,H,I,r,h⟩
 rcases l with⟨hk,hm⟩ | ⟨hk,c,hc,hcell⟩
 ·exact wpAny_Name (wpAny_loadName_local I.ok.kind hk hn hm fin) hd
 ·rcases hk with hk | hk
  ·exact wpAny_Name (wpAny_loadName_cell I.ok.kind hk hc hcell fin) hd
  ·exact wpAny_Name (wpAny_loadName_free I.ok.kind hk hc hcell fin hcd) hd
theorem ze{i j pos}:PE X (.Constant (.int i) j pos) (tC (.int i)):=fun _ _ _ H _ I h=>wpAny_Constant_int ⟨.int i,H,I.tok _,⟨_,rfl⟩,h⟩
theorem zbI{b j pos}:PE X (.Constant (.bool b) j pos) (tC (.bl b)):=fun _ _ _ H _ I h=>Constant_bool ⟨.bl b,H,I,rfl,h⟩
theorem zaZ{j pos}:PE X (.Constant .none j pos) (tC .non):=fun _ _ _ H _ I h=>Constant_none ⟨.non,H,I,rfl,h⟩
def Gl(X:Cx)(x:Str):Prop:=X.env.kindOf x=some .globalImplicit
theorem zpk{E:Value->Shared->Prop}{pins:List (Addr × Obj)}{s:Shared}{σ:St}{H:Hp}{x:Str}{u:Value}{pos:Pos}{Q:Value->Shared->Prop}(I:Inv X pins σ H s)(hg:Gl X x)(hm:X.mg x=some u)(h:Q u s)
  (hd:autoParam ((x == ("__debug__" : Str))=false) Internal.aut1._auto_1):wpAny (model X.prog X.w) X.A (eval (.Name x pos) X.env) Q E s:=
 Calls.Name_function_global I.ok.kind hg (Calls.loadGlobal_global (by rw[I.ok.glob];exact I.mod.glob.keeps I.bk) hm h) hd
theorem zcC{E:Value->Shared->Prop}{pins:List (Addr × Obj)}{s:Shared}{σ:St}{H:Hp}{x:Str}{u:Value}{pos:Pos}{Q:Value->Shared->Prop}(I:Inv X pins σ H s)(hg:Gl X x)(hm:X.mg x=none)(hv:bootBuiltins x=some u)(h:Q u s)
  (hn:autoParam (x ≠ "__name__") Internal.aut1._auto_1) (hd:autoParam ((x == ("__debug__" : Str))=false) Internal.aut1._auto_1):wpAny (model X.prog X.w) X.A (eval (.Name x pos) X.env) Q E s:=by
 obtain⟨mb,h1,h2⟩:=I.mod.blt
 exact Calls.Name_function_global I.ok.kind hg (Calls.loadGlobal_builtin (by rw[I.ok.glob];exact I.mod.glob.keeps I.bk) hm (by rw[I.ok.blt];exact h1.keeps I.bk) ((h2 x hn).trans hv) h) hd
theorem zek{x:Str}{v:V}{u:Value}{pos:Pos}(hg:Gl X x)(hm:X.mg x=none)(hv:bootBuiltins x=some u)(r:RelV v u)(hn:autoParam (x ≠ "__name__") Internal.aut1._auto_1)(hd:autoParam ((x == ("__debug__" : Str))=false) Internal.aut1._auto_1):PE X (.Name x pos) (tC v):=
 fun _ _ _ H _ I h=>zcC I hg hm hv ⟨v,H,I,r,h⟩ hn hd
def t2I(ta tb:TE)(k:Int->Int->Hp->Prop):St->Hp->Prop:=fun σ H=>ta σ H fun x H1=>tb σ H1 fun y H2=>∃i j,x=.int i/\y=.int j/\k i j H2
variable {a b:Expr}{ta tb:TE}{pos:Pos}
def zg4(p:Int->Int->Bool)(ta tb:TE):TE:=fun σ H Q=>t2I ta tb (fun i j H2=>Q (.bl (p i j)) H2) σ H
abbrev tLt:TE->TE->TE:=zg4 fun i j=>decide (i<j)
abbrev tLe:TE->TE->TE:=zg4 fun i j=>decide (i<=j)
abbrev tGt:TE->TE->TE:=zg4 fun i j=>decide (j<i)
abbrev tGe:TE->TE->TE:=zg4 fun i j=>decide (j<=i)
abbrev zrL:TE->TE->TE:=zg4 fun i j=>decide (i=j)
abbrev zrK:TE->TE->TE:=zg4 fun i j=>!decide (i=j)
variable {tA tB':TT}{rest:List Expr}
abbrev zrq(t u:TT):TT:=fun σ H Q=>t σ H fun c H1=>if c=true then u σ H1 Q else Q false H1
abbrev tOr(t u:TT):TT:=fun σ H Q=>t σ H fun c H1=>if c=true then Q true H1 else u σ H1 Q
abbrev zrh(t:TT):TT:=fun σ H Q=>t σ H fun c H1=>Q (!c) H1
theorem zbL(ha:PT X a tA):PW X (.BoolOp .And [a] pos) tA:=by
 intro wh pins s σ H Q I h
 refine isTrue_and (thn (ha pins s σ H Q I h) fun c s1 e=>?_)
 cases c with
 | true=>exact isTrue_and_nil e
 | false=>exact e
theorem zc2(ha:PT X a tA):PW X (.BoolOp .Or [a] pos) tA:=by
 intro wh pins s σ H Q I h
 refine isTrue_or (thn (ha pins s σ H Q I h) fun c s1 e=>?_)
 cases c with
 | false=>exact isTrue_or_nil e
 | true=>exact e
theorem zbO(ha:PT X a tA)(hb:PW X (.BoolOp .And (b :: rest) pos) tB'):PW X (.BoolOp .And (a :: b :: rest) pos) (zrq tA tB'):=by
 intro wh pins s σ H Q I h
 refine isTrue_and (thn (ha pins s σ H _ I h) fun c s1 ⟨H1,I1,q1⟩=>?_)
 cases c with
 | true=>exact hb wh pins s1 σ H1 Q I1 q1
 | false=>exact⟨H1,I1,q1⟩
theorem zcF(ha:PT X a tA)(hb:PW X (.BoolOp .Or (b :: rest) pos) tB'):PW X (.BoolOp .Or (a :: b :: rest) pos) (tOr tA tB'):=by
 intro wh pins s σ H Q I h
 refine isTrue_or (thn (ha pins s σ H _ I h) fun c s1 ⟨H1,I1,q1⟩=>?_)
 cases c with
 | true=>exact⟨H1,I1,q1⟩
 | false=>exact hb wh pins s1 σ H1 Q I1 q1
theorem zcy(ha:PT X a tA):PT X (.UnaryOp .Not a pos) (zrh tA):=by
 intro pins s σ H Q I h
 exact isTrue_not (ha pins s σ H (fun c H1=>Q (!c) H1) I h)
def zof(ta tb:TE):TE:=fun σ H Q=>ta σ H fun x H1=>∃c,x=.bl c/\if c=true then tb σ H1 Q else Q (.bl false) H1
theorem zlm{op}{t:TE}(h:PE X a t):PE X (.BoolOp op [a] pos) t:=fun pins s σ H Q I hw=>BoolOp_one (h pins s σ H Q I hw)
theorem zl7(ha:PE X a ta)(hb:PE X (.BoolOp .And (b :: rest) pos) tb):PE X (.BoolOp .And (a :: b :: rest) pos) (zof ta tb):=by
 intro pins s σ H Q I h
 refine BoolOp_and (thn (ha pins s σ H _ I h) fun v s1 zz=>?_)
 obtain⟨x,H1,I1,r1,q1⟩:=zz
 obtain⟨c,rfl,q1⟩:=q1
 cases r1
 refine wpAny_truthy_bool ?_
 cases c with
 | true=>exact hb pins s1 σ H1 Q I1 q1
 | false=>exact⟨.bl false,H1,I1,rfl,q1⟩
abbrev tIf(t:TT)(ta tb:TE):TE:=fun σ H Q=>t σ H fun c H1=>if c=true then ta σ H1 Q else tb σ H1 Q
theorem zdP{c:Expr}(hc:PT X c tA)(ha:PE X a ta)(hb:PE X b tb):PE X (.IfExp c a b pos) (tIf tA ta tb):=by
 intro pins s σ H Q I h
 refine wpAny_IfExp (thn (hc pins s σ H _ I h) fun d s1 ⟨H1,I1,q1⟩=>?_)
 cases d with
 | true=>exact ha pins s1 σ H1 Q I1 q1
 | false=>exact hb pins s1 σ H1 Q I1 q1
end
def SqL(K:Fg)(H:Hp)(a:Addr)(xs:List V):Prop:=
 Rd H a (.lst xs) \/
  ∃(o:Obj) (its:Array Value) (n:Nat),K.lookup a=some o/\o.cls=.type "list" /\ o.dict=none/\o.data=.seq its n/\its.size<=sizeLine/\Vals xs its.toList
def SqT(K:Fg)(H:Hp)(a:Addr)(xs:List V):Prop:=
 Rd H a (.tup xs) \/
  ∃(o:Obj) (its:Array Value) (n:Nat),K.lookup a=some o/\o.cls=.type "tuple" /\ o.data=.seq its n/\its.size<=sizeLine/\Vals xs its.toList
def zrj:Value->Option V
 | .none=>some .non
 | .bool b=>some (.bl b)
 | .int i _=>some (.int i)
 | .str x _=>some (.str x)
 | .bytes b _=>some (.byt b)
 | .float b _=>some (.flt b)
 | .ref a=>some (.ref a)
 | .type n=>some (.ty n)
 | _=>none
theorem RelV.abs{x:V}{u:Value}(r:RelV x u):zrj u=some x:=by
 cases x with
 | non=>cases r;rfl
 | bl _=>cases r;rfl
 | int _=>obtain⟨t,rfl⟩:=r;rfl
 | str _=>obtain⟨t,rfl⟩:=r;rfl
 | byt _=>obtain⟨t,rfl⟩:=r;rfl
 | flt _=>obtain⟨t,rfl⟩:=r;rfl
 | ref _=>cases r;rfl
 | ty _=>cases r;rfl
theorem RelV.inj{x y:V}{u:Value}(r:RelV x u)(q:RelV y u):x=y:=yp (r.abs.symm.trans q.abs)
theorem Vals.inj:∀{xs ys:List V} {us:List Value},Vals xs us->Vals ys us->xs=ys
 | _,_,_,.nil,.nil=>rfl
 | _,_,_,.cons r t,.cons r' t'=>by rw[r.inj r',Vals.inj t t']
section
variable {X:Cx}{pins:List (Addr × Obj)}{σ:St}{H:Hp}{s:Shared}{a:Addr}{xs ys:List V}
theorem SqL.of{K:Fg}(h:H a=some (.lst xs)):SqL K H a xs:=.inl (.inl h)
theorem SqT.of{K:Fg}(h:H a=some (.tup xs)):SqT K H a xs:=.inl (.inl h)
theorem Inv.list(I:Inv X pins σ H s)(h:SqL X.K H a xs):∃its:List Value,Vals xs its/\PlainL s.heap a its.toArray/\xs.length<=sizeLine:=by
 rcases h with h | ⟨o,its,n,hk,hc,hd,hs,hz,r⟩
 ·obtain⟨z,its,n,r,e⟩:=h.ok I.hok
  exact⟨its,r,⟨_,n,e,rfl,rfl,rfl⟩,z⟩
 ·refine⟨its.toList,r,⟨o,n,I.kIn a o hk,hc,hd,by simpa using hs⟩,?_⟩
  have e:=r.length
  simp only[Array.length_toList]at e
  omega
theorem Inv.tuple(I:Inv X pins σ H s)(h:SqT X.K H a xs):∃its:List Value,Vals xs its/\IsTup s.heap a its.toArray/\xs.length<=sizeLine:=by
 rcases h with h | ⟨o,its,n,hk,hc,hs,hz,r⟩
 ·obtain⟨z,its,r,p⟩:=h.ok I.hok
  exact⟨its,r,p,z⟩
 ·refine⟨its.toList,r,⟨o,I.kIn a o hk,hc,n,by simpa using hs⟩,?_⟩
  have e:=r.length
  simp only[Array.length_toList]at e
  omega
theorem Inv.list_inj(I:Inv X pins σ H s)(h:SqL X.K H a xs)(h':SqL X.K H a ys):xs=ys:=by
 obtain⟨its,r,⟨o,n,e,_,_,d⟩,_⟩:=I.list h
 obtain⟨its',r',⟨o',n',e',_,_,d'⟩,_⟩:=I.list h'
 rw[e]at e';cases e'
 rw[d]at d'
 injection d' with d1 _
 have:its=its':=by simpa using congrArg Array.toList d1
 subst this
 exact r.inj r'
end
abbrev Cx.wish(X:Cx)(E:Value->Shared->Prop):Cx:={ X with xe:=E }
abbrev Cx.nox(X:Cx):Cx:=X.wish fun _ _=>False
theorem Cx.Ok.wish{X:Cx}(ok:X.Ok)(E:Value->Shared->Prop):(X.wish E).Ok:=
 ⟨ok.mod,ok.kind,ok.glob,ok.blt,ok.above,ok.inj,ok.has,ok.cab,ok.hd,ok.frames,ok.stk,ok.exf,ok.bs,ok.bsz,ok.noex,ok.exfs,ok.funs,ok.frf⟩
theorem Cx.Ok.unwish{X:Cx}{E:Value->Shared->Prop}(ok:(X.wish E).Ok):X.Ok:=
 ⟨ok.mod,ok.kind,ok.glob,ok.blt,ok.above,ok.inj,ok.has,ok.cab,ok.hd,ok.frames,ok.stk,ok.exf,ok.bs,ok.bsz,ok.noex,ok.exfs,ok.funs,ok.frf⟩
section
variable {X:Cx}{pins:List (Addr × Obj)}{σ:St}{H:Hp}{s:Shared}{E:Value->Shared->Prop}
theorem Inv.wish(I:Inv X pins σ H s)(E:Value->Shared->Prop):Inv (X.wish E) pins σ H s:=⟨I.ok.wish E,I.os,I.bare,I.base,I.loc,I.cell,I.free,I.freeC,I.pin,I.hok,I.len⟩
theorem Inv.unwish(I:Inv (X.wish E) pins σ H s):Inv X pins σ H s:=⟨I.ok.unwish,I.os,I.bare,I.base,I.loc,I.cell,I.free,I.freeC,I.pin,I.hok,I.len⟩
theorem SP.unwish{D:Ends}{f:Flow}{s':Shared}(h:SP (X.wish E) pins D f s'):SP X pins D f s':=by
 cases f with
 | next=>obtain⟨σ',H',I,q⟩:=h;exact⟨σ',H',I.unwish,q⟩
 | brk=>obtain⟨σ',H',I,q⟩:=h;exact⟨σ',H',I.unwish,q⟩
 | cont=>obtain⟨σ',H',I,q⟩:=h;exact⟨σ',H',I.unwish,q⟩
 | ret u=>obtain⟨v,σ',H',I,r,q⟩:=h;exact⟨v,σ',H',I.unwish,r,q⟩
theorem PSs.nox{st:List Stmt}{t:TS}(h:PSs X.nox st t):PSs X st t:=fun pins s σ H D I hw=>
 wpAny_mono (h pins s σ H D (I.wish _) hw) (fun _ _ q=>q.unwish) fun _ _ z=>False.elim z
end
section
variable {X:Cx}{st:Stmt}{rest:List Stmt}{t u:TS}{e:Expr}{te:TE}{pos:Pos}
abbrev zqY:TS:=fun D σ H=>D.nx σ H
abbrev zrk(t u:TS):TS:=fun D σ H=>t { D with nx:=u D } σ H
theorem zL:PSs X [] zqY:=fun _ _ σ H _ I h=>wpAny_execs_nil ⟨σ,H,I,h⟩
theorem zh(h1:PS X st t)(h2:PSs X rest u):PSs X (st :: rest) (zrk t u):=by
 intro pins s σ H D I h
 refine wpAny_execs_cons (thn (h1 pins s σ H { D with nx:=u D } I h) fun f s1 q=>?_)
 cases f with
 | next=>
  obtain⟨σ',H',I',q⟩:=q
  exact h2 pins s1 σ' H' D I' q
 | ret v=>exact q
 | brk=>exact q
 | cont=>exact q
theorem zj(h1:PS X st t):PSs X [st] t:=by
 intro pins s σ H D I h
 refine wpAny_execs_cons (thn (h1 pins s σ H D I h) fun f s1 q=>?_)
 cases f with
 | next=>exact wpAny_execs_nil q
 | ret v=>exact q
 | brk=>exact q
 | cont=>exact q
abbrev zrx:TS:=fun D σ H=>D.bk σ H
abbrev zrB:TS:=fun D σ H=>D.ct σ H
theorem Inv.quiet{pins:List (Addr × Obj)}{σ:St}{H:Hp}{s:Shared}(I:Inv X pins σ H s):interactive X.env=false:=by simp[interactive,I.ok.kind]
abbrev zqK(te:TE):TS:=fun D σ H=>te σ H fun _ H1=>D.nx σ H1
theorem zcN(he:PE X e te)(hs:autoParam (swapsWith e none pos.line X.env=pure false) Internal.aut2._auto_1):PS X (.Expr e pos) (zqK te):=by
 intro pins s σ H D I h
 exact wpAny_Expr_any (thn (he pins s σ H _ I h) fun v s1 ⟨x,H1,I1,r1,q1⟩=>⟨σ,H1,I1,q1⟩) I.quiet hs
abbrev zri(te:TE):TS:=fun D σ H=>te σ H D.rt
theorem zw(he:PE X e te):PS X (.Return (some e) pos) (zri te):=by
 intro pins s σ H D I h
 exact wpAny_Return_some (thn (he pins s σ H _ I h) fun v s1 ⟨x,H1,I1,r1,q1⟩=>⟨x,σ,H1,I1,r1,q1⟩)
abbrev zrD:TS:=fun D _ H=>D.rt .non H
abbrev zro(c:TT)(t u:TS):TS:=fun D σ H=>c σ H fun b H1=>if b=true then t D σ H1 else u D σ H1
theorem zO{c:Expr}{a b:List Stmt}{tc:TT}(hc:PT X c tc)(ha:PSs X a t)(hb:PSs X b u):PS X (.If c a b pos) (zro tc t u):=by
 intro pins s σ H D I h
 refine wpAny_If (thn (hc pins s σ H _ I h) fun d s1 ⟨H1,I1,q1⟩=>?_)
 cases d with
 | true=>exact ha pins s1 σ H1 D I1 q1
 | false=>exact hb pins s1 σ H1 D I1 q1
def zpU:TS:=fun _ _ _=>False
theorem zf9:PS X st zpU:=fun _ _ _ _ _ _ h=>h.elim
end
abbrev TG:=V->St->Hp->(St->Hp->Prop)->Prop
abbrev TGs:=List V->St->Hp->(St->Hp->Prop)->Prop
def PG(X:Cx)(target:Expr)(t:TG):Prop:=
 ∀(pins:List (Addr × Obj)) (s:Shared) (σ:St) (H:Hp) (v:V) (u:Value) (Q:St->Hp->Prop),Inv X pins σ H s->RelV v u->t v σ H Q ->
  wpAny (model X.prog X.w) X.A (assign target X.env u) (fun _ s'=>∃σ' H',Inv X pins σ' H' s'/\Q σ' H') X.xe s
def PGs(X:Cx)(ts:List Expr)(t:TGs):Prop:=
 ∀(pins:List (Addr × Obj)) (s:Shared) (σ:St) (H:Hp) (vs:List V) (us:List Value) (Q:St->Hp->Prop),Inv X pins σ H s->Vals vs us->t vs σ H Q ->
  wpAny (model X.prog X.w) X.A (assignInOrder ((assignEach ts X.env).map (·.2)) us) (fun _ s'=>∃σ' H',Inv X pins σ' H' s'/\Q σ' H') X.xe s
abbrev zgO:=V->V->V->Hp->(Hp->Prop)->Prop
def znL(X:Cx)(t:zgO):Prop:=
 ∀(pins:List (Addr × Obj)) (s:Shared) (σ:St) (H:Hp) (o i v:V) (ov iv u:Value) (Q:Hp->Prop),Inv X pins σ H s->RelV o ov->RelV i iv->RelV v u->t o i v H Q ->
  wpAny (model X.prog X.w) X.A (setItem ov iv u) (fun _ s'=>∃H',Inv X pins σ H' s'/\Q H') X.xe s
abbrev TIp:=V->V->Hp->VK->Prop
def PIp(X:Cx)(op:Operator)(t:TIp):Prop:=
 ∀(pins:List (Addr × Obj)) (s:Shared) (σ:St) (H:Hp) (x y:V) (v u:Value) (Q:VK),Inv X pins σ H s->RelV x v->RelV y u->t x y H Q ->
  wpAny (model X.prog X.w) X.A (inplaceOp op v u) (EP X pins σ Q) X.xe s
section
variable {X:Cx}{pos:Pos}
abbrev zfs(i:Nat):TG:=fun v σ H Q=>Q (σ.set i (some v)) H
theorem zM{i:Nat}{x:Str}(hN:X.N.Nodup)(hi:X.N[i]?=some x)(hx:Loc X.env.scope x)(hf:autoParam (X.fn x=true\/X.env.scope.names.lookup x=some .local) Internal.aut0._auto_1):PG X (.Name x pos) (zfs i):=by
 intro pins s σ H v u Q I r h
 exact wpAny_assign_Name (zfN I hN hi hx r (fun s' I'=>⟨_,H,I',h⟩) hf)
def zpV:TGs:=fun vs σ H Q=>vs=[]/\Q σ H
def zn9(t:TG)(u:TGs):TGs:=fun vs σ H Q=>∃v r,vs=v :: r/\t v σ H fun σ' H'=>u r σ' H' Q
theorem zav:PGs X [] zpV:=by
 intro pins s σ H vs us Q I r h
 obtain⟨e,h⟩:=h
 subst e
 cases r
 exact assignInOrder_nil ⟨σ,H,I,h⟩
theorem zK{e:Expr}{es:List Expr}{t:TG}{u:TGs}(h1:PG X e t)(h2:PGs X es u)
  (hs:autoParam ((assignEach (e :: es) X.env).map (·.2)=assign e X.env :: (assignEach es X.env).map (·.2)) Internal.aut2._auto_1):PGs X (e :: es) (zn9 t u):=by
 intro pins s σ H vs us Q I r h
 obtain⟨v,vr,e1,h⟩:=h
 subst e1
 cases r with
 | cons r rr=>
  rw[hs]
  refine assignInOrder_cons (thn (h1 pins s σ H _ _ _ I r h) fun _ s1 zz=>?_)
  obtain⟨σ1,H1,I1,q1⟩:=zz
  exact h2 pins s1 σ1 H1 _ _ Q I1 rr q1
def zbr(K:Fg)(n:Nat)(t:TGs):TG:=fun v σ H Q=>∃a xs,v=.ref a/\SqT K H a xs/\xs.length=n/\t xs σ H Q
theorem zaL{es:List Expr}{k:Nat}{t:TGs}{n:Nat}(hc:X.calm=true)(h:PGs X es t)
  (hn:autoParam ((assignEach es X.env).length=n) Internal.aut2._auto_1) (hst:autoParam ((assignEach es X.env).findIdx? (·.1)=none) Internal.aut2._auto_1):PG X (.Tuple es k pos) (zbr X.K n t):=by
 intro pins s σ H v u Q I r hw
 obtain⟨a,xs,e1,hq,hl,hw⟩:=hw
 subst e1
 cases r
 obtain⟨its,rv,ht,hz⟩:=I.tuple hq
 refine assign_Tuple_tuple (I.ok.hd hc) ht (by simp[hn,<- hl,rv.length]) hst fun h' hx=>?_
 have I1:Inv X pins σ H { s with heap:=h' }:=I.kept (t':=s.toks) fun b o e=>hx b o (yr (Heap.lt_size e)) e
 exact h pins _ σ H xs _ Q I1 (by simpa using rv) hw
abbrev zrf(to ti:TE)(t:zgO):TG:=fun v σ H Q=>to σ H fun o H1=>ti σ H1 fun i H2=>t o i v H2 fun H3=>Q σ H3
theorem zcB{o i:Expr}{to ti:TE}{t:zgO}(ho:PE X o to)(hi:PE X i ti)(hs:znL X t)
  (ha:autoParam (∀v,assign (.Subscript o i pos) X.env v=(do
   let ov <- holding [v] (eval o X.env)
   let iv <- holding [v,ov] (eval i X.env)
   standAt pos
   holding [v,ov,iv] (setItem ov iv v)
   release [v,ov,iv] [])) Internal.aut3._auto_1):PG X (.Subscript o i pos) (zrf to ti t):=by
 intro pins s σ H v u Q I r h
 rw[ha]
 refine wpAny_bind (wpAny_holding (thn (ho pins s σ H _ I h) fun ov s1 zz=>?_))
 obtain⟨x,H1,I1,r1,q1⟩:=zz
 refine wpAny_bind (wpAny_holding (thn (hi pins s1 σ H1 _ I1 q1) fun iv s2 zz=>?_))
 obtain⟨y,H2,I2,r2,q2⟩:=zz
 refine wpAny_bind (wpAny_standAt (wpAny_bind (wpAny_holding (thn (hs pins s2 σ H2 x y v ov iv u _ I2 r1 r2 r q2) fun _ s3 ⟨H3,I3,q3⟩=>?_))))
 exact wpAny_release ⟨σ,H3,I3,q3⟩
abbrev znc(te:TE)(g:TG):TS:=fun D σ H=>te σ H fun x H1=>g x σ H1 D.nx
theorem zcA{tg e:Expr}{te:TE}{g:TG}(he:PE X e te)(hg:PG X tg g)(hs:autoParam (swapsWithSole [tg] e pos.line X.env=pure false) Internal.aut2._auto_1)(hw:autoParam (swappedStores [tg] e X.env=pure none) Internal.aut2._auto_1)
  (h1:autoParam ((assignEach [tg] X.env).map (·.2)=[assign tg X.env]) Internal.aut2._auto_1):PS X (.Assign [tg] e pos) (znc te g):=by
 intro pins s σ H D I h
 refine wpAny_Assign_stores (thn (he pins s σ H _ I h) fun v s1 zz=>?_) hs hw
 obtain⟨x,H1,I1,r1,q1⟩:=zz
 rw[h1]
 exact thn (hg pins s1 σ H1 x v _ I1 r1 q1) fun _ s2 q=>q
theorem zp{i:Nat}{x:Str}{e:Expr}{te:TE}{pos':Pos}(hN:X.N.Nodup)(hi:X.N[i]?=some x)(hx:Loc X.env.scope x)(he:PE X e te)(hs:autoParam (swapsWith e (some (.Name x pos')) pos.line X.env=pure false) Internal.aut2._auto_1)(hf:autoParam (X.fn x=true\/X.env.scope.names.lookup x=some .local) Internal.aut0._auto_1) :
  PS X (.Assign [.Name x pos'] e pos) (znc te (zfs i)):=by
 intro pins s σ H D I h
 refine wpAny_Assign_Name (thn (he pins s σ H _ I h) fun v s1 zz=>?_) hs
 obtain⟨y,H1,I1,r1,q1⟩:=zz
 exact zfN I1 hN hi hx r1 (fun s2 I2=>⟨_,H1,I2,q1⟩) hf
def zm4(i:Nat)(te:TE)(ti:TIp):TS:=fun D σ H=>∃x,σ[i]?=some (some x)/\te σ H fun y H1=>ti x y H1 fun z H2=>D.nx (σ.set i (some z)) H2
theorem zlG{i:Nat}{x:Str}{e:Expr}{te:TE}{op:Operator}{ti:TIp}{pos':Pos}(hN:X.N.Nodup)(hi:X.N[i]?=some x)(hx:Loc X.env.scope x)(he:PE X e te)(ho:PIp X op ti)(hf:autoParam (X.fn x=true\/X.env.scope.names.lookup x=some .local) Internal.aut0._auto_1) :
  PS X (.AugAssign (.Name x pos') op e pos) (zm4 i te ti):=by
 intro pins s σ H D I h
 obtain⟨v,e1,h⟩:=h
 obtain⟨m,hn,hl⟩:=I.loc
 have vis:Vis X.env.scope x:=by rcases hx with k | k;exact .inl k;exact .inr (.inl k)
 obtain⟨u,r,l⟩:=hl i x v hi e1 vis
 refine wpAny_AugAssign_Name ?_
 have go:wpAny (model X.prog X.w) X.A (eval e X.env) (fun w s₂=>wpAny (model X.prog X.w) X.A (inplaceOp op u w) (fun r s₃=>wpAny (model X.prog X.w) X.A (storeName X.env x r) (fun _=>SP X pins D .next) X.xe s₃) X.xe s₂) X.xe s:=by
  refine thn (he pins s σ H _ I h) fun w s1 zz=>?_
  obtain⟨y,H1,I1,r1,q1⟩:=zz
  refine thn (ho pins s1 σ H1 v y u w _ I1 r r1 q1) fun z s2 zz=>?_
  obtain⟨zv,H2,I2,r2,q2⟩:=zz
  exact zfN I2 hN hi hx r2 (fun s3 I3=>⟨_,H2,I3,q2⟩) hf
 rcases l with⟨hk,hm⟩ | ⟨hk,c,hc,hcell⟩
 ·exact wpAny_loadName_local I.ok.kind hk hn hm go
 ·rcases hk with hk | hk
  ·exact wpAny_loadName_cell I.ok.kind hk hc hcell go
  ·rcases hx with k | k
   ·have:X.env.scope.names.lookup x=some .free:=hk
    rw[k]at this;cases this
   ·have:X.env.scope.names.lookup x=some .free:=hk
    rw[k]at this;cases this
def zok(to ti te:TE)(tget:V->V->Hp->VK->Prop)(tip:TIp)(tset:zgO):TS:=fun D σ H=>to σ H fun o H1=>ti σ H1 fun i H2=>tget o i H2 fun x H3=>te σ H3 fun y H4=>tip x y H4 fun z H5=>tset o i z H5 fun H6=>D.nx σ H6
def zjn(X:Cx)(t:V->V->Hp->VK->Prop):Prop:=
 ∀(pins:List (Addr × Obj)) (s:Shared) (σ:St) (H:Hp) (o i:V) (ov iv:Value) (Q:VK),Inv X pins σ H s->RelV o ov->RelV i iv->t o i H Q ->
  wpAny (model X.prog X.w) X.A (getItem ov iv) (EP X pins σ Q) X.xe s
theorem zhc{o i e:Expr}{to ti te:TE}{tget:V->V->Hp->VK->Prop}{tip:TIp}{tset:zgO}{op:Operator}{tpos:Pos}(ho:PE X o to)(hi:PE X i ti)(hg:zjn X tget)(he:PE X e te)(hp:PIp X op tip)(hs:znL X tset)
  (ha:autoParam (∀ov iv new,augStore i ov iv new=(do holding [new,ov,iv] (setItem ov iv new);release [new,ov,iv] [];pure .next)) Internal.aut4._auto_1):PS X (.AugAssign (.Subscript o i tpos) op e pos) (zok to ti te tget tip tset):=by
 intro pins s σ H D I h
 refine wpAny_AugAssign_SubscriptAny (thn (ho pins s σ H _ I h) fun ov s1 zz=>?_) ha
 obtain⟨x1,H1,I1,r1,q1⟩:=zz
 refine thn (hi pins s1 σ H1 _ I1 q1) fun iv s2 zz=>?_
 obtain⟨x2,H2,I2,r2,q2⟩:=zz
 refine thn (hg pins s2 σ H2 x1 x2 ov iv _ I2 r1 r2 q2) fun old s3 zz=>?_
 obtain⟨x3,H3,I3,r3,q3⟩:=zz
 refine thn (he pins s3 σ H3 _ I3 q3) fun v s4 zz=>?_
 obtain⟨x4,H4,I4,r4,q4⟩:=zz
 refine thn (hp pins s4 σ H4 x3 x4 old v _ I4 r3 r4 q4) fun new s5 zz=>?_
 obtain⟨x5,H5,I5,r5,q5⟩:=zz
 exact thn (hs pins s5 σ H5 x1 x2 x5 ov iv new _ I5 r1 r2 r5 q5) fun _ s6 ⟨H6,I6,q6⟩=>⟨σ,H6,I6,q6⟩
def ipI(f:Int->Int->Int):TIp:=fun x y H Q=>∃i j,x=.int i/\y=.int j/\Q (.int (f i j)) H
theorem zgA:PIp X .Add (ipI fun i j=>i+j):=by
 intro pins s σ H x y v u Q I r1 r2 h
 obtain⟨i,j,e1,e2,q⟩:=h
 subst e1;subst e2
 obtain⟨t,rfl⟩:=r1
 obtain⟨t',rfl⟩:=r2
 exact iadd_int ⟨.int _,H,I.tok _,⟨_,rfl⟩,q⟩
theorem zpC:PIp X .Sub (ipI fun i j=>i-j):=by
 intro pins s σ H x y v u Q I r1 r2 h
 obtain⟨i,j,e1,e2,q⟩:=h
 subst e1;subst e2
 obtain⟨t,rfl⟩:=r1
 obtain⟨t',rfl⟩:=r2
 exact isub_int ⟨.int _,H,I.tok _,⟨_,rfl⟩,q⟩
end
section
variable {X:Cx}{pos:Pos}
def zp7(c:TT)(tb:TS):TS:=fun D σ H=>∃W:Nat->St->Hp->Prop,(∃m,W m σ H)/\∀m σ H,W m σ H ->
 c σ H fun b H1=>if b=true then ∃N:St->Hp->Prop,(∀σ' H',N σ' H'->∃m',m'<m/\W m' σ' H')/\tb { D with nx:=N,ct:=N,bk:=D.nx } σ H1 else D.nx σ H1
theorem zde{c:Expr}{body:List Stmt}{tc:TT}{tb:TS}(hp:PassesOwn (model X.prog X.w) X.A X.env X.xe)(hc:PT X c tc)(hb:PSs X body tb):PS X (.While c body [] pos) (zp7 tc tb):=by
 intro pins s σ H D I h
 obtain⟨W,⟨m0,w0⟩,turn⟩:=h
 refine wpAny_While (codeAny_whileLoop (fun n s'=>∃σ' H',Inv X pins σ' H' s'/\W n σ' H') ?_ m0 ⟨σ,H,I,w0⟩)
 rintro n s1 ⟨σ1,H1,I1,w1⟩
 refine wpAny_passesOwn hp (thn (hc pins s1 σ1 H1 _ I1 (turn n σ1 H1 w1)) fun b s2 ⟨H2,I2,q2⟩=>?_)
 cases b with
 | true=>
  obtain⟨N,hN,q2⟩:=q2
  rw[if_pos rfl]
  refine wpAny_passesOwn hp (thn (hb pins s2 σ1 H2 _ I2 q2) fun f s3 q3=>?_)
  cases f with
  | next=>
   obtain⟨σ3,H3,I3,n3⟩:=q3
   obtain⟨m',hm,w3⟩:=hN σ3 H3 n3
   exact⟨m',hm,σ3,H3,I3,w3⟩
  | cont=>
   obtain⟨σ3,H3,I3,n3⟩:=q3
   obtain⟨m',hm,w3⟩:=hN σ3 H3 n3
   exact⟨m',hm,σ3,H3,I3,w3⟩
  | brk=>exact q3
  | ret v=>exact q3
 | false=>
  rw[if_neg yo]
  exact wpAny_execs_nil ⟨σ1,H2,I2,q2⟩
end
set_option genInjectivity false in
set_option genSizeOf false in
structure It where
 go:Nat->Hp->Prop
 yld:Nat->Hp->V->Hp->Prop
 stop:Nat->Hp->Prop
def zcV(X:Cx)(pins:List (Addr × Obj))(H:Hp)(b:Addr):Prop:=
 H b=none/\b≠X.env.locals/\b∉X.fs/\(b∈X.ex\/X.s₀.heap.objs.size<=b)/\(∀x c,X.env.cells.lookup x=some c->c≠b)/\∀p∈X.pn++pins,p.1≠b
theorem Inv.fpOk{X:Cx}{pins:List (Addr × Obj)}{σ:St}{H H':Hp}{s:Shared}{b:Addr}(I:Inv X pins σ H s)(hb:s.heap.objs.size<=b)(hn:H' b=none):zcV X pins H' b:=by
 refine⟨hn,Nat.ne_of_gt (yt I.lt hb),I.nofs hb,.inr (yh I.sz hb),fun x c e z=>?_,fun p hp z=>?_⟩
 ·obtain⟨v,q⟩:=I.cell x c e
  exact absurd (yt q.lt (by rw[z];exact hb)) (yQ _)
 ·exact absurd (yt (Heap.lt_size (I.pin p hp).1) (by rw[z];exact hb)) (yQ _)
set_option genInjectivity false in
set_option genSizeOf false in
structure Turn(P:Program)(w:World)(K:Fg)(tg:Expr)(J:It)(fp:List Addr)(it:Addr)(tn:Nat->Heap->Prop):Prop where
 mem:it∈fp
 obj:∀i h,tn i h->∀b∈fp,∃o,h.get? b=some o/\∀v,o.data≠.cell v
 keep:∀i h h',tn i h->(∀b∈fp,∀o,h.get? b=some o->h'.get? b=some o)->tn i h'
 item:∀(X:Cx),X.prog=P->X.w=w->X.K=K->X.calm=true->∀(i:Nat) (pins:List (Addr × Obj)) (s:Shared) (σ:St) (H:Hp) (E:Value->Shared->Prop),Inv X pins σ H s->(∀b∈fp,zcV X pins H b)->tn i s.heap->J.go i H ->
  wpAny (model P w) X.A (pyNext (.ref it)) (fun r s1=>∃u,r=some u /\
   wpAny (model P w) X.A (letOwnedTupleGo tg (.ref it) u) (fun _ s2=>∃x H',Inv X pins σ H' s2/\RelV x u/\J.yld i H x H'/\tn (i+1) s2.heap/\∀b∈fp,H' b=none) E s1) E s
 done:∀(X:Cx),X.prog=P->X.w=w->X.K=K->X.calm=true->∀(i:Nat) (pins:List (Addr × Obj)) (s:Shared) (σ:St) (H:Hp) (E:Value->Shared->Prop),Inv X pins σ H s->(∀b∈fp,zcV X pins H b)->tn i s.heap->J.stop i H ->
  wpAny (model P w) X.A (pyNext (.ref it)) (fun r s1=>r=none/\Inv X pins σ H s1) E s
 self:∀(A:Around) (i:Nat) (s:Shared) (Q:Value->Shared->Prop) (E:Value->Shared->Prop),tn i s.heap->Q (.ref it) s->wpAny (model P w) A (pyIter (.ref it)) Q E s
abbrev TI:=St->Hp->(It->Hp->Prop)->Prop
def PIE(X:Cx)(pins:List (Addr × Obj))(σ:St)(tg:Expr)(R:It->Hp->Prop)(itv:Value)(s2:Shared):Prop:=
 ∃(it:Addr) (fp:List Addr) (tn:Nat->Heap->Prop) (J:It) (H':Hp),itv=.ref it/\Inv X pins σ H' s2/\Turn X.prog X.w X.K tg J fp it tn/\tn 0 s2.heap/\(∀b∈fp,zcV X pins H' b)/\R J H'
def PI(X:Cx)(tg iter:Expr)(wi:TI):Prop:=
 ∀(pins:List (Addr × Obj)) (s:Shared) (σ:St) (H:Hp) (R:It->Hp->Prop),Inv X pins σ H s->wi σ H R ->
  wpAny (model X.prog X.w) X.A (eval iter X.env) (fun v s1=>wpAny (model X.prog X.w) X.A (pyIter v) (PIE X pins σ tg R) X.xe s1) X.xe s
theorem zlf{M:Model}{A:Around}{E:Value->Shared->Prop}{s:Shared}{tg:Expr}{it:Addr}{u:Value}{o:Obj}{n:String}{vs:Array Value}{Q:Unit->Shared->Prop}(ho:s.heap.get? it=some o)(hc:o.cls=.type n)(hd:o.data=.fields vs)
  (hn:["enumerate", "zip", "dict_itemiterator", "dict_reverseitemiterator", "odict_iterator", "itertools.zip_longest", "itertools.pairwise"].contains n=false) (hQ:Q () s):wpAny M A (letOwnedTupleGo tg (.ref it) u) Q E s:=by
 unfold letOwnedTupleGo
 cases tg<;>first
  | exact wpAny_pure hQ
  | (cases u<;>first
    | exact wpAny_pure hQ
    | (refine wpAny_bind (wpAny_load ho ?_)
       rw[hc,hd]
       show wpAny M A (if(["enumerate", "zip", "dict_itemiterator", "dict_reverseitemiterator", "odict_iterator", "itertools.zip_longest", "itertools.pairwise"].contains n&&vs[0]? == some (rawInt _))=true then _ else _) Q E s
       rw[if_neg (by intro h;rw[hn,Bool.false_and]at h;cases h)]
       exact wpAny_pure hQ))
def Itl(K:Fg)(a:Addr):It:=
 ⟨fun i H=>∃xs x,SqL K H a xs/\xs[i]?=some x,fun i H x H'=>H'=H/\∀xs,SqL K H a xs->xs[i]?=some x,fun i H=>∃xs,SqL K H a xs/\xs.length<=i⟩
def Itr(lo:Int)(n:Nat):It:=⟨fun i _=>i<n,fun i H x H'=>H'=H/\x=.int (lo+i),fun i _=>n<=i⟩
theorem zlN{P:Program}{w:World}{K:Fg}{tg:Expr}(a it:Addr):Turn P w K tg (Itl K a) [it] it (fun i h=>h.IsListIter it a i) where
 mem:=by simp
 obj:=fun i h st b hb=>by
  have e:b=it:=by simpa using hb
  subst e
  obtain⟨o,e,c,d⟩:=st
  exact⟨o,e,fun v z=>by rw[d]at z;cases z⟩
 keep:=fun i h h' st k=>st.at fun o e=>k it (by simp) o e
 item:=by
  intro X hP hw hK hc i pins s σ H E I hf st hg
  subst hP hw hK
  obtain⟨xs,x,hq,hx⟩:=hg
  obtain⟨its,rv,p,hz⟩:=I.list hq
  obtain⟨u,hu,ru⟩:=rv.get hx
  obtain⟨f0,f1,f2,f3,f4,f5⟩:=hf it (by simp)
  refine wpAny_pyNext_list_item st p.isList (x:=u) (by simpa using hu) fun h' st' sb=>?_
  have I1:Inv X pins σ H { s with heap:=h' }:=I.turned (t':=s.toks) (fun b o hb e=>(sb.2 b hb).trans e) f0 f1 f3 f4 f5
  obtain⟨o,e,c,d⟩:=id st'
  exact⟨u,rfl,zlf (s:={ s with heap:=h' }) e c d (by decide) ⟨x,H,I1,ru,⟨rfl,fun ys hy=>by rw[I.list_inj hy hq];exact hx⟩,st',fun b hb=>(hf b hb).1⟩⟩
 done:=by
  intro X hP hw hK hc i pins s σ H E I hf st hg
  subst hP hw hK
  obtain⟨xs,hq,hx⟩:=hg
  obtain⟨its,rv,p,hz⟩:=I.list hq
  obtain⟨f0,f1,f2,f3,f4,f5⟩:=hf it (by simp)
  have hl:=rv.length
  exact wpAny_pyNext_list_end (I.ok.hd hc) st p.isList (by simp;omega) fun h' eb=>⟨rfl,I.turned (t':=s.toks) (fun b o hb e=>eb b o hb e) f0 f1 f3 f4 f5⟩
 self:=fun _ _ _ _ _ st h=>wpAny_pyIter_listiter st h
theorem zld{P:Program}{w:World}{K:Fg}{tg:Expr}(it:Addr)(lo:Int)(n:Nat):Turn P w K tg (Itr lo n) [it] it (fun i h=>IsRangeIter h it (lo+(i:Nat)*1) ((n:Int)-(i:Nat)) 1) where
 mem:=by simp
 obj:=fun i h st b hb=>by
  have e:b=it:=by simpa using hb
  subst e
  exact⟨_,st,fun v z=>by
   have z':Data.fields _=Data.cell v:=z
   cases z'⟩
 keep:=fun i h h' st k=>k it (by simp) _ st
 item:=by
  intro X hP hw hK hc i pins s σ H E I hf st hg
  subst hP hw hK
  obtain⟨f0,f1,f2,f3,f4,f5⟩:=hf it (by simp)
  have W:=Walks.range (prog:=X.prog) (w:=X.w) (I.ok.hd hc) it lo 1 n
  refine W.item i s _ _ hg st fun v h' tk hv st' kk=>?_
  obtain⟨t,rfl⟩:=hv
  have I1:Inv X pins σ H { s with heap:=h',toks:=tk }:=I.turned (fun b o hb e=>kk b o (by simpa using hb) e) f0 f1 f3 f4 f5
  refine⟨_,rfl,zlf (s:={ s with heap:=h',toks:=tk }) (n := "range_iterator") st' rfl rfl (by decide) ⟨.int (lo+i),H,I1,⟨t,?_⟩,⟨rfl,rfl⟩,st',fun b hb=>(hf b hb).1⟩⟩
  rw[Int.mul_one]
 done:=by
  intro X hP hw hK hc i pins s σ H E I hf st hg
  subst hP hw hK
  obtain⟨f0,f1,f2,f3,f4,f5⟩:=hf it (by simp)
  exact wpAny_pyNext_range_end (I.ok.hd hc) st (by have:n<=i:=hg;omega) fun h' eb=>⟨rfl,I.turned (t':=s.toks) (fun b o hb e=>eb b o hb e) f0 f1 f3 f4 f5⟩
 self:=fun _ _ _ _ _ st h=>wpAny_pyIter_rangeiter st h
section
variable {X:Cx}{tg:Expr}
def zaA(K:Fg)(tl:TE):TI:=fun σ H R=>tl σ H fun x H1=>∃a,x=.ref a/\(∃xs,SqL K H1 a xs)/\R (Itl K a) H1
theorem z8{l:Expr}{tl:TE}(hl:PE X l tl):PI X tg l (zaA X.K tl):=by
 intro pins s σ H R I h
 refine thn (hl pins s σ H _ I h) fun v s1 zz=>?_
 obtain⟨x,H1,I1,r1,q1⟩:=zz
 obtain⟨a,e,⟨xs,hq⟩,q⟩:=q1
 subst e
 cases r1
 obtain⟨its,rv,p,hz⟩:=I1.list hq
 refine wpAny_pyIter_list p.isList ?_
 refine⟨s1.heap.objs.size,[s1.heap.objs.size],_,_,H1,rfl,I1.kept (t':=s1.toks) fun b o e=>Heap.get?_push_of_some _ e,zlN a _,⟨_,Heap.get?_push_size _ rfl,rfl,rfl⟩,fun b hb=>?_,q⟩
 have e:b=s1.heap.objs.size:=by simpa using hb
 subst e
 exact I1.fpOk (ye _) (I1.hok.fresh (ye _))
theorem zjt{pins:List (Addr × Obj)}{σ:St}{H:Hp}{s:Shared}{R:It->Hp->Prop}{E:Value->Shared->Prop}{lo hi:Int}{t u v:Tok}{tk:Nat}(I:Inv X pins σ H s)(h1:-(2 ^ 62)<=lo)(h2:lo<2 ^ 62)(h3:-(2 ^ 62)<=hi)(h4:hi<2 ^ 62)
  (q:R (Itr lo (hi-lo).toNat) H):wpAny (model X.prog X.w) X.A (pyIter (.ref s.heap.objs.size)) (PIE X pins σ tg R) E { s with heap:=s.heap.push { cls:=.type "range",data:=.fields #[.int lo t,.int hi u,.int 1 v] },toks:=tk }:=by
 refine wpAny_pyIter_range (IsRange.new ..) (small_one h1 h2 h3 h4) ?_
 have I1:Inv X pins σ H { s with heap:=s.heap.push { cls:=.type "range",data:=.fields #[.int lo t,.int hi u,.int 1 v] },toks:=tk }:=I.kept fun b o e=>Heap.get?_push_of_some _ e
 refine⟨(s.heap.push { cls:=.type "range",data:=.fields #[.int lo t,.int hi u,.int 1 v] }).objs.size,[(s.heap.push { cls:=.type "range",data:=.fields #[.int lo t,.int hi u,.int 1 v] }).objs.size],_,_,H,rfl,
  I1.kept (t':=tk) fun b o e=>Heap.get?_push_of_some _ e,zld _ lo (hi-lo).toNat,?_,fun b hb=>?_,q⟩
 ·have e1:lo+((0:Nat):Int)*1=lo:=by simp
  have e2:(((hi-lo).toNat:Nat):Int)-((0:Nat):Int)=Builtin.Range.rangeSize lo hi 1:=by rw[rangeSize_one];split<;>omega
  show IsRangeIter _ _ (lo+((0:Nat):Int)*1) ((((hi-lo).toNat:Nat):Int)-((0:Nat):Int)) 1
  rw[e1,e2]
  exact Heap.get?_push_size _ rfl
 ·have e:b=(s.heap.push { cls:=.type "range",data:=.fields #[.int lo t,.int hi u,.int 1 v] }).objs.size:=by simpa using hb
  subst e
  exact I1.fpOk (ye _) (I1.hok.fresh (ye _))
def zob(ta:TA):TI:=fun σ H R=>ta σ H fun vs H1=>∃j:Int,vs=[.int j]/\-(2 ^ 62)<=j/\j<2 ^ 62/\R (Itr 0 j.toNat) H1
def zoj(ta:TA):TI:=fun σ H R=>ta σ H fun vs H1=>∃i j:Int,vs=[.int i,.int j]/\(-(2 ^ 62)<=i/\i<2 ^ 62/\-(2 ^ 62)<=j/\j<2 ^ 62)/\R (Itr i (j-i).toNat) H1
theorem zan{a:Expr}{ta:TA}{p pos:Pos}(hg:Gl X "range")(hm:X.mg "range" = none)(ha:PA X [a] ta)(hs:autoParam (starEach [a] X.env=[(false,eval a X.env)]) Internal.aut2._auto_1):PI X tg (.Call (.Name "range" p) [a] [] pos) (zob ta):=by
 intro pins s σ H R I h
 refine Call_ (zcC I hg hm boot_range (yae (thn (ha pos pins s σ H _ I h) fun us s1 ⟨vs,H1,I1,r1,q1⟩=>?_) hs rfl))
 obtain⟨j,e,q1,q2,q⟩:=q1
 subst e
 cases r1 with
 | cons r rr=>
  cases rr
  obtain⟨t,rfl⟩:=r
  exact call_range_1 (zjt I1 (by omega) (by omega) q1 q2 (by simpa using q))
theorem zmA{a b:Expr}{ta:TA}{p pos:Pos}(hg:Gl X "range")(hm:X.mg "range" = none)(ha:PA X [a,b] ta)(hs:autoParam (starEach [a,b] X.env=[(false,eval a X.env),(false,eval b X.env)]) Internal.aut2._auto_1)(hs2:autoParam (starEach [b] X.env=[(false,eval b X.env)]) Internal.aut2._auto_1) :
  PI X tg (.Call (.Name "range" p) [a,b] [] pos) (zoj ta):=by
 intro pins s σ H R I h
 refine Call_ (zcC I hg hm boot_range (yae (thn (ha pos pins s σ H _ I h) fun us s1 ⟨vs,H1,I1,r1,q1⟩=>?_) (by rw[hs,hs2]) (by rw[hs2];rfl)))
 obtain⟨i,j,e,⟨q1,q2,q3,q4⟩,q⟩:=q1
 subst e
 cases r1 with
 | cons r rr=>
  cases rr with
  | cons r' rr=>
   cases rr
   obtain⟨t,rfl⟩:=r
   obtain⟨t',rfl⟩:=r'
   exact call_range_2 (zjt I1 q1 q2 q3 q4 q)
def zpH(wi:TI)(g:TG)(tb:TS):TS:=fun D σ H=>wi σ H fun J H1=>∃W:Nat->Nat->St->Hp->Prop,(∃m,W 0 m σ H1)/\∀i m σ H,W i m σ H ->
 (J.stop i H/\D.nx σ H)\/(J.go i H/\∃N:St->Hp->Prop,(∀σ' H',N σ' H'->∃m',m'<m/\W (i+1) m' σ' H')/\∀x H',J.yld i H x H'->g x σ H' fun σ2 H2=>tb { D with nx:=N,ct:=N,bk:=D.nx } σ2 H2)
def ze3(fp:List Addr)(h:Heap):List (Addr × Obj):=fp.filterMap fun b=>(h.get? b).map fun o=>(b,o)
theorem zdE{fp:List Addr}{h:Heap}{b:Addr}{o:Obj}(hb:b∈fp)(e:h.get? b=some o):(b,o)∈ze3 fp h:=List.mem_filterMap.mpr ⟨b,hb,by rw[e];rfl⟩
theorem zlj{fp:List Addr}{h:Heap}{p:Addr × Obj}(hp:p∈ze3 fp h):p.1∈fp/\h.get? p.1=some p.2:=by
 obtain⟨b,hb,e⟩:=List.mem_filterMap.mp hp
 cases q:h.get? b with
 | none=>rw[q]at e;cases e
 | some o=>
  rw[q]at e
  have e':(b,o)=p:=yp e
  subst e'
  exact⟨hb,q⟩
theorem Inv.pinned{pins:List (Addr × Obj)}{σ:St}{H:Hp}{s:Shared}{fp:List Addr}(I:Inv X pins σ H s)(hf:∀b∈fp,zcV X pins H b)(ho:∀b∈fp,∃o,s.heap.get? b=some o/\∀v,o.data≠.cell v):Inv X (pins++ze3 fp s.heap) σ H s:=
 I.pins_of fun p hp=>(yT.mp hp).elim (fun z=>I.pin p (yq _ z)) fun z=>by
  obtain⟨hb,e⟩:=zlj z
  obtain⟨f0,f1,f2,_⟩:=hf p.1 hb
  obtain⟨o,e',d⟩:=ho p.1 hb
  rw[e]at e';cases e'
  exact⟨e,f0,f1,f2,d⟩
theorem Inv.unpinned{pins pl:List (Addr × Obj)}{σ:St}{H:Hp}{s:Shared}(I:Inv X (pins++pl) σ H s):Inv X pins σ H s:=I.pins_of fun p hp=>I.pin p (yq _ (yC _ hp))
theorem zat{iter:Expr}{body:List Stmt}{wi:TI}{g:TG}{tb:TS}{pos:Pos}(hp:PassesOwn (model X.prog X.w) X.A X.env X.xe)(hc:X.calm=true)(hi:PI X tg iter wi)(hg:PG X tg g)(hb:PSs X body tb)
  (hs:autoParam (∀x,foldedSetIterable iter X.env x=pure x) Internal.aut3._auto_1):PS X (.For tg iter body [] pos) (zpH wi g tb):=by
 intro pins s σ H D I h
 refine wpAny_For (thn (hi pins s σ H _ I h) fun v s1 h1=>thn h1 fun itv s2 h2=>?_) hs
 obtain⟨it,fp,tn,J,H2,e,I2,T,st2,f2,W,⟨m0,w0⟩,turn⟩:=h2
 subst e
 -- what stays true of the iterator's objects through the loop
 have stat:∀{H':Hp},(∀b∈fp,H' b=none)->∀b∈fp,zcV X pins H' b:=fun hn b hb=>⟨hn b hb,(f2 b hb).2⟩
 refine codeAny_forLoop_any (fun n s'=>∃i σ' H',Inv X pins σ' H' s'/\tn i s'.heap/\(∀b∈fp,H' b=none)/\W i n σ' H') ?_ m0 ⟨0,σ,H2,I2,st2,fun b hb=>(f2 b hb).1,w0⟩
 rintro n s3 ⟨i,σ3,H3,I3,st3,fr3,w3⟩
 rcases turn i n σ3 H3 w3 with⟨stop,qn⟩ | ⟨go,N,hN,step⟩
 ·refine wpAny_passesOwn hp (thn (T.done X rfl rfl rfl hc i pins s3 σ3 H3 X.xe I3 (stat fr3) st3 stop) fun r s4 ⟨hr,I4⟩=>?_)
  subst hr
  exact wpAny_execs_nil ⟨σ3,H3,I4,qn⟩
 ·refine wpAny_passesOwn hp (thn (T.item X rfl rfl rfl hc i pins s3 σ3 H3 X.xe I3 (stat fr3) st3 go) fun r s4 ⟨u,hr,h4⟩=>?_)
  subst hr
  refine wpAny_passesOwn hp (thn h4 fun _ s5 zz=>?_)
  obtain⟨x,H5,I5,r5,y5,st5,fr5⟩:=zz
  have I5':=I5.pinned (stat fr5) (T.obj _ _ st5)
  refine wpAny_passesOwn hp (thn (hg _ s5 σ3 H5 x u _ I5' r5 (step x H5 y5)) fun _ s6 zz=>?_)
  obtain⟨σ6,H6,I6,q6⟩:=zz
  refine wpAny_passesOwn hp (thn (hb _ s6 σ6 H6 _ I6 q6) fun f s7 q7=>?_)
  have again:∀{σ7:St} {H7:Hp},Inv X (pins++ze3 fp s5.heap) σ7 H7 s7->N σ7 H7->∃m,m<n/\∃i σ' H',Inv X pins σ' H' s7/\tn i s7.heap/\(∀b∈fp,H' b=none)/\W i m σ' H':=fun {σ7 H7} I7 n7=>by
   obtain⟨m',hm,w7⟩:=hN σ7 H7 n7
   refine⟨m',hm,i+1,σ7,H7,I7.unpinned,T.keep _ _ _ st5 fun b hb o e=>(I7.pin (b,o) (yq _ (yq _ (zdE hb e)))).1,fun b hb=>?_,w7⟩
   obtain⟨o,e,d⟩:=T.obj _ _ st5 b hb
   exact(I7.pin (b,o) (yq _ (yq _ (zdE hb e)))).2.1
  cases f with
  | next=>obtain⟨σ7,H7,I7,n7⟩:=q7;exact again I7 n7
  | cont=>obtain⟨σ7,H7,I7,n7⟩:=q7;exact again I7 n7
  | brk=>obtain⟨σ7,H7,I7,q7⟩:=q7;exact⟨σ7,H7,I7.unpinned,q7⟩
  | ret v=>obtain⟨x7,σ7,H7,I7,r7,q7⟩:=q7;exact⟨x7,σ7,H7,I7.unpinned,r7,q7⟩
end
theorem zmM{K:Fg}{a:Addr}{xs:List V}{g:TG}{tb:TS}{D:Ends}{σ:St}{H:Hp}(Pv:Nat->St->Hp->Prop)(h0:Pv 0 σ H)(hl:∀i σ H,i<=xs.length->Pv i σ H->SqL K H a xs)
  (hs:∀i x σ H,xs[i]?=some x->Pv i σ H->g x σ H fun σ2 H2=>tb { D with nx:=Pv (i+1),ct:=Pv (i+1),bk:=D.nx } σ2 H2) (hd:∀σ H,Pv xs.length σ H->D.nx σ H) :
  ∃W:Nat->Nat->St->Hp->Prop,(∃m,W 0 m σ H)/\∀i m σ H,W i m σ H ->
   ((Itl K a).stop i H/\D.nx σ H)\/((Itl K a).go i H/\∃N:St->Hp->Prop,(∀σ' H',N σ' H'->∃m',m'<m/\W (i+1) m' σ' H')/\∀x H',(Itl K a).yld i H x H'->g x σ H' fun σ2 H2=>tb { D with nx:=N,ct:=N,bk:=D.nx } σ2 H2):=by
 refine⟨fun i m σ H=>m=xs.length-i/\i<=xs.length/\Pv i σ H,⟨xs.length,by simp,yD _,h0⟩,?_⟩
 rintro i m σ H ⟨rfl,hi,p⟩
 have q:=hl i σ H hi p
 by_cases hlt:i<xs.length
 ·refine .inr ⟨⟨xs,xs[i],q,by simp[hlt]⟩,Pv (i+1),fun σ' H' p'=>⟨xs.length-(i+1),by omega,rfl,hlt,p'⟩,fun x H' y=>?_⟩
  obtain⟨e,y⟩:=y
  subst e
  exact hs i x σ _ (y xs q) p
 ·have e:i=xs.length:=by omega
  subst e
  exact .inl ⟨⟨xs,q,ye _⟩,hd σ H p⟩
theorem zlK{lo:Int}{n:Nat}{g:TG}{tb:TS}{D:Ends}{σ:St}{H:Hp}(Pv:Nat->St->Hp->Prop)(h0:Pv 0 σ H)
  (hs:∀i σ H,i<n->Pv i σ H->g (.int (lo+i)) σ H fun σ2 H2=>tb { D with nx:=Pv (i+1),ct:=Pv (i+1),bk:=D.nx } σ2 H2) (hd:∀σ H,Pv n σ H->D.nx σ H) :
  ∃W:Nat->Nat->St->Hp->Prop,(∃m,W 0 m σ H)/\∀i m σ H,W i m σ H ->
   ((Itr lo n).stop i H/\D.nx σ H)\/((Itr lo n).go i H/\∃N:St->Hp->Prop,(∀σ' H',N σ' H'->∃m',m'<m/\W (i+1) m' σ' H')/\∀x H',(Itr lo n).yld i H x H'->g x σ H' fun σ2 H2=>tb { D with nx:=N,ct:=N,bk:=D.nx } σ2 H2):=by
 refine⟨fun i m σ H=>m=n-i/\i<=n/\Pv i σ H,⟨n,by simp,yD _,h0⟩,?_⟩
 rintro i m σ H ⟨rfl,hi,p⟩
 by_cases hlt:i<n
 ·refine .inr ⟨hlt,Pv (i+1),fun σ' H' p'=>⟨n-(i+1),by omega,rfl,hlt,p'⟩,fun x H' y=>?_⟩
  obtain⟨e,y⟩:=y
  subst e y
  exact hs i σ _ hlt p
 ·have e:i=n:=by omega
  subst e
  exact .inl ⟨ye _,hd σ H p⟩
abbrev R2:=V->V->Hp->VK->Prop
def OpR(X:Cx)(f:Value->Value->Sem Value)(r:R2):Prop:=
 ∀(pins:List (Addr × Obj)) (s:Shared) (σ:St) (H:Hp) (x y:V) (v u:Value) (Q:VK),Inv X pins σ H s->RelV x v->RelV y u->r x y H Q ->
  wpAny (model X.prog X.w) X.A (f v u) (EP X pins σ Q) X.xe s
def UnR(X:Cx)(f:Value->Sem Value)(r:V->Hp->VK->Prop):Prop:=
 ∀(pins:List (Addr × Obj)) (s:Shared) (σ:St) (H:Hp) (x:V) (v:Value) (Q:VK),Inv X pins σ H s->RelV x v->r x H Q ->
  wpAny (model X.prog X.w) X.A (f v) (EP X pins σ Q) X.xe s
def CallR(X:Cx)(f:Value)(r:List V->Hp->VK->Prop):Prop:=
 ∀(pins:List (Addr × Obj)) (s:Shared) (σ:St) (H:Hp) (xs:List V) (us:List Value) (Q:VK),Inv X pins σ H s->Vals xs us->r xs H Q ->
  wpAny (model X.prog X.w) X.A (call f us) (EP X pins σ Q) X.xe s
def zrg(X:Cx)(r:V->Hp->(Bool->Hp->Prop)->Prop):Prop:=
 ∀(pins:List (Addr × Obj)) (s:Shared) (σ:St) (H:Hp) (x:V) (v:Value) (Q:Bool->Hp->Prop),Inv X pins σ H s->RelV x v->r x H Q ->
  wpAny (model X.prog X.w) X.A (truthy v) (TP X pins σ Q) X.xe s
abbrev tOp(r:R2)(ta tb:TE):TE:=fun σ H Q=>ta σ H fun x H1=>tb σ H1 fun y H2=>r x y H2 Q
abbrev tUn(r:V->Hp->VK->Prop)(ta:TE):TE:=fun σ H Q=>ta σ H fun x H1=>r x H1 Q
def rI(C:Int->Int->Prop)(g:Int->Int->V):R2:=fun x y H Q=>∃i j,x=.int i/\y=.int j/\C i j/\Q (g i j) H
def rI0(g:Int->Int->V):R2:=fun x y H Q=>∃i j,x=.int i/\y=.int j/\Q (g i j) H
def rU(g:Int->V):V->Hp->VK->Prop:=fun x H Q=>∃i,x=.int i/\Q (g i) H
section
variable {X:Cx}{a b c:Expr}{ta tb tc:TE}{pos:Pos}
theorem znr(ha:PE X a ta)(hb:PE X b tb){pins:List (Addr × Obj)}{s:Shared}{σ:St}{H:Hp}{R:V->V->Hp->Prop}(I:Inv X pins σ H s)
  (h:ta σ H fun x H1=>tb σ H1 fun y H2=>R x y H2) {Q:Value->Shared->Prop} {f:Value->Value->Sem Value}
  (hf:∀v u s2 x y H2,Inv X pins σ H2 s2->RelV x v->RelV y u->R x y H2->wpAny (model X.prog X.w) X.A (f v u) Q X.xe s2) :
  wpAny (model X.prog X.w) X.A (eval a X.env) (fun v s₁=>wpAny (model X.prog X.w) X.A (eval b X.env) (fun u s₂=>wpAny (model X.prog X.w) X.A (f v u) Q X.xe s₂) X.xe s₁) X.xe s:=by
 refine thn (ha pins s σ H _ I h) fun v s1 zz=>?_
 obtain⟨x,H1,I1,r1,q1⟩:=zz
 refine thn (hb pins s1 σ H1 _ I1 q1) fun u s2 zz=>?_
 obtain⟨y,H2,I2,r2,q2⟩:=zz
 exact hf v u s2 x y H2 I2 r1 r2 q2
theorem zG{op:Operator}{r:R2}(ho:OpR X (binaryOp op) r)(ha:PE X a ta)(hb:PE X b tb):PE X (.BinOp a op b pos) (tOp r ta tb):=by
 intro pins s σ H Q I h
 exact wpAny_BinOp (znr ha hb I h fun v u s2 x y H2 I2 rx ry q=>ho pins s2 σ H2 x y v u Q I2 rx ry q)
theorem zeK{op:UnaryOp}{r:V->Hp->VK->Prop}(ho:UnR X (unaryOp op) r)(ha:PE X a ta):PE X (.UnaryOp op a pos) (tUn r ta):=by
 intro pins s σ H Q I h
 exact UnaryOp_ (thn (ha pins s σ H _ I h) fun v s1 ⟨x,H1,I1,r1,q1⟩=>ho pins s1 σ H1 x v Q I1 r1 q1)
theorem opI{f:Value->Value->Sem Value}{C:Int->Int->Prop}{g:Int->Int->Int}
  (rule:∀(i j:Int) (t u:Tok) (s:Shared) (Q:Value->Shared->Prop) (E:Value->Shared->Prop),C i j->Q (.int (g i j) s.toks) { s with toks:=s.toks+1 }->wpAny (model X.prog X.w) X.A (f (.int i t) (.int j u)) Q E s) :
  OpR X f (rI C fun i j=>.int (g i j)):=by
 intro pins s σ H x y v u Q I rx ry h
 obtain⟨i,j,rfl,rfl,hc,q⟩:=h
 obtain⟨t,rfl⟩:=rx
 obtain⟨t',rfl⟩:=ry
 exact rule i j t t' s _ _ hc ⟨.int (g i j),H,I.tok _,⟨_,rfl⟩,q⟩
theorem zpL{f:Value->Value->Sem Value}{g:Int->Int->Int}
  (rule:∀(i j:Int) (t u:Tok) (s:Shared) (Q:Value->Shared->Prop) (E:Value->Shared->Prop),Q (.int (g i j) s.toks) { s with toks:=s.toks+1 }->wpAny (model X.prog X.w) X.A (f (.int i t) (.int j u)) Q E s) :
  OpR X f (rI0 fun i j=>.int (g i j)):=by
 intro pins s σ H x y v u Q I rx ry h
 obtain⟨i,j,rfl,rfl,q⟩:=h
 obtain⟨t,rfl⟩:=rx
 obtain⟨t',rfl⟩:=ry
 exact rule i j t t' s _ _ ⟨.int (g i j),H,I.tok _,⟨_,rfl⟩,q⟩
theorem znW{f:Value->Value->Sem Value}{g:Int->Int->Bool}
  (rule:∀(i j:Int) (t u:Tok) (s:Shared) (Q:Value->Shared->Prop) (E:Value->Shared->Prop),Q (.bool (g i j)) s->wpAny (model X.prog X.w) X.A (f (.int i t) (.int j u)) Q E s) :
  OpR X f (rI0 fun i j=>.bl (g i j)):=by
 intro pins s σ H x y v u Q I rx ry h
 obtain⟨i,j,rfl,rfl,q⟩:=h
 obtain⟨t,rfl⟩:=rx
 obtain⟨t',rfl⟩:=ry
 exact rule i j t t' s _ _ ⟨.bl (g i j),H,I,rfl,q⟩
def zk8(i j:Int):Prop:=0<=j/\j<=1000000/\i.natAbs<2 ^ 64
theorem op_add:OpR X (binaryOp .Add) (rI0 fun i j=>.int (i+j)):=zpL fun _ _ _ _ _ _ _ q=>add_int q
theorem zjd:OpR X (binaryOp .Sub) (rI0 fun i j=>.int (i-j)):=zpL fun _ _ _ _ _ _ _ q=>sub_int q
theorem zoG:OpR X (binaryOp .Mod) (rI (fun _ j=>j≠0) fun i j=>.int (i.fmod j)):=opI fun _ _ _ _ _ _ _ hc q=>mod_int' hc q
theorem zlP:OpR X (binaryOp .Pow) (rI zk8 fun i j=>.int (i ^ j.toNat)):=opI fun _ _ _ _ _ _ _ hc q=>pow_int_small hc.1 hc.2.1 hc.2.2 q
theorem unI{f:Value->Sem Value}{g:Int->Int}
  (rule:∀(i:Int) (t:Tok) (s:Shared) (Q:Value->Shared->Prop) (E:Value->Shared->Prop),Q (.int (g i) s.toks) { s with toks:=s.toks+1 }->wpAny (model X.prog X.w) X.A (f (.int i t)) Q E s) :
  UnR X f (rU fun i=>.int (g i)):=by
 intro pins s σ H x v Q I rx h
 obtain⟨i,rfl,q⟩:=h
 obtain⟨t,rfl⟩:=rx
 exact rule i t s _ _ ⟨.int (g i),H,I.tok _,⟨_,rfl⟩,q⟩
theorem zdW:UnR X (unaryOp .USub) (rU fun i=>.int (-i)):=unI fun _ _ _ _ _ q=>neg_int q
end
def scal:V->V->Bool
 | .non,.non=>true | .non,.int _=>true | .int _,.non=>true | .non,.bl _=>true | .bl _,.non=>true | .non,.str _=>true | .str _,.non=>true
 | .int _,.int _=>true | .bl _,.bl _=>true | .str _,.str _=>true | .byt _,.byt _=>true
 | .int _,.str _=>true | .str _,.int _=>true | .bl _,.str _=>true | .str _,.bl _=>true
 | _,_=>false
def rEq:R2:=fun x y H Q=>scal x y=true/\Q (.bl (decide (x=y))) H
def rNe:R2:=fun x y H Q=>scal x y=true/\Q (.bl (!decide (x=y))) H
theorem zkn{i j:Int}:decide (V.int i=V.int j)=(i == j):=by
 rw[ya4]
 simp
theorem zlt{i j:Bool}:decide (V.bl i=V.bl j)=(i == j):=by
 rw[ya4]
 simp
theorem zj8{i j:Str}:decide (V.str i=V.str j)=(i == j):=by
 rw[ya4]
 simp
theorem zki{i j:Array UInt8}:decide (V.byt i=V.byt j)=(i.toList == j.toList):=by
 rw[ya4]
 cases i
 cases j
 simp
section
variable {X:Cx}{a b c:Expr}{ta tb tc:TE}{pos:Pos}
theorem zS{pins:List (Addr × Obj)}{σ:St}{H:Hp}{s:Shared}{Q:VK}{k k':Bool}(I:Inv X pins σ H s)(q:Q (.bl k) H)(e:k=k'):EP X pins σ Q (.bool k') s:=by
 subst e
 exact⟨.bl k,H,I,rfl,q⟩
theorem zqI:OpR X (compareOp .Eq) rEq:=by
 intro pins s σ H x y v u Q I rx ry h
 obtain⟨hs,q⟩:=h
 cases x with
 | non=>
  cases rx
  cases y with
  | non=>cases ry;exact PySem.EqNone.eq_none_none (zS I q (by simp))
  | bl j=>cases ry;exact PySem.EqNone.eq_none_bool (zS I q (by simp))
  | int j=>obtain⟨t',rfl⟩:=ry;exact PySem.EqNone.eq_none_int (zS I q (by simp))
  | str j=>obtain⟨t',rfl⟩:=ry;exact PySem.EqNone.eq_none_str (zS I q (by simp))
  | _=>exact absurd (show false=true from hs) yo
 | bl i=>
  cases rx
  cases y with
  | non=>cases ry;exact PySem.EqNone.eq_bool_none (zS I q (by simp))
  | bl j=>cases ry;exact eq_bool (zS I q zlt)
  | str j=>obtain⟨t',rfl⟩:=ry;exact PySem.EqMixed.eq_bool_str (zS I q (by simp))
  | _=>exact absurd (show false=true from hs) yo
 | int i=>
  obtain⟨t,rfl⟩:=rx
  cases y with
  | non=>cases ry;exact PySem.EqNone.eq_int_none (zS I q (by simp))
  | int j=>obtain⟨t',rfl⟩:=ry;exact eq_int (zS I q zkn)
  | str j=>obtain⟨t',rfl⟩:=ry;exact PySem.EqMixed.eq_int_str (zS I q (by simp))
  | _=>exact absurd (show false=true from hs) yo
 | str i=>
  obtain⟨t,rfl⟩:=rx
  cases y with
  | non=>cases ry;exact PySem.EqNone.eq_str_none (zS I q (by simp))
  | bl j=>cases ry;exact PySem.EqMixed.eq_str_bool (zS I q (by simp))
  | int j=>obtain⟨t',rfl⟩:=ry;exact PySem.EqMixed.eq_str_int (zS I q (by simp))
  | str j=>obtain⟨t',rfl⟩:=ry;exact eq_str (zS I q zj8)
  | _=>exact absurd (show false=true from hs) yo
 | byt i=>
  obtain⟨t,rfl⟩:=rx
  cases y with
  | byt j=>obtain⟨t',rfl⟩:=ry;exact PySem.W.eq_bytes (zS I q zki)
  | _=>exact absurd (show false=true from hs) yo
 | _=>cases y<;>exact absurd (show false=true from hs) yo
theorem zqM:OpR X (compareOp .NotEq) rNe:=by
 intro pins s σ H x y v u Q I rx ry h
 obtain⟨hs,q⟩:=h
 cases x with
 | non=>
  cases rx
  cases y with
  | non=>cases ry;exact PySem.EqNone.ne_none_none (zS I q (by simp))
  | bl j=>cases ry;exact PySem.EqNone.ne_none_bool (zS I q (by simp))
  | int j=>obtain⟨t',rfl⟩:=ry;exact PySem.EqNone.ne_none_int (zS I q (by simp))
  | str j=>obtain⟨t',rfl⟩:=ry;exact PySem.EqNone.ne_none_str (zS I q (by simp))
  | _=>exact absurd (show false=true from hs) yo
 | bl i=>
  cases rx
  cases y with
  | non=>cases ry;exact PySem.EqNone.ne_bool_none (zS I q (by simp))
  | bl j=>cases ry;exact ne_bool (zS I q (congrArg not zlt))
  | str j=>obtain⟨t',rfl⟩:=ry;exact PySem.EqMixed.ne_bool_str (zS I q (by simp))
  | _=>exact absurd (show false=true from hs) yo
 | int i=>
  obtain⟨t,rfl⟩:=rx
  cases y with
  | non=>cases ry;exact PySem.EqNone.ne_int_none (zS I q (by simp))
  | int j=>obtain⟨t',rfl⟩:=ry;exact ne_int (zS I q (congrArg not zkn))
  | str j=>obtain⟨t',rfl⟩:=ry;exact PySem.EqMixed.ne_int_str (zS I q (by simp))
  | _=>exact absurd (show false=true from hs) yo
 | str i=>
  obtain⟨t,rfl⟩:=rx
  cases y with
  | non=>cases ry;exact PySem.EqNone.ne_str_none (zS I q (by simp))
  | bl j=>cases ry;exact PySem.EqMixed.ne_str_bool (zS I q (by simp))
  | int j=>obtain⟨t',rfl⟩:=ry;exact PySem.EqMixed.ne_str_int (zS I q (by simp))
  | str j=>obtain⟨t',rfl⟩:=ry;exact ne_str (zS I q (congrArg not zj8))
  | _=>exact absurd (show false=true from hs) yo
 | byt i=>
  obtain⟨t,rfl⟩:=rx
  cases y with
  | byt j=>obtain⟨t',rfl⟩:=ry;exact PySem.W.ne_bytes (zS I q (congrArg not zki))
  | _=>exact absurd (show false=true from hs) yo
 | _=>cases y<;>exact absurd (show false=true from hs) yo
theorem zcp:OpR X (compareOp .Lt) (rI0 fun i j=>.bl (decide (i<j))):=znW fun _ _ _ _ _ _ _ q=>lt_int q
theorem zn5:OpR X (compareOp .LtE) (rI0 fun i j=>.bl (decide (i<=j))):=znW fun _ _ _ _ _ _ _ q=>le_int q
theorem zdF:OpR X (compareOp .Gt) (rI0 fun i j=>.bl (decide (j<i))):=znW fun _ _ _ _ _ _ _ q=>gt_int q
theorem zel:OpR X (compareOp .Is) (fun x y H Q=>y=.non/\Q (.bl (decide (x=.non))) H):=by
 intro pins s σ H x y v u Q I rx ry h
 obtain⟨rfl,q⟩:=h
 cases ry
 refine is_none_gen (zS I q ?_)
 cases x<;>first
  | (cases rx;rfl)
  | (obtain⟨t,rfl⟩:=rx;rfl)
theorem zdJ:OpR X (compareOp .IsNot) (fun x y H Q=>y=.non/\Q (.bl (!decide (x=.non))) H):=by
 intro pins s σ H x y v u Q I rx ry h
 obtain⟨rfl,q⟩:=h
 cases ry
 refine isnot_none_gen (zS I q ?_)
 cases x<;>first
  | (cases rx;rfl)
  | (obtain⟨t,rfl⟩:=rx;rfl)
theorem OpR.or{f:Value->Value->Sem Value}{r r':R2}(h:OpR X f r)(h':OpR X f r'):OpR X f (fun x y H Q=>r x y H Q\/r' x y H Q):=by
 intro pins s σ H x y v u Q I rx ry q
 rcases q with q | q
 ·exact h pins s σ H x y v u Q I rx ry q
 ·exact h' pins s σ H x y v u Q I rx ry q
theorem nomark(b:Expr){op:CmpOp}(h:autoParam (op≠.In) Internal.aut1._auto_1)(h2:autoParam (op≠.NotIn) Internal.aut1._auto_1):behindInMarks op b=false:=by
 have e1:(op == CmpOp.In)=false:=by cases op<;>first | rfl | exact absurd rfl h
 have e2:(op == CmpOp.NotIn)=false:=by cases op<;>first | rfl | exact absurd rfl h2
 cases b<;>simp[behindInMarks,e1,e2]
theorem zc9{op:CmpOp}{r:R2}(ho:OpR X (compareOp op) r)(ha:PE X a ta)(hb:PE X b tb)(hm:behindInMarks op b=false):PE X (.Compare a [op] [b] pos) (tOp r ta tb):=by
 intro pins s σ H Q I h
 exact wpAny_Compare1 (znr ha hb I h fun v u s2 x y H2 I2 rx ry q=>ho pins s2 σ H2 x y v u Q I2 rx ry q) hm
abbrev zoe(t:TE):TT:=fun σ H Q=>t σ H fun x H'=>∃k,x=.bl k/\Q k H'
theorem zB{op:CmpOp}{r:R2}(ho:OpR X (compareOp op) r)(ha:PE X a ta)(hb:PE X b tb)(hm:behindInMarks op b=false):PT X (.Compare a [op] [b] pos) (zoe (tOp r ta tb)):=by
 intro pins s σ H Q I h
 refine wpAny_isTrue_Compare1 (thn (ha pins s σ H _ I h) fun v s1 ⟨x,H1,I1,r1,q1⟩=>thn (hb pins s1 σ H1 _ I1 q1) fun u s2 ⟨y,H2,I2,r2,q2⟩=>
  thn (ho pins s2 σ H2 x y v u _ I2 r1 r2 q2) fun c s3 ⟨z,H3,I3,r3,k,e,q3⟩=>?_) hm
 subst e
 cases r3
 exact wpAny_truthy_bool ⟨H3,I3,q3⟩
def zlL(r r':R2)(ta tb tc:TE):TE:=fun σ H Q=>ta σ H fun x H1=>tb σ H1 fun y H2=>r x y H2 fun z H3=>∃k,z=.bl k /\
 (if k=true then tc σ H3 fun w' H4=>r' y w' H4 Q else Q (.bl false) H3)
theorem zmU{op op':CmpOp}{r r':R2}(ho:OpR X (compareOp op) r)(ho':OpR X (compareOp op') r')(ha:PE X a ta)(hb:PE X b tb)(hc:PE X c tc)
  (hm:autoParam (lastMarks [op,op'] [b,c]=false) Internal.aut5._auto_1):PT X (.Compare a [op,op'] [b,c] pos) (zoe (zlL r r' ta tb tc)):=by
 intro pins s σ H Q I h
 refine isTrue_chain (thn (ha pins s σ H _ I h) fun v s1 ⟨x,H1,I1,r1,q1⟩=>test_link (thn (hb pins s1 σ H1 _ I1 q1) fun u s2 ⟨y,H2,I2,r2,q2⟩=>
  thn (ho pins s2 σ H2 x y v u _ I2 r1 r2 q2) fun d s3 ⟨z,H3,I3,r3,k,e,q3⟩=>?_)) hm
 subst e
 cases r3
 refine wpAny_truthy_bool ?_
 cases k with
 | false=>
  obtain⟨k',e',q'⟩:=q3
  cases e'
  exact ite_ff ⟨H3,I3,q'⟩
 | true=>
  refine ite_tt (test_last (thn (hc pins s3 σ H3 _ I3 q3) fun w' s4 ⟨z',H4,I4,r4,q4⟩=>thn (ho' pins s4 σ H4 y z' u w' _ I4 r2 r4 q4) fun d' s5 zz=>?_))
  obtain⟨z2,H5,I5,r5,k2,e2,q5⟩:=zz
  subst e2
  cases r5
  exact wpAny_truthy_bool ⟨H5,I5,q5⟩
def zgS(K:Fg)(x:V)(H:Hp)(k:Bool):Prop:=
 match x with
 | .non=>k=false
 | .bl b=>k=b
 | .int i=>k=(i != 0)
 | .str y=>y.length<=sizeLine/\k=((y.length:Int) != 0)
 | .byt y=>y.size<=sizeLine/\k=((y.size:Int) != 0)
 | .ref p=>(∃xs,SqL K H p xs/\k=!xs.isEmpty)\/(∃xs,SqT K H p xs/\k=!xs.isEmpty)\/∃kvs,H p=some (.dK kvs)/\k=!kvs.isEmpty
 | _=>False
theorem zkM{κ:Type}{kvs:List (κ × V)}{vs:List (κ × Value)}(r:KV kvs vs):(!vs.isEmpty)=!kvs.isEmpty:=by
 cases r<;>rfl
theorem zgC{xs:List V}{its:List Value}(r:Vals xs its):(!its.toArray.isEmpty)=!xs.isEmpty:=by
 cases r<;>simp
theorem line63:(sizeLine:Nat)<2 ^ 63:=by rw[sizeLine_eq];decide
theorem zme:zrg X (fun x H Q=>∃k,zgS X.K x H k/\Q k H):=by
 intro pins s σ H x v Q I rx h
 obtain⟨k,e,q⟩:=h
 have hl:=line63
 have hs:sizeLine=16777216:=sizeLine_eq
 cases x with
 | non=>
  cases rx
  have e':k=false:=e
  subst e'
  exact truthy_none ⟨H,I,q⟩
 | bl b=>
  cases rx
  have e':k=b:=e
  subst e'
  exact wpAny_truthy_bool ⟨H,I,q⟩
 | int i=>
  obtain⟨t,rfl⟩:=rx
  have e':k=(i != 0):=e
  subst e'
  exact PySem.P.truthy_int ⟨H,I,q⟩
 | str y=>
  obtain⟨t,rfl⟩:=rx
  obtain⟨hy,e'⟩:y.length<=sizeLine/\k=((y.length:Int) != 0):=e
  subst e'
  exact PySem.P.truthy_str (by omega) ⟨H,I.tok _,q⟩
 | byt y=>
  obtain⟨t,rfl⟩:=rx
  obtain⟨hy,e'⟩:y.size<=sizeLine/\k=((y.size:Int) != 0):=e
  subst e'
  exact PySem.W.truthy_bytes (by omega) ⟨H,I.tok _,q⟩
 | ref p=>
  cases rx
  have e':(∃xs,SqL X.K H p xs/\k=!xs.isEmpty)\/(∃xs,SqT X.K H p xs/\k=!xs.isEmpty)\/∃kvs,H p=some (.dK kvs)/\k=!kvs.isEmpty:=e
  rcases e' with⟨xs,hx,e'⟩ | ⟨xs,hx,e'⟩ | ⟨kvs,hx,e'⟩
  ·subst e'
   obtain⟨its,r,pl,hz⟩:=I.list hx
   have hlen:=r.length
   exact wpAny_truthy_list pl.isList (by simp only[yn];omega) ⟨H,I.tok _,by rw[zgC r];exact q⟩
  ·subst e'
   obtain⟨its,r,pl,hz⟩:=I.tuple hx
   have hlen:=r.length
   exact truthy_tuple pl (by simp only[yn];omega) ⟨H,I.tok _,by rw[zgC r];exact q⟩
  ·subst e'
   obtain⟨hz,hS,vs,r,m⟩:kvs.length<=sizeLine/\(p == sysModules)=false/\∃vs,KV kvs vs/\s.heap.DictOf (zgI X.prog X.w) p vs:=I.hok p _ hx
   have hlen:kvs.length=vs.length:=Paired.length r
   exact wpAny_truthy_dict hS m (by omega) ⟨H,I.tok _,by rw[zkM r];exact q⟩
 | _=>exact(show False from e).elim
theorem znT(ha:PE X a ta)(he:∀whole,isTrue a X.env whole=(do let v <- whole;standAt a.pos;holding [v] (truthy v))) :
  PT X a (fun σ H Q=>ta σ H fun x H'=>∃k,zgS X.K x H' k/\Q k H'):=by
 intro pins s σ H Q I h
 exact isTrue_plain (thn (ha pins s σ H _ I h) fun v s1 ⟨x,H1,I1,r1,q1⟩=>zme pins s1 σ H1 x v Q I1 r1 q1) (he _)
theorem vals1{x:V}{us:List Value}(r:Vals [x] us):∃u,us=[u]/\RelV x u:=by
 cases r with
 | cons r1 r2=>cases r2;exact⟨_,rfl,r1⟩
theorem vals2{x y:V}{us:List Value}(r:Vals [x,y] us):∃u w',us=[u,w']/\RelV x u/\RelV y w':=by
 cases r with
 | cons r1 r2=>
  cases r2 with
  | cons r3 r4=>cases r4;exact⟨_,_,rfl,r1,r3⟩
theorem znB:CallR X (.builtin "abs") (fun xs H Q=>∃i,xs=[.int i]/\Q (.int (if i<0 then -i else i)) H):=by
 intro pins s σ H xs us Q I r h
 obtain⟨i,rfl,q⟩:=h
 obtain⟨u,rfl,t,rfl⟩:=vals1 r
 exact call_abs_int fun u tk=>⟨.int (if i<0 then -i else i),H,I.tok _,⟨_,rfl⟩,q⟩
end
set_option genInjectivity false in
set_option genSizeOf false in
structure ObjM(h:Heap)(x dx C:Addr)(mA:Str->Option Value):Prop where
 obj:h.get? x=some (PySem.W.instObj C dx)
 ns:h.Ns1 dx mA
 ne:dx≠x
theorem zlT{h:Heap}{dx:Addr}{mA:Str->Option Value}(n:h.Ns1 dx mA):∃od,h.get? dx=some od/\∀name,PySem.W.lookIn name od=some (mA name):=by
 obtain⟨o,es,ep,ho,hd,hk,_,hm⟩:=n
 refine⟨o,ho,fun name=>?_⟩
 have e:=hm name
 unfold nsFind findBy at e
 rw[<- Array.find?_toList]at e
 unfold PySem.W.lookIn
 rw[hd]
 dsimp only
 split
 ·rename_i y q
  rw[q]at e
  exact congrArg some e
 ·rename_i q
  rw[q]at e
  have a:es.toList.any (·.refKey)=false:=by
   rw[List.any_eq_false]
   intro y hy
   obtain⟨z,t,hkey⟩:=hk y (Array.mem_toList_iff.mp hy)
   simp[DictEntry.refKey,hkey]
  have a':¬es.toList.any (·.refKey)=true:=by rw[a];exact yo
  rw[if_neg a']
  exact congrArg some e
theorem ObjM.look{h:Heap}{x dx C:Addr}{mA:Str->Option Value}(I:ObjM h x dx C mA):∃od,PySem.W.InstAt h x (PySem.W.instObj C dx) C (some od)/\∀name,PySem.W.lookIn name od=some (mA name):=
 let ⟨od,ho,hl⟩:=zlT I.ns
 ⟨od,⟨I.obj,rfl,rfl,ho⟩,hl⟩
section
variable {prog:Program}{w:World}{A:Around}{E:Value->Shared->Prop}{s:Shared}{K:Fg}{x dx C f:Addr}{mA:Str->Option Value}{name:Str}{v:Value}
end
def zjl(f:Str)(v:V):List (Str × V)->List (Str × V)
 | []=>[(f,v)]
 | (g,x) :: r=>if g=f then(g,v) :: r else(g,x) :: zjl f v r
section
variable {P:Program}{w:World}{H H':Hp}{h h':Heap}{a C dx:Addr}{fs fs':List (Str × V)}
theorem zpg(hok:HOk P w H h)(e:H a=some (.ins C dx fs)):∃mA,ObjM h a dx C mA/\(∀f,zmS (fs.lookup f) (mA f))/\PySem.Within mA (fs.map (·.1))/\fs.length<=1000/\H dx=some (.own a):=by
 obtain⟨d,z,ne,ob,mA,n,r,q⟩:=(show ObjOk P w H h a (.ins C dx fs)from hok a _ e)
 exact⟨mA,⟨ob,n,ne⟩,r,q,z,d⟩
end
set_option genInjectivity false in
set_option genSizeOf false in
structure Cls(K:Fg)(C:Addr):Prop where
 pg:PySem.W.plainGet K C Str.empty=true
 hd:PySem.W.hasDictIn K C=true
 po:PySem.W.plainOver K C=true
 sa:PySem.W.findIn K (.ref C) "__setattr__" = some (some (.builtin "object.__setattr__"))
theorem Cls.get{K:Fg}{C:Addr}(c:Cls K C)(f:Str):PySem.W.plainGet K C f=true:=c.pg
set_option genInjectivity false in
set_option genSizeOf false in
structure Con(K:Fg)(C:Addr)(f:Str)(v:V)(u:Value):Prop where
 at_:PySem.W.findIn K (.ref C) f=some (some u)
 rel:RelV v u
 get:PySem.W.specialIn K u "__get__" = some none
 cp:PySem.W.copiedNames.contains f=false
set_option genInjectivity false in
set_option genSizeOf false in
structure Meth(K:Fg)(C:Addr)(m:Str)(f:Addr):Prop where
 at_:PySem.W.findIn K (.ref C) m=some (some (.ref f))
 fn:PySem.W.isFn K (.ref f)=true
 kp:PySem.W.keepIn K (.ref f)=true
section
variable {X:Cx}{pins:List (Addr × Obj)}{σ:St}{H:Hp}{s:Shared}{a C dx:Addr}{fs:List (Str × V)}{f:Str}{v:V}{A:Around}{E:Value->Shared->Prop}
end
section
variable {X:Cx}{o e value:Expr}{f:Str}{pos pos' tpos:Pos}{ta tv:TE}
end
section
variable {X:Cx}{pins:List (Addr × Obj)}{σ:St}{H:Hp}{s:Shared}{A:Around}{E:Value->Shared->Prop}{Q:Value->Shared->Prop}{c:Value}{b:Bool}
inductive TyOf(K:Fg)(H:Hp):V->Value->Prop where
 | non:TyOf K H .non (.type "NoneType")
 | bl (x:Bool):TyOf K H (.bl x) (.type "bool")
 | int (i:Int):TyOf K H (.int i) (.type "int")
 | str (x:Str):TyOf K H (.str x) (.type "str")
 | flt (x:UInt64):TyOf K H (.flt x) (.type "float")
 | lst {a:Addr} {xs:List V} (e:H a=some (.lst xs)):TyOf K H (.ref a) (.type "list")
 | frz {a:Addr} {o:Obj} {xs:List V} (e:H a=some (.frz o (.lst xs))):TyOf K H (.ref a) (.type "list")
 | tup {a:Addr} {xs:List V} (e:H a=some (.tup xs)):TyOf K H (.ref a) (.type "tuple")
 | dK {a:Addr} {kvs:List (Key × V)} (e:H a=some (.dK kvs)):TyOf K H (.ref a) (.type "dict")
 | dT {a:Addr} {kvs:List (List Key × V)} (e:H a=some (.dT kvs)):TyOf K H (.ref a) (.type "dict")
 | ins {a C dx:Addr} {fs:List (Str × V)} (e:H a=some (.ins C dx fs)) (cl:Cls K C) (ha:PySem.W.findIn K (.ref C) "__class__" = some (some (.builtin "object.__class__")))
   (hn:PySem.W.specialIn K (.builtin "object.__class__") "__get__" = some (some (.builtin "getset_descriptor.__get__"))) (htk:PySem.W.takesIn K (.builtin "object.__class__")=some true)
   (hm:PySem.W.mroIn K C (.type "object")=some true):TyOf K H (.ref a) (.ref C)
theorem zmg{x:V}{u t:Value}(I:Inv X pins σ H s)(rx:RelV x u)(ty:TyOf X.K H x t)(e:PySem.W.kitOne X.K t c=some b)(h:∀tk,Q (.bool b) { s with toks:=tk }) :
  wpAny (model X.prog X.w) A (call (.builtin "isinstance") [u,c]) Q E s:=by
 cases ty with
 | non=>cases(show u=Value.none from rx);exact yZ PySem.W.kitx_none I.kIn True.intro e (fun z=>nomatch z) h
 | bl y=>cases(show u=Value.bool y from rx);exact yZ PySem.W.kitx_bool I.kIn True.intro e (fun z=>nomatch z) h
 | int i=>obtain⟨t,q⟩:=(show ∃t,u=Value.int i t from rx);cases q;exact yZ PySem.W.kitx_int I.kIn True.intro e (fun z=>nomatch z) h
 | str y=>obtain⟨t,q⟩:=(show ∃t,u=Value.str y t from rx);cases q;exact yZ PySem.W.kitx_str I.kIn True.intro e (fun z=>nomatch z) h
 | flt y=>obtain⟨t,q⟩:=(show ∃t,u=Value.float y t from rx);cases q;exact yZ PySem.W.kitx_float I.kIn True.intro e (fun z=>nomatch z) h
 | @lst a xs ea=>
  cases(show u=Value.ref a from rx)
  obtain⟨_,_,n,_,h1⟩:=(show ObjOk X.prog X.w H s.heap a (.lst xs)from I.hok a _ ea)
  exact yZ PySem.W.kitx_list I.kIn ⟨_,h1,rfl⟩ e (fun z=>nomatch z) h
 | @frz a ob xs ea=>
  cases(show u=Value.ref a from rx)
  obtain⟨_,_,_,n,_,h1⟩:=(show ObjOk X.prog X.w H s.heap a (.frz ob (.lst xs))from I.hok a _ ea)
  exact yZ PySem.W.kitx_list I.kIn ⟨_,h1,rfl⟩ e (fun z=>nomatch z) h
 | @tup a xs ea=>
  cases(show u=Value.ref a from rx)
  obtain⟨_,_,_,p⟩:=(show ObjOk X.prog X.w H s.heap a (.tup xs)from I.hok a _ ea)
  obtain⟨o,h1,h2,_⟩:=p
  exact yZ PySem.W.kitx_tuple I.kIn ⟨o,h1,h2⟩ e (fun z=>nomatch z) h
 | @dK a kvs ea=>
  cases(show u=Value.ref a from rx)
  obtain⟨_,_,vs,_,p⟩:=(show ObjOk X.prog X.w H s.heap a (.dK kvs)from I.hok a _ ea)
  obtain⟨o,es,ep,h1,h2,_⟩:=p
  exact yZ PySem.W.kitx_dict I.kIn ⟨o,h1,h2.1⟩ e (fun z=>nomatch z) h
 | @dT a kvs ea=>
  cases(show u=Value.ref a from rx)
  obtain⟨_,_,xs,_,o,es,ep,h1,h2,_⟩:=(show ObjOk X.prog X.w H s.heap a (.dT kvs)from I.hok a _ ea)
  exact yZ PySem.W.kitx_dict I.kIn ⟨o,h1,h2.1⟩ e (fun z=>nomatch z) h
 | @ins a C dx fs ea cl ha hn htk hm=>
  cases(show u=Value.ref a from rx)
  obtain⟨mA,O,_⟩:=zpg I.hok ea
  obtain⟨od,J,_⟩:=O.look
  exact yZ (PySem.W.kitx_own (cl.get _) cl.hd ha hn htk hm) I.kIn J e (fun z=>nomatch z) h
end
set_option genInjectivity false in
set_option genSizeOf false in
structure Room(k:Nat)(A:Around):Prop where
 hd:A.handled=none
 dp:A.depth+3*k+5<recursionLimit
 un:A.units+16*k+200<cLine
theorem Room.mono{j k:Nat}{A:Around}(r:Room k A)(h:j<=k):Room j A:=⟨r.hd,by have:=r.dp;omega,by have:=r.un;omega⟩
theorem Room.deeper{k:Nat}{A:Around}(r:Room (k+1) A)(env:Env):Room k (A.deeper env):=
 ⟨r.hd,by have:=r.dp;show A.depth+1+3*k+5<_;omega,by have:=r.un;show A.units+3+16*k+200<_;omega⟩
theorem Room.depth{k:Nat}{A:Around}(r:Room k A):A.depth<recursionLimit:=by have:=r.dp;omega
theorem Room.units{k:Nat}{A:Around}(r:Room k A):A.units+64<cLine:=by have:=r.un;omega
abbrev ziz:TA:=fun _ H Q=>Q [] H
abbrev zkH(ta:TE)(tr:TA):TA:=fun σ H Q=>ta σ H fun x H1=>tr σ H1 fun xs H2=>Q (x :: xs) H2
section
variable {X:Cx}{e:Expr}{es:List Expr}{te:TE}{t:TA}{pos:Pos}
theorem zf:PA X [] ziz:=fun _ _ _ _ H Q I h=>Calls.spliced_nil ⟨[],H,I,.nil,h⟩
theorem za(ha:PE X e te)(hr:PA X es t)(hs:autoParam (starEach (e :: es) X.env=(false,eval e X.env) :: starEach es X.env) Internal.aut2._auto_1):PA X (e :: es) (zkH te t):=by
 intro pos pins s σ H Q I h
 rw[hs]
 show wpAny _ _ (spliced ((false,eval e X.env) :: backTo pos (starEach es X.env))) _ _ s
 refine Calls.spliced_cons (thn (ha pins s σ H _ I h) fun u s1 zz=>?_)
 obtain⟨x,H1,I1,r1,q1⟩:=zz
 exact thn (hr pos pins s1 σ H1 _ I1 q1) fun us s2 ⟨xs,H2,I2,r2,q2⟩=>⟨x :: xs,H2,I2,.cons r1 r2,q2⟩
def zqs(t:TA):TE:=fun σ H Q=>t σ H fun xs H1=>xs.length<=sizeLine/\∀p,H1 p=none->Q (.ref p) (upd H1 p (.tup xs))
def zpw(t:TA):TE:=fun σ H Q=>t σ H fun xs H1=>xs.length<=sizeLine/\∀p,H1 p=none->Q (.ref p) (upd H1 p (.lst xs))
theorem zah{x1}(h:PA X es t):PE X (.Tuple es x1 pos) (zqs t):=by
 intro pins s σ H Q I hq
 refine wpAny_Tuple_spliced (thn (h pos pins s σ H _ I hq) fun us s1 ⟨xs,H1,I1,r,z,q⟩=>⟨by rw[<- r.length];exact z,?_⟩)
 have hf:H1 s1.heap.objs.size=none:=I1.hok.fresh (ye _)
 refine⟨.ref s1.heap.objs.size,upd H1 s1.heap.objs.size (.tup xs),I1.laid (t':=s1.toks) (fun b u e=>Heap.get?_push_of_some _ e) (ye _) ?_,rfl,q _ hf⟩
 exact⟨z,us,r,⟨_,Heap.get?_push_size _ rfl,rfl,_,rfl⟩⟩
theorem zaC(h:PA X es t):PE X (.List es pos) (zpw t):=by
 intro pins s σ H Q I hq
 refine wpAny_List_spliced (thn (h pos pins s σ H _ I hq) fun us s1 ⟨xs,H1,I1,r,z,q⟩=>⟨by rw[<- r.length];exact z,?_⟩)
 have hf:H1 s1.heap.objs.size=none:=I1.hok.fresh (ye _)
 refine⟨.ref s1.heap.objs.size,upd H1 s1.heap.objs.size (.lst xs),I1.laid (t':=s1.toks) (fun b u e=>Heap.get?_push_of_some _ e) (ye _) ?_,rfl,q _ hf⟩
 exact⟨z,us,0,r,Heap.get?_push_size _ rfl⟩
end
abbrev Sp:=List V->Hp->VK->XK->Prop
abbrev CXT:=List Env->Hp->Shared->XK->Value->Shared->Prop
set_option genInjectivity false in
set_option genSizeOf false in
structure Env0(P:Program)(w:World)(K:Fg)(mg:Str->Option Value)(base:Heap)(A:Around)(outer:List Env)(s:Shared)(H:Hp):Prop where
 frames:A.frames=some outer
 mod:Mod K mg base
 bs:∀b o,base.get? b=some o->s.heap.get? b=some o/\H b=none
 bsz:base.objs.size<=s.heap.objs.size
 funs:s.heap.FunFrames base outer
 frf:∀b∈frs outer,H b=none
 hok:HOk P w H s.heap
 bare:AllBare s.gens
def CE(outer:List Env)(P:Program)(w:World)(H:Hp)(s:Shared)(Q:VK)(u:Value)(s':Shared):Prop:=
 ∃v H',s'.os=s.os/\AllBare s'.gens/\Un (frs outer) [] H H' s.heap s'.heap/\HOk P w H' s'.heap/\RelV v u/\Q v H'
def CR(CX:CXT)(outer:List Env)(P:Program)(w:World)(H:Hp)(s:Shared)(Q:VK)(E:XK)(r:Result)(s':Shared):Prop:=
 match r with
 | .ok (.ret u)=>CE outer P w H s Q u s'
 | .ok _=>False
 | .error e=>CX outer H s E e s'
set_option genInjectivity false in
set_option genSizeOf false in
structure FnOk(P:Program)(w:World)(K:Fg)(mg:Str->Option Value)(base:Heap)(CX:CXT)(k:Nat)(f:Addr)(fd:FuncData)(ps:List Str)(sp:Sp):Prop where
 len:∀vs H Q E,sp vs H Q E->vs.length=ps.length
 run:∀(A:Around) (outer:List Env) (s:Shared) (H:Hp) (args:Args) (us:List Value) (vs:List V) (Q:VK) (E:XK),Room k A->Env0 P w K mg base A outer s H->BindsTo s fd args (ps.zip us)->Vals vs us->sp vs H Q E ->
  codeAny (model P w) A (.call (.ref f) args) (CR CX outer P w H s Q E) s
section
variable {X:Cx}{pins:List (Addr × Obj)}{σ:St}{H:Hp}{s s':Shared}
theorem Inv.env0(I:Inv X pins σ H s):Env0 X.prog X.w X.K X.mg X.base X.A X.stack s H:=
 ⟨I.ok.frames,I.ok.mod,I.bs,yh I.ok.bsz I.sz,I.stack,I.stkFree,I.hok,I.bare⟩
theorem Inv.after{Q:VK}{u:Value}(I:Inv X pins σ H s)(h:CE X.stack X.prog X.w H s Q u s'):EP X pins σ Q u s':=by
 obtain⟨v,H',os,bare,un,hok,r,q⟩:=h
 obtain⟨hh,g,d,t,os'⟩:=s'
 obtain rfl:os'=s.os:=os
 exact⟨v,H',I.call (h':=hh) (g':=g) (d':=d) (t':=t) (ch:=[]) un hok bare (fun b z=>absurd z (by simp)),r,q⟩
end
def zkt(sp:Sp)(dvs:List V)(E:XK)(t:TA):TE:=fun σ H Q=>t σ H fun vs H1=>sp (vs++dvs) H1 Q E
def Binds(K:Fg)(fd:FuncData)(ps:List Str)(ds:List Value):Prop:=
 ∀(s:Shared) (us:List Value),K.In s.heap->(us++ds).length=ps.length->BindsTo s fd ⟨us,[]⟩ (ps.zip (us++ds))
theorem Binds.all{K:Fg}{fd:FuncData}{ps:List Str}(h:∀us:List Value,us.length=ps.length->bindArgs fd ⟨us,[]⟩=pure (ps.zip us)):Binds K fd ps []:=fun s us _ hl=>by
 rw[yan]at hl ⊢
 exact .of_eq (h us hl)
def zi4(CX:CXT)(X:Cx)(E:XK):Prop:=∀(pins:List (Addr × Obj)) (σ:St) (H:Hp) (s:Shared) (e:Value) (s':Shared),Inv X pins σ H s->CX X.stack H s E e s'->X.xe e s'
section
variable {X:Cx}{CX:CXT}{k:Nat}{f C:Addr}{fd:FuncData}{ps:List Str}{sp:Sp}{dvs:List V}{ds:List Value}{E:XK}{x m:Str}{p pos apos:Pos}{e o:Expr}{es:List Expr}{ta:TE}{t:TA}
theorem zpz{pins:List (Addr × Obj)}{σ:St}{H:Hp}{s:Shared}{Q:VK}{us:List Value}{vs:List V}(F:FnOk X.prog X.w X.K X.mg X.base CX k f fd ps sp)(hr:Room k X.A)(hb:Binds X.K fd ps ds)(hd:Vals dvs ds)(hx:zi4 CX X E)
  (I:Inv X pins σ H s) (r:Vals vs us) (h:sp (vs++dvs) H Q E):wpAny (model X.prog X.w) X.A (call (.ref f) us) (EP X pins σ Q) X.xe s:=by
 have r2:Vals (vs++dvs) (us++ds):=r.append hd
 have hl:(us++ds).length=ps.length:=by rw[<- r2.length];exact F.len _ _ _ _ h
 refine wpAny_call (codeAny_mono (F.run X.A X.stack s H ⟨us,[]⟩ (us++ds) (vs++dvs) Q E hr I.env0 (hb s us I.kIn hl) r2 h) fun r s' hq=>?_)
 cases r with
 | error e=>exact hx pins σ H s e s' I hq
 | ok fl=>
  cases fl with
  | ret u=>exact I.after hq
  | next=>exact False.elim hq
  | brk=>exact False.elim hq
  | cont=>exact False.elim hq
theorem zm(F:FnOk X.prog X.w X.K X.mg X.base CX k f fd ps sp)(hr:Room k X.A)(hg:Gl X x)(hm:X.mg x=some (.ref f))(hk:PySem.W.keepIn X.K (.ref f)=true)(hb:Binds X.K fd ps ds)(hd:Vals dvs ds)(hx:zi4 CX X E)
  (ha:PA X (e :: es) t) (hdb:autoParam ((x == ("__debug__" : Str))=false) Internal.aut1._auto_1) (he:autoParam (starEach (e :: es) X.env=(false,eval e X.env) :: starEach es X.env) Internal.aut2._auto_1) (hpl:autoParam ((backTo pos (starEach es X.env)).any (·.1)=false) Internal.aut2._auto_1) :
  PE X (.Call (.Name x p) (e :: es) [] pos) (zkt sp dvs E t):=by
 intro pins s σ H Q I h
 refine wpAny_Call_Name_kw (zpk I hg hm ?_ hdb)
 refine PySem.W.callWith_K (h₀:=X.base) I.ok.mod.kin hk (thn (ha pos pins s σ H _ I h) fun us s1 ⟨vs,H1,I1,r,q⟩=>⟨I1.kIn,?_⟩) he hpl
 exact zpz F hr hb hd hx I1 r q
set_option genInjectivity false in
set_option genSizeOf false in
structure Mk(K:Fg)(C f:Addr):Prop where
 makes:PySem.W.makesIn K C=true
 init:PySem.W.findIn K (.ref C) "__init__" = some (some (.ref f))
 fn:PySem.W.isFn K (.ref f)=true
 kp:PySem.W.keepIn K (.ref C)=true
end
def PK(X:Cx)(kws:List Keyword)(t:TA):Prop:=
 ∀(pos:Pos) (pins:List (Addr × Obj)) (s:Shared) (σ:St) (H:Hp) (Q:List V->Hp->Prop),Inv X pins σ H s->t σ H Q->wpAny (model X.prog X.w) X.A (evalAll ((backToKw pos (keywordEach kws X.env)).map (·.2))) (AP X pins σ Q) X.xe s
section
variable {X:Cx}{CX:CXT}{k:Nat}{f C:Addr}{fd:FuncData}{ps ks:List Str}{sp:Sp}{E:XK}{x m:Str}{p pos apos kpos:Pos}{e o:Expr}{es:List Expr}{kws:List Keyword}{te ta:TE}{t tk:TA}{nm:Option Str}
theorem zp3:PK X [] ziz:=fun _ _ _ _ H Q I h=>wpAny_evalAll_nil ⟨[],H,I,.nil,h⟩
theorem zoW(ha:PE X e te)(hr:PK X kws t):PK X (⟨nm,e,kpos⟩ :: kws) (zkH te t):=by
 intro pos pins s σ H Q I h
 show wpAny _ _ (evalAll ((do let v <- eval e X.env;standAt pos;pure v) :: (backToKw pos (keywordEach kws X.env)).map (·.2))) _ _ s
 refine wpAny_evalAll_cons (wpAny_bind (thn (ha pins s σ H _ I h) fun u s1 ⟨x,H1,I1,r1,q1⟩=>wpAny_bind (wpAny_standAt (wpAny_pure ?_))))
 exact thn (hr pos pins s1 σ H1 _ I1 q1) fun us s2 ⟨xs,H2,I2,r2,q2⟩=>⟨x :: xs,H2,I2,.cons r1 r2,q2⟩
set_option genInjectivity false in
set_option genSizeOf false in
structure KBinds(K:Fg)(fd:FuncData)(ps ks:List Str)(g:List Value->List Value->List Value)(gV:List V->List V->List V):Prop where
 to:∀(s:Shared) (us ws:List Value),K.In s.heap->(g us ws).length=ps.length->BindsTo s fd ⟨us,ks.zip ws⟩ (ps.zip (g us ws))
 rel:∀{vs:List V} {us:List Value} {zs:List V} {ws:List Value},Vals vs us->Vals zs ws->Vals (gV vs zs) (g us ws)
variable {g:List Value->List Value->List Value}{gV:List V->List V->List V}
end
set_option genInjectivity false in
set_option genSizeOf false in
structure FnScope(N P:List Str)(sc:Scope):Prop where
 kind:sc.kind=.function
 co:sc.isCoroutine=false
 gen:sc.isGenerator=false
 nd:N.Nodup
 pre:N.take P.length=P
 par:∀x∈P,sc.names.lookup x=some .local\/sc.names.lookup x=some .cell
 nofree:∀y∈sc.names,y.2≠.free
theorem zhp{kindOf:Str->Option NameKind}{x:Str}:∀{binds:List (Str × Value)} {m:Str->Option Value},(∀v,(x,v)∉binds)->bindL kindOf binds m x=m x
 | [],_,_=>rfl
 | (n,v) :: r,m,h=>by
  unfold bindL
  rw[zhp fun w hw=>h w (yR _ hw)]
  split
  ·have:x≠n:=by rintro rfl;exact h v yad
   simp[this]
  ·rfl
theorem zhl{kindOf:Str->Option NameKind}{x:Str}:∀{binds:List (Str × Value)} {m:Str->Option Value},(∀v,(x,v)∉binds)->bindC kindOf binds m x=m x
 | [],_,_=>rfl
 | (n,v) :: r,m,h=>by
  unfold bindC
  rw[zhl fun w hw=>h w (yR _ hw)]
  split
  ·rfl
  ·have:x≠n:=by rintro rfl;exact h v yad
   simp[this]
theorem zhD{kindOf:Str->Option NameKind}{x:Str}{v:Value}:∀{P:List Str} {vs:List Value} {i:Nat} {m:Str->Option Value},P.Nodup->P[i]?=some x->vs[i]?=some v->kindOf x=some .local ->
  bindL kindOf (P.zip vs) m x=some v
 | [],_,_,_,_,h,_,_=>by simp at h
 | _ :: _,[],_,_,_,_,h,_=>by simp at h
 | p :: P,w :: vs,0,m,nd,h1,h2,hk=>by
  simp at h1 h2;subst h1;subst h2
  show bindL kindOf ((p,w) :: P.zip vs) m p=_
  unfold bindL
  rw[zhp fun v hv=>(yaL.mp nd).1 (ybH hv).1,if_pos hk]
  simp
 | p :: P,w :: vs,i+1,m,nd,h1,h2,hk=>by
  show bindL kindOf ((p,w) :: P.zip vs) m x=_
  unfold bindL
  exact zhD (i:=i) (yaL.mp nd).2 (by simpa using h1) (by simpa using h2) hk
theorem zhv{kindOf:Str->Option NameKind}{x:Str}{v:Value}:∀{P:List Str} {vs:List Value} {i:Nat} {m:Str->Option Value},P.Nodup->P[i]?=some x->vs[i]?=some v->kindOf x≠some .local ->
  bindC kindOf (P.zip vs) m x=some v
 | [],_,_,_,_,h,_,_=>by simp at h
 | _ :: _,[],_,_,_,_,h,_=>by simp at h
 | p :: P,w :: vs,0,m,nd,h1,h2,hk=>by
  simp at h1 h2;subst h1;subst h2
  show bindC kindOf ((p,w) :: P.zip vs) m p=_
  unfold bindC
  rw[zhl fun v hv=>(yaL.mp nd).1 (ybH hv).1,if_neg hk]
  simp
 | p :: P,w :: vs,i+1,m,nd,h1,h2,hk=>by
  show bindC kindOf ((p,w) :: P.zip vs) m x=_
  unfold bindC
  exact zhv (i:=i) (yaL.mp nd).2 (by simpa using h1) (by simpa using h2) hk
def start(N:List Str)(vs:List V):St:=vs.map some++List.replicate (N.length-vs.length) none
def zgU(CX:CXT)(P:Program)(w:World)(K:Fg)(mg:Str->Option Value)(base:Heap)(N:List Str)(qual:Str)(scope:Scope)(f:Addr)(cd:Value)(A:Around)(outer:List Env)(s:Shared)(H:Hp)(E:XK):Cx where
 prog:=P
 w:=w
 K:=K
 mg:=mg
 base:=base
 A:=A.deeper (envOfC qual scope s.heap.objs.size f cd)
 N:=N
 s₀:=s
 H₀:=H
 env:=envOfC qual scope s.heap.objs.size f cd
 outer:=outer
 stack:=envOfC qual scope s.heap.objs.size f cd :: outer
 ex:=[]
 calm:=true
 fn:=fun _=>true
 pn:=[]
 xe:=fun e s'=>wpAny (model P w) (A.deeper (envOfC qual scope s.heap.objs.size f cd)) (leaving (envOfC qual scope s.heap.objs.size f cd) e) (fun _ s''=>CX outer H s E e s'') (fun e' s''=>CX outer H s E e' s'') s'
theorem zez{sc:Scope}{n:Nat}{x:Str}(h:sc.names.lookup x=some .cell):∃c,(cellsFrom n sc.names []).lookup x=some c:=by
 have q:=PySem.W.cellsFrom_some sc.names n [] (.inl h)
 exact ya9.mp q
theorem zmk{CX:CXT}{P:Program}{w:World}{K:Fg}{mg:Str->Option Value}{base:Heap}{N ps:List Str}{qual:Str}{scope:Scope}{f:Addr}{cd:Value}{A:Around}{outer:List Env}{s s1:Shared}{H:Hp}{E:XK}{us:List Value}{vs:List V}
  (S:FnScope N ps scope) (hd:A.handled=none) (e0:Env0 P w K mg base A outer s H) (hl:vs.length=ps.length) (r:Vals vs us)
  (x:InCallC s s.heap.objs.size (bindL (envOfC qual scope s.heap.objs.size f cd).kindOf (ps.zip us) fun _=>none) (cellsFrom (s.heap.objs.size+1) scope.names []) (bindC (envOfC qual scope s.heap.objs.size f cd).kindOf (ps.zip us) fun _=>none) s1) :
  Inv (zgU CX P w K mg base N qual scope f cd A outer s H E) [] (start N vs) H s1:=by
 have hpl:ps.length<=N.length:=by have:=congrArg List.length S.pre;rw[ybz]at this;omega
 obtain⟨h1,tk,rfl,hk⟩:=x.done
 have noA:∀b:Addr,b∉(zgU CX P w K mg base N qual scope f cd A outer s H E).ex:=fun b z=>absurd (show b∈([]:List Addr)from z) (by simp)
 refine⟨⟨e0.mod,S.kind,rfl,rfl,ye _,fun y z c h1 h2=>?_,fun y hy=>?_,fun y c _ h=>?_,fun _=>hd,Around.frames_deeper e0.frames,.inr ⟨rfl,rfl⟩,fun b z=>absurd z (noA b),e0.bs,e0.bsz,fun b _ _=>noA b,fun b z=>absurd z (noA b),e0.funs,e0.frf⟩,
  rfl,e0.bare,Un.kept hk,⟨_,x.toInCall.ns,fun i y v h1 h2 h3=>?_⟩,fun y c h=>⟨_,x.cell y c h⟩,e0.hok.fresh (ye _),fun y c h=>?_,fun p hp=>absurd (show p∈([]:List (Addr × Obj))from hp) (by simp),e0.hok.kept hk,?_⟩
 ·exact name_of_addr x.apart (yaH h1) (yaH h2)
 ·have hy:scope.names.lookup y=some .cell\/scope.names.lookup y=some .free:=hy
  rcases hy with hy | hy
  ·exact zez hy
  ·exact absurd rfl (S.nofree _ (yaH hy))
 ·exact ya8 (x.above y c (yaH h))
 ·have hi:i<vs.length:=by
   unfold start at h2
   by_cases hi:i<vs.length
   ·exact hi
   ·rw[yU (by simpa using hi)]at h2
    rw[yaI]at h2
    split at h2<;>cases h2
  have ha:vs[i]?=some v:=by
   unfold start at h2
   rw[yA (by simpa using hi),yf]at h2
   cases e:vs[i]? with
   | none=>rw[e]at h2;cases h2
   | some a=>rw[e]at h2;cases h2;rfl
  obtain⟨u,hu,rv⟩:=r.get ha
  have hp:ps[i]?=some y:=by
   rw[<- S.pre,List.getElem?_take_of_lt (by omega)];exact h1
  have ndP:ps.Nodup:=by rw[<- S.pre];exact S.nd.sublist (List.take_sublist _ _)
  refine⟨u,rv,?_⟩
  rcases S.par y (yb hp)with k | k
  ·exact .inl ⟨k,zhD ndP hp hu k⟩
  ·obtain⟨c,e⟩:=zez (n:=s.heap.objs.size+1) k
   refine .inr ⟨.inl k,c,e,?_⟩
   have q:=x.cell y c e
   rw[zhv ndP hp hu (by show scope.names.lookup y≠_;rw[k];decide)]at q
   exact q
 ·exact e0.hok.fresh (ya8 (x.above y c (yaH h)))
 ·unfold start
  show _=N.length
  rw[ya,yc,List.length_replicate]
  omega
theorem zqP{CX:CXT}{P:Program}{w:World}{K:Fg}{mg:Str->Option Value}{base:Heap}{k:Nat}{f:Addr}{name qual:Str}{params:Arguments}{body:List Stmt}{scope:Scope}{dV kV doc pm cdv ct oc:Value}{an od:Option Addr}
  {osl:Array (Option Value)} {N ps:List Str} {sp:Sp} (lk:K.lookup f=some ⟨oc,od,.func (PySem.W.fnOf name qual params body scope dV kV doc pm an cdv ct),osl⟩) (hcd:PySem.W.codeIn K cdv qual=true) (S:FnScope N ps scope)
  (len:∀vs H Q E,sp vs H Q E->vs.length=ps.length)
  (hbody:∀(A:Around) (outer:List Env) (s:Shared) (H:Hp) (vs:List V) (Q:VK) (E:XK),Room k (A.deeper (envOfC qual scope s.heap.objs.size f cdv))->sp vs H Q E ->
   ∃t,PSs (zgU CX P w K mg base N qual scope f cdv A outer s H E) body t/\t { nx:=fun _ H'=>Q .non H',rt:=Q } (start N vs) H) :
  FnOk P w K mg base CX (k+1) f (PySem.W.fnOf name qual params body scope dV kV doc pm an cdv ct) ps sp:=by
 refine⟨len,fun A outer s H args us vs Q E hr e0 hb r hsp=>?_⟩
 have hl:=len _ _ _ _ hsp
 have KX:K.In s.heap:=e0.mod.kin.keeps fun b o e=>(e0.bs b o e).1
 have lim:s.heap.NoLimit:=e0.mod.nolimit.keeps fun b o e=>(e0.bs b o e).1
 have hkind:∀y∈ps.zip us,scope.names.lookup y.1=some .local\/(scope.names.lookup y.1=some .cell/\((cellsFrom (s.heap.objs.size+1) scope.names []).lookup y.1).isSome=true):=fun⟨n,v⟩ hy=>by
  rcases S.par n (ybH hy).1 with q | q
  ·exact .inl q
  ·exact .inr ⟨q,PySem.W.cellsFrom_some _ _ _ (.inl q)⟩
 refine codeAny_call_function hr.depth (KX _ _ lk) rfl S.co S.gen rfl (PySem.W.codeRec_of KX hcd) (hb _ _ _ _ ?_)
 refine wpAny_newFunctionEnv_cells S.kind hkind fun env he s1 x=>?_
 subst he
 refine⟨lim.keeps x.toInCall.keep,codeAny_func ?_⟩
 obtain⟨t,ht,hq⟩:=hbody A outer s H vs Q E (hr.deeper _) hsp
 have I:Inv (zgU CX P w K mg base N qual scope f cdv A outer s H E) [] (start N vs) H s1:=zmk S hr.hd e0 hl r x
 refine wpAny_mono (ht [] s1 (start N vs) H _ I hq) (fun fl s' hs=>?_) fun e s' hs=>hs
 have fin:∀{σ':St} {H':Hp} {v:V} {u:Value},Inv (zgU CX P w K mg base N qual scope f cdv A outer s H E) [] σ' H' s'->RelV v u->Q v H'->CE outer P w H s Q u s':=
  fun {σ' H' v u} J rv q=>⟨v,H',J.os,J.bare,J.base,J.hok,rv,q⟩
 cases fl with
 | ret u=>
  obtain⟨v,σ',H',J,rv,q⟩:=hs
  exact fin J rv q
 | next=>
  obtain⟨σ',H',J,q⟩:=hs
  exact fin (v:=V.non) (u:=Value.none) J rfl q
 | brk=>
  obtain⟨_,_,_,q⟩:=hs
  exact False.elim q
 | cont=>
  obtain⟨_,_,_,q⟩:=hs
  exact False.elim q
section
variable {X:Cx}{x:Str}{p pos:Pos}{e:Expr}{es:List Expr}{t:TA}{id T:String}{r:List V->Hp->VK->Prop}
abbrev tCB(r:List V->Hp->VK->Prop)(t:TA):TE:=fun σ H Q=>t σ H fun vs H1=>r vs H1 Q
theorem zN(hc:CallR X (.builtin id) r)(hg:Gl X x)(hm:X.mg x=none)(hv:bootBuiltins x=some (.builtin id))(ha:PA X (e :: es) t)(hn:autoParam (x ≠ "__name__") Internal.aut1._auto_1)(hdb:autoParam ((x == ("__debug__" : Str))=false) Internal.aut1._auto_1)
  (he:autoParam (starEach (e :: es) X.env=(false,eval e X.env) :: starEach es X.env) Internal.aut2._auto_1) (hpl:autoParam ((backTo pos (starEach es X.env)).any (·.1)=false) Internal.aut2._auto_1):PE X (.Call (.Name x p) (e :: es) [] pos) (tCB r t):=by
 intro pins s σ H Q I h
 refine wpAny_Call_Name_kw (zcC I hg hm hv ?_ hn hdb)
 exact PyProof.Rows.callWith_builtin1 (thn (ha pos pins s σ H _ I h) fun us s1 ⟨vs,H1,I1,r1,q1⟩=>hc pins s1 σ H1 vs us Q I1 r1 q1) he hpl
theorem zbP(hc:CallR X (.type T) r)(hg:Gl X x)(hm:X.mg x=none)(hv:bootBuiltins x=some (.type T))(ha:PA X (e :: es) t)(hn:autoParam (x ≠ "__name__") Internal.aut1._auto_1)(hdb:autoParam ((x == ("__debug__" : Str))=false) Internal.aut1._auto_1)
  (he:autoParam (starEach (e :: es) X.env=(false,eval e X.env) :: starEach es X.env) Internal.aut2._auto_1) (hpl:autoParam ((backTo pos (starEach es X.env)).any (·.1)=false) Internal.aut2._auto_1):PE X (.Call (.Name x p) (e :: es) [] pos) (tCB r t):=by
 intro pins s σ H Q I h
 refine wpAny_Call_Name_kw (zcC I hg hm hv ?_ hn hdb)
 exact yae (thn (ha pos pins s σ H _ I h) fun us s1 ⟨vs,H1,I1,r1,q1⟩=>hc pins s1 σ H1 vs us Q I1 r1 q1) he hpl
end
end Internal
namespace HT
open PySem PyProof.Rows
section
open PySem.SeqAt
open PySem.AutoSeq1 (wpAny_loadPart')
open PySem.MeetsSeq PySem.MeetsSeq2 PySem.MeetsSeq3
end
section
variable {prog:Program}{w:World}{A:Around}{E:Value->Shared->Prop}{s:Shared}
theorem cat_tup{t b:Addr}{vs ws:List Value}{Q:Value->Shared->Prop}(ht:IsTup s.heap t vs.toArray)(hb:IsTup s.heap b ws.toArray)(hv:vs≠[])
  (h1:ws=[]->Q (.ref t) s) (h2:ws≠[]->Q (.ref s.heap.objs.size) { s with heap:=s.heap.push { cls:=.type "tuple",data:=.seq (vs++ws).toArray } })
  (hsz:vs.length+ws.length<=sizeLine):wpAny (model prog w) A (binaryOp .Add (.ref t) (.ref b)) Q E s:=by
 obtain⟨⟨cls,dd,data,sl⟩,ho,hc,n,hd⟩:=id ht
 obtain⟨⟨cls2,dd2,data2,sl2⟩,ho2,hc2,n2,hd2⟩:=id hb
 simp only at hc hd hc2 hd2
 subst hc hd hc2 hd2
 have e:vs.toArray++ws.toArray=(vs++ws).toArray:=by simp
 by_cases hw:ws=[]
 ·exact concat_meets ⟨_,ho,rfl⟩ ⟨_,ho2,rfl⟩ noFill_tuple_add seq_tuple_add PySem.F.slot_tuple_add PySem.F.entry_tuple_add (PySem.F.args_tuple_add_2 _ _)
   (tuple_addW1 t b vs.toArray ws.toArray n n2 dd dd2 sl sl2 (by simpa using hv) (by simp[hw])) ⟨ho,ho2,h1 hw⟩
 ·refine concat_meets ⟨_,ho,rfl⟩ ⟨_,ho2,rfl⟩ noFill_tuple_add seq_tuple_add PySem.F.slot_tuple_add PySem.F.entry_tuple_add (PySem.F.args_tuple_add_2 _ _)
   (tuple_addW2 t b vs.toArray ws.toArray n n2 dd dd2 sl sl2 (by simpa using hv) (by simpa using hw) (by rw[yn,yn];exact hsz)) ⟨ho,ho2,?_⟩
  rw[e]
  exact h2 hw
def sIx(n d:Nat):Option Int->Nat
 | none=>d
 | some v=>if v<0 then(v+(n:Int)).toNat else min v.toNat n
theorem sIx_none(n d:Nat):sIx n d none=d:=rfl
theorem sIx_nat(n d k:Nat):sIx n d (some (k:Int))=min k n:=by
 show(if(k:Int)<0 then((k:Int)+(n:Int)).toNat else min (k:Int).toNat n)=min k n
 rw[if_neg (by omega),yw]
end
end HT
namespace Internal
open PySem PySem.Spec PyProof.Rows
abbrev TO:=St->Hp->(Option Int->Hp->Prop)->Prop
def PO(X:Cx)(e:Option Expr)(t:TO):Prop:=
 ∀(pins:List (Addr × Obj)) (s:Shared) (σ:St) (H:Hp) (Q:Option Int->Hp->Prop),Inv X pins σ H s->t σ H Q ->
  wpAny (model X.prog X.w) X.A (evalPart e X.env) (fun u s'=>∃o H',Inv X pins σ H' s'/\IsPart u o/\Q o H') X.xe s
abbrev zpm:TO:=fun _ H Q=>Q none H
def zod(t:TE):TO:=fun σ H Q=>t σ H fun x H1=>∃i,x=.int i/\Q (some i) H1
section
variable {X:Cx}{e:Expr}{te:TE}{lo hi:Option Expr}{tl th:TO}{pos p2:Pos}
theorem zgR:PO X none zpm:=by
 intro pins s σ H Q I h
 rw[evalPart_none]
 exact wpAny_pure ⟨none,H,I,.none,h⟩
theorem zgN(h:PE X e te):PO X (some e) (zod te):=by
 intro pins s σ H Q I hw
 rw[evalPart_some]
 refine thn (h pins s σ H _ I hw) fun u s1 zz=>?_
 obtain⟨x,H1,I1,r1,q1⟩:=zz
 obtain⟨i,rfl,q⟩:=q1
 obtain⟨t,rfl⟩:=r1
 exact⟨some i,H1,I1,.int i t,q⟩
def SlR(X:Cx)(r:V->Option Int->Option Int->Hp->VK->Prop):Prop:=
 ∀(pins:List (Addr × Obj)) (s:Shared) (σ:St) (H:Hp) (x:V) (v vl vu:Value) (lo hi:Option Int) (sl:Addr) (Q:VK),Inv X pins σ H s->RelV x v->s.heap.IsSliceOf sl vl vu .none->IsPart vl lo->IsPart vu hi->r x lo hi H Q ->
  ∃T id,typeLookup (.type T) "__getitem__" = pure (some (.builtin id))/\s.TypeIs v T/\wpAny (model X.prog X.w) X.A (getItem v (.ref sl)) (EP X pins σ Q) X.xe s
abbrev tSl(r:V->Option Int->Option Int->Hp->VK->Prop)(te:TE)(tl th:TO):TE:=fun σ H Q=>te σ H fun x H1=>tl σ H1 fun l H2=>th σ H2 fun u H3=>r x l u H3 Q
theorem zfU{r:V->Option Int->Option Int->Hp->VK->Prop}(hr:SlR X r)(he:PE X e te)(hl:PO X lo tl)(hu:PO X hi th):PE X (.Subscript e (.Slice lo hi none p2) pos) (tSl r te tl th):=by
 intro pins s σ H Q I h
 refine Subscript_ (thn (he pins s σ H _ I h) fun v s1 zz=>?_)
 obtain⟨x,H1,I1,r1,q1⟩:=zz
 refine wpAny_Slice (thn (hl pins s1 σ H1 _ I1 q1) fun vl s2 ⟨l,H2,I2,pl,q2⟩=>thn (hu pins s2 σ H2 _ I2 q2) fun vu s3 zz=>?_)
 obtain⟨u,H3,I3,pu,q3⟩:=zz
 rw[evalPart_none]
 refine wpAny_pure ?_
 have I4:Inv X pins σ H3 { s3 with heap:=s3.heap.push { cls:=.type "slice",data:=.fields #[vl,vu,.none] } }:=I3.kept (t':=s3.toks) fun b ob q=>Heap.get?_push_of_some _ q
 obtain⟨T,id,hT,ht,hg⟩:=hr pins { s3 with heap:=s3.heap.push { cls:=.type "slice",data:=.fields #[vl,vu,.none] } } σ H3 x v vl vu l u s3.heap.objs.size Q I4 r1 (Heap.IsSliceOf.new ..) pl pu q3
 show wpAny (model X.prog X.w) X.A (subscriptTail e (.Slice lo hi none p2) v (.ref s3.heap.objs.size)) (EP X pins σ Q) X.xe { s3 with heap:=s3.heap.push { cls:=.type "slice",data:=.fields #[vl,vu,.none] } }
 exact tail_any (ops:=[.ref s3.heap.objs.size,v]) ht hT hg (by with_unfolding_all rfl)
def zeE(xs:List V)(lo hi:Option Int):List V:=(xs.drop (HT.sIx xs.length 0 lo)).take (HT.sIx xs.length xs.length hi-HT.sIx xs.length 0 lo)
theorem zjJ(xs:List V)(lo hi:Option Int):(zeE xs lo hi).length<=xs.length:=by
 unfold zeE
 rw[ybz,yaj]
 omega
def zn4(K:Fg):R2:=fun x y H Q=>∃a b xs ys,x=.ref a/\y=.ref b/\SqT K H a xs/\SqT K H b ys/\xs≠[]/\xs.length+ys.length<=sizeLine /\
 (ys=[]->Q (.ref a) H)/\(ys≠[]->∀p,H p=none->Q (.ref p) (upd H p (.tup (xs++ys))))
theorem Vals.nil_iff{xs:List V}{us:List Value}(r:Vals xs us):us=[]↔xs=[]:=by
 cases r with
 | nil=>simp
 | cons _ _=>simp
theorem zo1:OpR X (binaryOp .Add) (zn4 X.K):=by
 intro pins s σ H x y v u Q I rx ry h
 obtain⟨a,b,xs,ys,rfl,rfl,ha,hb,hx,hz,q1,q2⟩:=h
 cases rx
 cases ry
 obtain⟨its,r1,p1,_⟩:=I.tuple ha
 obtain⟨its2,r2,p2,_⟩:=I.tuple hb
 refine HT.cat_tup p1 p2 (fun z=>hx (r1.nil_iff.mp z)) (fun z=>⟨.ref a,H,I,rfl,q1 (r2.nil_iff.mp z)⟩) (fun z=>?_) (by rw[<- r1.length,<- r2.length];exact hz)
 refine⟨.ref s.heap.objs.size,_,I.laid (t':=s.toks) (o:=.tup (xs++ys)) (fun b ob q=>Heap.get?_push_of_some _ q) (ye _) ?_,rfl,q2 (fun w=>z (r2.nil_iff.mpr w)) _ (I.hok.fresh (ye _))⟩
 exact⟨by rw[ya];exact hz,_,r1.append r2,IsTup.new _ _⟩
end
def ixN(n:Nat)(i:Int):Option Nat:=if 0<=i then(if i<n then some i.toNat else none)else if -(n:Int)<=i then some (i+n).toNat else none
def atI{α:Type}(xs:List α)(i:Int):Option α:=(ixN xs.length i).bind fun j=>xs[j]?
theorem zkl{n:Nat}{i:Int}{j:Nat}(h:ixN n i=some j):seqIndex? i n=some j/\j<n/\-(n:Int)<=i/\i<n:=by
 unfold ixN at h
 by_cases h0:0<=i
 ·rw[if_pos h0]at h
  by_cases h1:i<n
  ·rw[if_pos h1]at h
   have e:i.toNat=j:=yp h
   exact⟨by rw[seqIndex_of h0 h1,e],by omega,by omega,h1⟩
  ·rw[if_neg h1]at h;cases h
 ·rw[if_neg h0]at h
  by_cases h1:-(n:Int)<=i
  ·rw[if_pos h1]at h
   have e:(i+n).toNat=j:=yp h
   exact⟨by rw[seqIndex_neg (by omega) h1,e],by omega,h1,by omega⟩
  ·rw[if_neg h1]at h;cases h
theorem zfm{α:Type}{xs:List α}{i:Int}{v:α}(h:atI xs i=some v):∃j,seqIndex? i xs.length=some j/\xs[j]?=some v/\j<xs.length/\-(xs.length:Int)<=i/\i<xs.length:=by
 unfold atI at h
 cases e:ixN xs.length i with
 | none=>rw[e]at h;cases h
 | some j=>
  rw[e]at h
  obtain⟨h1,h2,h3,h4⟩:=zkl e
  exact⟨j,h1,h,h2,h3,h4⟩
theorem zU{α:Type}{xs:List α}{j:Nat}{v:α}(h:xs[j]?=some v):atI xs (j:Int)=some v:=by
 have hj:j<xs.length:=(yj.mp h).1
 have e:ixN xs.length (j:Int)=some j:=by
  unfold ixN
  rw[if_pos (by omega),if_pos (by omega)];simp
 unfold atI;rw[e];exact h
def zpd(b:Expr):Prop:=∀o i,subscripted b false o i=operate [o,i] (getItem o i)
def IxR(X:Cx)(r:R2):Prop:=
 ∀(value slice:Expr) (pins:List (Addr × Obj)) (s:Shared) (σ:St) (H:Hp) (x y:V) (v u:Value) (Q:VK),Inv X pins σ H s->RelV x v->RelV y u->r x y H Q ->
  subscripted slice false v u=operate [v,u] (getItem v u)->wpAny (model X.prog X.w) X.A (subscriptTail value slice v u) (EP X pins σ Q) X.xe s
def MtR(X:Cx)(id:String)(r:V->List V->Hp->VK->Prop):Prop:=
 ∀(pins:List (Addr × Obj)) (s:Shared) (σ:St) (H:Hp) (x:V) (xs:List V) (v:Value) (us:List Value) (Q:VK),Inv X pins σ H s->RelV x v->Vals xs us->r x xs H Q ->
  wpAny (model X.prog X.w) X.A (call (.builtin id) (v :: us)) (EP X pins σ Q) X.xe s
section
variable {X:Cx}{a b:Expr}{ta tb:TE}{pos:Pos}
theorem IxR.or{r r':R2}(h:IxR X r)(h':IxR X r'):IxR X (fun x y H Q=>r x y H Q\/r' x y H Q):=by
 intro value slice pins s σ H x y v u Q I rx ry q hs
 rcases q with q | q
 ·exact h value slice pins s σ H x y v u Q I rx ry q hs
 ·exact h' value slice pins s σ H x y v u Q I rx ry q hs
theorem zl{r:R2}(hr:IxR X r)(ha:PE X a ta)(hb:PE X b tb)(hs:zpd b):PE X (.Subscript a b pos) (tOp r ta tb):=by
 intro pins s σ H Q I h
 exact Subscript_ (znr ha hb I h fun v u s2 x y H2 I2 rx ry q=>hr a b pins s2 σ H2 x y v u Q I2 rx ry q (hs _ _))
def zet(K:Fg):R2:=fun x y H Q=>∃p xs i v,x=.ref p/\y=.int i/\SqL K H p xs/\atI xs i=some v/\Q v H
def zql(K:Fg):R2:=fun x y H Q=>∃p xs i v,x=.ref p/\y=.int i/\SqT K H p xs/\atI xs i=some v/\Q v H
def zpG:R2:=fun x y H Q=>∃z i c,x=.str z/\y=.int i/\z.length<=sizeLine/\atI z.cps.toList i=some c/\Q (.str ⟨#[c]⟩) H
theorem ix_list:IxR X (zet X.K):=by
 intro value slice pins s σ H x y v u Q I rx ry h hs
 obtain⟨p,xs,i,z,rfl,rfl,hq,he,q⟩:=h
 cases rx
 obtain⟨t,rfl⟩:=ry
 obtain⟨its,r,pl,hz⟩:=I.list hq
 obtain⟨j,h1,h2,h3,h4,h5⟩:=zfm he
 obtain⟨w,ew,rw'⟩:=r.get h2
 have hl:=r.length
 have hn:=line63
 have fin:EP X pins σ Q w s:=⟨z,H,I,rw',q⟩
 by_cases h0:0<=i
 ·have hj:i.toNat=j:=by
   rw[seqIndex_of h0 h5]at h1
   exact yp h1
  exact item_listR pl.isList h0 (by omega) (by rw[hj];simpa using ew) fin hs
 ·have hj:(i+(its.toArray.size:Int)).toNat=j:=by
   rw[seqIndex_neg (by omega) h4]at h1
   rw[yn,<- hl]
   exact yp h1
  exact subscriptTail_builtinR (x:=w) pl.isList.typeIs slot_list_getitem.lookup
   (wpAny_getItem_list_neg (Q:=fun r s'=>r=w/\EP X pins σ Q r s') pl.isList (by omega) (by rw[yn]<;>omega) (by omega) (by rw[hj];simpa using ew) ⟨rfl,fin⟩) hs
theorem ix_tup:IxR X (zql X.K):=by
 intro value slice pins s σ H x y v u Q I rx ry h hs
 obtain⟨p,xs,i,z,rfl,rfl,hq,he,q⟩:=h
 cases rx
 obtain⟨t,rfl⟩:=ry
 obtain⟨its,r,pl,hz⟩:=I.tuple hq
 obtain⟨j,h1,h2,h3,h4,h5⟩:=zfm he
 obtain⟨w,ew,rw'⟩:=r.get h2
 have hl:=r.length
 have hn:=line63
 have fin:EP X pins σ Q w s:=⟨z,H,I,rw',q⟩
 exact subscriptTail_builtinR (x:=w) pl.typeIs slot_tuple_getitem.lookup
  (getItem_tuple (j:=j) (Q:=fun r s'=>r=w/\EP X pins σ Q r s') pl (by omega) (by omega) (by rw[yn,<- hl];exact h1) (by simpa using ew) ⟨rfl,fin⟩) hs
theorem zpu:IxR X zpG:=by
 intro value slice pins s σ H x y v u Q I rx ry h hs
 obtain⟨z,i,c,rfl,rfl,hz,he,q⟩:=h
 obtain⟨t,rfl⟩:=rx
 obtain⟨t',rfl⟩:=ry
 obtain⟨j,h1,h2,h3,h4,h5⟩:=zfm he
 have hl:z.cps.toList.length=z.length:=by simp[Str.length]
 rw[hl]at h1 h4 h5
 have hn:=line63
 exact tail_any (typeIs_str s z t) slot_str_getitem.lookup (getItem_str (c:=c) (by
  have e1:decide (i < -(2 ^ 63:Int))=false:=decide_eq_false (by omega)
  have e2:decide (i≥2 ^ 63)=false:=decide_eq_false (by omega)
  rw[e1,e2,Bool.or_false]) (by rw[h1];simpa using h2) ⟨.str ⟨#[c]⟩,H,I.tok _,⟨_,rfl⟩,q⟩) hs
def rIx(K:Fg):R2:=fun x y H Q=>zet K x y H Q\/zql K x y H Q\/zpG x y H Q
theorem zk:IxR X (rIx X.K):=ix_list.or (ix_tup.or zpu)
theorem zlh(its:List Value)(n j:Nat)(u:Value):Obj.mapSeq (·.setIfInBounds j u) { cls:=.type "list",data:=.seq its.toArray n }={ cls:=.type "list",data:=.seq (its.set j u).toArray n }:=by
 simp[Obj.mapSeq]
theorem Inv.lst{pins:List (Addr × Obj)}{σ:St}{H:Hp}{s:Shared}{p:Addr}{xs:List V}(I:Inv X pins σ H s)(h:H p=some (.lst xs)) :
  ∃(its:List Value) (n:Nat),Vals xs its/\s.heap.get? p=some { cls:=.type "list",data:=.seq its.toArray n }/\xs.length<=sizeLine:=by
 obtain⟨z,its,n,r,e⟩:=I.hok p _ h
 exact⟨its,n,r,e,z⟩
theorem Inv.lstUpd{pins:List (Addr × Obj)}{σ:St}{H:Hp}{s:Shared}{p:Addr}{xs ys:List V}{its its':List Value}{n n':Nat}{f:Obj->Obj}(I:Inv X pins σ H s)(h:H p=some (.lst xs))
  (ho:s.heap.get? p=some { cls:=.type "list",data:=.seq its.toArray n }) (hf:f { cls:=.type "list",data:=.seq its.toArray n }={ cls:=.type "list",data:=.seq its'.toArray n' }) (r:Vals ys its') (hz:ys.length<=sizeLine) (t:Nat) :
  Inv X pins σ (upd H p (.lst ys)) { s with heap:=s.heap.update p f,toks:=t }:=by
 have e:(s.heap.update p f).get? p=some { cls:=.type "list",data:=.seq its'.toArray n' }:=by
  rw[Heap.get?_update_self f ho (by rw[hf]<;>rfl),hf]
 refine I.write (x:=p) (e:=p) (by rw[h];trivial) (.inl rfl) (fun b u hb q=>(Heap.get?_update_other _ _ (ya1 hb)).trans q) ⟨_,e⟩ ?_
 exact⟨hz,its',n',r,e⟩
def zgv:V->V->V->Hp->(Hp->Prop)->Prop:=fun o i v H Q=>∃p xs k j,o=.ref p/\i=.int k/\H p=some (.lst xs)/\ixN xs.length k=some j/\Q (upd H p (.lst (xs.set j v)))
theorem zaU:znL X zgv:=by
 intro pins s σ H o i v ov iv u Q I ro ri rv h
 obtain⟨p,xs,k,j,rfl,rfl,hp,hj,q⟩:=h
 cases ro
 obtain⟨t,rfl⟩:=ri
 obtain⟨its,n,r,ho,hz⟩:=I.lst hp
 obtain⟨h1,h2,h3,h4⟩:=zkl hj
 have hl:=r.length
 have hn:=line63
 have I':Inv X pins σ (upd H p (.lst (xs.set j v))) { s with heap:=s.heap.update p (Obj.mapSeq (·.setIfInBounds j u)) }:=
  I.lstUpd hp ho (zlh its n j u) (r.set rv j) (by rw[yao];exact hz) s.toks
 by_cases h0:0<=k
 ·have hk:k.toNat=j:=by
   rw[seqIndex_of h0 h4]at h1
   exact yp h1
  exact PySem.W.ki_setAt ho h0 (by omega) (by rw[yn,<- hl];exact h4) (by rw[hk];exact⟨_,I',q⟩)
 ·have hk:(k+(its.toArray.size:Int)).toNat=j:=by
   rw[seqIndex_neg (by omega) h3]at h1
   rw[yn,<- hl]
   exact yp h1
  exact PySem.W.ki_setBack ho (by omega) (by rw[yn,<- hl];exact h3) (by omega) (by rw[hk];exact⟨_,I',q⟩)
theorem ziu(lo hi:Option Int)(n:Nat):(sliceBounds lo hi none n).1=((HT.sIx n 0 lo:Nat):Int)/\(sliceBounds lo hi none n).2.1=((HT.sIx n n hi:Nat):Int)/\(sliceBounds lo hi none n).2.2=1:=by
 refine⟨?_,?_,rfl⟩
 ·cases lo with
  | none=>simp[sliceBounds,HT.sIx]
  | some i=>
   simp only[sliceBounds,HT.sIx,Option.getD_none,show(1:Int)>0 by decide,if_true]
   by_cases h:i<0
   ·simp only[h,if_true]<;>omega
   ·simp only[h,if_false]<;>omega
 ·cases hi with
  | none=>simp[sliceBounds,HT.sIx]
  | some i=>
   simp only[sliceBounds,HT.sIx,Option.getD_none,show(1:Int)>0 by decide,if_true]
   by_cases h:i<0
   ·simp only[h,if_true]<;>omega
   ·simp only[h,if_false]<;>omega
theorem zhY(its:List Value)(lo hi:Option Int):slicePick its.toArray lo hi none=((its.drop (HT.sIx its.length 0 lo)).take (HT.sIx its.length its.length hi-HT.sIx its.length 0 lo)).toArray:=by
 obtain⟨h1,h2,h3⟩:=ziu lo hi its.toArray.size
 unfold slicePick
 rw[h1,h2,h3]
 simp only[sliceRange_one,pick_run,yn]<;>rfl
def zf0(K:Fg):V->Option Int->Option Int->Hp->VK->Prop:=fun x lo hi H Q=>∃a xs,x=.ref a/\SqL K H a xs/\∀p,H p=none->Q (.ref p) (upd H p (.lst (zeE xs lo hi)))
theorem zgW:SlR X (zf0 X.K):=by
 intro pins s σ H x v vl vu lo hi sl Q I rx hs pl pu h
 obtain⟨a,xs,rfl,hx,q⟩:=h
 cases rx
 obtain⟨its,r,ht,hz⟩:=I.list hx
 have hlen:=r.length
 refine⟨"list",_,slot_list_getitem.lookup,ht.isList.typeIs,?_⟩
 refine wpAny_getItem_list_slice ht.isList hs pl pu .none (by simp) ?_ (by rw[yn]<;>omega)
 rw[zhY,<- hlen]
 refine⟨.ref s.heap.objs.size,_,I.laid (t':=s.toks) (o:=.lst (zeE xs lo hi)) (fun b ob q=>Heap.get?_push_of_some _ q) (ye _) ?_,rfl,q _ (I.hok.fresh (ye _))⟩
 exact⟨yh (zjJ xs lo hi) hz,_,0,(r.drop (HT.sIx xs.length 0 lo)).take (HT.sIx xs.length xs.length hi-HT.sIx xs.length 0 lo),Heap.get?_push_size _ rfl⟩
def zdD:V->Bool
 | .non=>true
 | .bl _=>true
 | .int _=>true
 | .str _=>true
 | _=>false
def eqV:V->V->Bool
 | .non,.non=>true
 | .bl a,.bl b=>a == b
 | .bl a,.int b=>(if a then 1 else 0) == b
 | .int a,.bl b=>a == (if b then 1 else 0)
 | .int a,.int b=>a == b
 | .str a,.str b=>a == b
 | _,_=>false
theorem zp6{A:Around}{s:Shared}{y x:V}{u v:Value}(ry:RelV y u)(rx:RelV x v)(fy:zdD y=true)(fx:zdD x=true):SeqAt.EqAt A s u v (eqV y x):=by
 cases y with
 | non=>
  cases ry
  cases x with
  | non=>cases rx;exact SeqAt.EqAt.same _
  | bl b=>cases rx;exact SeqAt.EqAt.none_bool b
  | int b=>obtain⟨t,rfl⟩:=rx;exact SeqAt.EqAt.none_int b t
  | str b=>obtain⟨t,rfl⟩:=rx;exact SeqAt.EqAt.none_str b t
  | _=>exact absurd (show false=true from fx) yo
 | bl a=>
  cases ry
  cases x with
  | non=>cases rx;exact SeqAt.EqAt.bool_none a
  | bl b=>cases rx;exact SeqAt.EqAt.bool_bool a b
  | int b=>obtain⟨t,rfl⟩:=rx;exact SeqAt.EqAt.bool_int a b t
  | str b=>obtain⟨t,rfl⟩:=rx;exact SeqAt.EqAt.bool_str a b t
  | _=>exact absurd (show false=true from fx) yo
 | int a=>
  obtain⟨t',rfl⟩:=ry
  cases x with
  | non=>cases rx;exact SeqAt.EqAt.int_none a t'
  | bl b=>cases rx;exact SeqAt.EqAt.int_bool a t' b
  | int b=>obtain⟨t,rfl⟩:=rx;exact SeqAt.EqAt.int_int a t' b t
  | str b=>obtain⟨t,rfl⟩:=rx;exact SeqAt.EqAt.int_str a t' b t
  | _=>exact absurd (show false=true from fx) yo
 | str a=>
  obtain⟨t',rfl⟩:=ry
  cases x with
  | non=>cases rx;exact SeqAt.EqAt.str_none a t'
  | bl b=>cases rx;exact SeqAt.EqAt.str_bool a t' b
  | int b=>obtain⟨t,rfl⟩:=rx;exact SeqAt.EqAt.str_int a t' b t
  | str b=>obtain⟨t,rfl⟩:=rx;exact SeqAt.EqAt.str_str a t' b t
  | _=>exact absurd (show false=true from fx) yo
 | _=>exact absurd (show false=true from fy) yo
def eqU(x:V)(u:Value):Bool:=match u with
 | .none=>eqV .non x
 | .bool b=>eqV (.bl b) x
 | .int i _=>eqV (.int i) x
 | .str z _=>eqV (.str z) x
 | _=>false
theorem ziX{x y:V}{u:Value}(r:RelV y u)(f:zdD y=true):eqU x u=eqV y x:=by
 cases y with
 | non=>cases r;rfl
 | bl b=>cases r;rfl
 | int i=>obtain⟨t,rfl⟩:=r;rfl
 | str z=>obtain⟨t,rfl⟩:=r;rfl
 | _=>exact absurd (show false=true from f) yo
theorem zei{x:V}:∀{xs:List V} {us:List Value},Vals xs us->xs.all zdD=true->us.any (eqU x)=xs.any fun y=>eqV y x
 | _,_,.nil,_=>rfl
 | y :: xs,u :: us,.cons r t,f=>by
  rw[ybw,y3]at f
  rw[List.any_cons,List.any_cons,ziX r f.1,zei t f.2]
theorem zdg{A:Around}{s:Shared}{x:V}{v:Value}(rx:RelV x v)(fx:zdD x=true):∀{xs:List V} {us:List Value},Vals xs us->xs.all zdD=true->∀u∈us,SeqAt.EqAt A s u v (eqU x u)
 | _,_,.nil,_=>fun u hu=>by cases hu
 | y :: xs,u :: us,.cons r t,f=>fun u' hu=>by
  rw[ybw,y3]at f
  rcases yz.mp hu with rfl | hu
  ·rw[ziX r f.1];exact zp6 r rx f.1 fx
  ·exact zdg rx fx t f.2 u' hu
def inV(x:V)(xs:List V):Bool:=xs.any fun y=>eqV y x
def rIn(K:Fg)(neg:Bool):R2:=fun x y H Q=>∃p xs,y=.ref p/\(SqL K H p xs\/SqT K H p xs)/\zdD x=true/\xs.all zdD=true/\Q (.bl (if neg then !inV x xs else inV x xs)) H
theorem zht:OpR X (compareOp .In) (rIn X.K false):=by
 intro pins s σ H x y v u Q I rx ry h
 obtain⟨p,xs,rfl,hq,fx,fs,q⟩:=h
 cases ry
 rcases hq with hq | hq
 ·obtain⟨its,r,pl,hz⟩:=I.list hq
  refine SeqAt.in_listAt (eqU x) pl.isList (fun w hw=>zdg rx fx r fs w (by simpa using hw)) ⟨.bl _,H,I,rfl,?_⟩
  rw[show its.toArray.any (eqU x)=its.any (eqU x) by simp,zei r fs]
  exact q
 ·obtain⟨its,r,pl,hz⟩:=I.tuple hq
  refine SeqAt.in_tupleAt (eqU x) pl (fun w hw=>zdg rx fx r fs w (by simpa using hw)) ⟨.bl _,H,I,rfl,?_⟩
  rw[show its.toArray.any (eqU x)=its.any (eqU x) by simp,zei r fs]
  exact q
theorem ze0:OpR X (compareOp .NotIn) (rIn X.K true):=by
 intro pins s σ H x y v u Q I rx ry h
 obtain⟨p,xs,rfl,hq,fx,fs,q⟩:=h
 cases ry
 rcases hq with hq | hq
 ·obtain⟨its,r,pl,hz⟩:=I.list hq
  refine SeqAt.notIn_listAt (eqU x) pl.isList (fun w hw=>zdg rx fx r fs w (by simpa using hw)) ⟨.bl _,H,I,rfl,?_⟩
  rw[show its.toArray.any (eqU x)=its.any (eqU x) by simp,zei r fs]
  exact q
 ·obtain⟨its,r,pl,hz⟩:=I.tuple hq
  refine SeqAt.notIn_tupleAt (eqU x) pl (fun w hw=>zdg rx fx r fs w (by simpa using hw)) ⟨.bl _,H,I,rfl,?_⟩
  rw[show its.toArray.any (eqU x)=its.any (eqU x) by simp,zei r fs]
  exact q
theorem ziS:CallR X (.builtin "len") (fun xs H Q=>∃p ys,xs=[.ref p]/\(SqL X.K H p ys\/SqT X.K H p ys)/\Q (.int ys.length) H):=by
 intro pins s σ H xs us Q I r h
 obtain⟨p,ys,rfl,hq,q⟩:=h
 obtain⟨u,rfl,rx⟩:=vals1 r
 cases rx
 have hn:=line63
 rcases hq with hq | hq
 ·obtain⟨its,r',pl,hz⟩:=I.list hq
  have hlen:=r'.length
  exact Calls.call_len_list pl.isList (by simp only[yn]<;>omega) ⟨.int ys.length,H,I.tok _,⟨s.toks+1,by rw[yn,hlen]⟩,q⟩
 ·obtain⟨its,r',pl,hz⟩:=I.tuple hq
  have hlen:=r'.length
  exact len_tuple pl (by simp only[yn]<;>omega) ⟨.int ys.length,H,I.tok _,⟨s.toks+1,by rw[yn,hlen]⟩,q⟩
theorem CallR.or{f:Value}{r r':List V->Hp->VK->Prop}(h:CallR X f r)(h':CallR X f r'):CallR X f (fun xs H Q=>r xs H Q\/r' xs H Q):=by
 intro pins s σ H xs us Q I rs q
 rcases q with q | q
 ·exact h pins s σ H xs us Q I rs q
 ·exact h' pins s σ H xs us Q I rs q
theorem ziW:CallR X (.type "list") (fun xs H Q=>∃p ys,xs=[.ref p]/\(SqL X.K H p ys\/SqT X.K H p ys)/\∀l,H l=none->Q (.ref l) (upd H l (.lst ys))):=by
 intro pins s σ H xs us Q I r h
 obtain⟨p,ys,rfl,hq,q⟩:=h
 obtain⟨u,rfl,rx⟩:=vals1 r
 cases rx
 have fin:∀(its:List Value),Vals ys its->ys.length<=sizeLine->∀(h':Heap) (c':Nat),(∀b o',s.heap.get? b=some o'->h'.get? b=some o') ->
   h'.get? s.heap.objs.size=some { cls:=.type "list",dict:=none,data:=.seq its.toArray c',slots:=#[] }->EP X pins σ Q (.ref s.heap.objs.size) { s with heap:=h' }:=fun its r' hz h' c' kp e=>
  ⟨.ref s.heap.objs.size,_,I.laid (t':=s.toks) kp (ye _) (show ObjOk X.prog X.w _ h' _ (.lst ys) from⟨hz,its,c',r',e⟩),rfl,q _ (I.hok.fresh (ye _))⟩
 rcases hq with hq | hq
 ·obtain⟨its,r',pl,hz⟩:=I.list hq
  have hlen:=r'.length
  obtain⟨o,ho,hc,n,hd⟩:=pl.isList
  exact call_list_seq p (.inl rfl) ho hc hd (fun h' c' kp e=>fin its r' hz h' c' kp e) (by simp only[yn]<;>omega)
 ·obtain⟨its,r',pl,hz⟩:=I.tuple hq
  have hlen:=r'.length
  obtain⟨o,ho,hc,n,hd⟩:=pl
  exact call_list_seq p (.inr rfl) ho hc hd (fun h' c' kp e=>fin its r' hz h' c' kp e) (by simp only[yn]<;>omega)
def tyV(K:Fg)(T:String)(x:V)(H:Hp):Prop:=match x with
 | .str _=>T = "str"
 | .int _=>T = "int"
 | .ref p=>(T = "list" /\ ∃xs,SqL K H p xs)\/(T = "tuple" /\ ∃o,K.lookup p=some o/\o.cls=.type "tuple" /\ o.dict=none) \/
   (T = "dict" /\ ((∃kvs,H p=some (.dK kvs))\/∃kvs,H p=some (.dT kvs)))\/(T = "set" /\ ∃S n,H p=some (.set S n))
 | _=>False
theorem zqq{pins:List (Addr × Obj)}{σ:St}{H:Hp}{s:Shared}{T:String}{x:V}{v:Value}(I:Inv X pins σ H s)(r:RelV x v)(ty:tyV X.K T x H) :
  s.TypeIs v T/\∀a,v=.ref a->∃ob,s.heap.get? a=some ob/\ob.dict=none:=by
 cases x with
 | str z=>
  obtain⟨t,rfl⟩:=r
  cases(show T = "str" from ty)
  exact⟨typeIs_str s z t,fun _ e=>nomatch e⟩
 | int i=>
  obtain⟨t,rfl⟩:=r
  cases(show T = "int" from ty)
  exact⟨typeIs_int s i t,fun _ e=>nomatch e⟩
 | ref p=>
  cases r
  rcases ty with⟨rfl,xs,hq⟩ | ⟨rfl,o,hk,hc,hd⟩ | ⟨rfl,hk⟩ | ⟨rfl,S,n,hk⟩
  ·obtain⟨its,_,pl,_⟩:=I.list hq
   refine⟨pl.isList.typeIs,fun a e=>?_⟩
   cases e
   obtain⟨o,n,e,c,hd,_⟩:=pl
   exact⟨o,e,hd⟩
  ·refine⟨⟨o,I.kIn p o hk,hc⟩,fun a e=>?_⟩
   cases e
   exact⟨o,I.kIn _ o hk,hd⟩
  ·have z:∃o,s.heap.get? p=some o/\o.ExactDict:=by
    rcases hk with⟨kvs,hk⟩ | ⟨kvs,hk⟩
    ·obtain⟨_,_,_,_,o,_,_,e,ex,_⟩:=I.hok p _ hk
     exact⟨o,e,ex⟩
    ·obtain⟨_,_,_,_,o,_,_,e,ex,_⟩:=I.hok p _ hk
     exact⟨o,e,ex⟩
   obtain⟨o,e,ex⟩:=z
   refine⟨⟨o,e,ex.1⟩,fun a e2=>?_⟩
   cases e2
   exact⟨o,e,ex.2.1⟩
  ·obtain⟨o,_,_,_,e,ex,_⟩:=I.hok p _ hk
   refine⟨⟨o,e,ex.1⟩,fun a e2=>?_⟩
   cases e2
   exact⟨o,e,ex.2.1⟩
 | _=>exact False.elim ty
def tBM(K:Fg)(T:String)(r:V->List V->Hp->VK->Prop)(to:TE)(t:TA):TE:=fun σ H Q=>to σ H fun x H1=>tyV K T x H1/\t σ H1 fun xs H2=>r x xs H2 Q
variable {o e:Expr}{es:List Expr}{to:TE}{t:TA}{name:Str}{apos cpos:Pos}{T id:String}{r:V->List V->Hp->VK->Prop}
theorem zdH(pa:PlainAttrs T)(slot:Slot T name id)(hty:typeOf (.builtin id)=pure (.type "method_descriptor"))(hm:MtR X id r)(ho:PE X o to)(ha:PA X (e :: es) t)
  (hbase:autoParam (attributeBase o name X.env (eval o X.env)=eval o X.env) Internal.aut2._auto_1)
  (hfew:autoParam (((backTo cpos (starEach (e :: es) X.env)).all (fun x=>!x.1)&&(backToKw cpos (keywordEach [] X.env)).all (fun x=>x.1.isSome)
   && decide ((e :: es).length+([]:List Keyword).length+(if([]:List Keyword).isEmpty then 0 else 1)<30))=true) Internal.aut2._auto_1)
  (hline:autoParam ((apos.endLine == cpos.line)=true) Internal.aut2._auto_1) (hs:autoParam (starEach (e :: es) X.env=(false,eval e X.env) :: starEach es X.env) Internal.aut2._auto_1) (hplain:autoParam ((backTo cpos (starEach es X.env)).any (·.1)=false) Internal.aut2._auto_1) :
  PE X (.Call (.Attribute o name apos) (e :: es) [] cpos) (tBM X.K T r to t):=by
 intro pins s σ H Q I h
 refine wpAny_Call_method_late hbase hfew hline rfl (thn (ho pins s σ H _ I h) fun v s1 zz=>?_)
 obtain⟨x,H1,I1,r1,ty,q1⟩:=zz
 obtain⟨h1,h2⟩:=zqq I1 r1 ty
 refine⟨T,id,pa,slot,hty,h1,h2,?_⟩
 have hA:=ha cpos pins s1 σ H1 _ I1 q1
 rw[hs]at hA ⊢
 refine Calls.callWith_builtin (by show(false || (backTo cpos (starEach es X.env)).any (·.1))=false;rw[hplain]<;>rfl) (Calls.evalArgs_plain ?_)
 exact thn hA fun us s2 ⟨vs,H2,I2,r2,q2⟩=>hm pins s2 σ H2 x vs v us Q I2 r1 r2 q2
/- xs.append(e),list.index on a module's tuple .. are MtR facts of 06m -/
end
def MtM(X:Cx)(id:String)(r:V->List V->Hp->VK->Prop):Prop:=
 ∀(pins:List (Addr × Obj)) (s:Shared) (σ:St) (H:Hp) (x:V) (xs:List V) (v:Value) (us:List Value) (Q:VK),Inv X pins σ H s->RelV x v->Vals xs us->r x xs H Q ->
  wpAny (model X.prog X.w) X.A (call (.builtin id) (v :: us)) (EP X pins σ Q) X.xe s
theorem Vals.one:∀{x:V} {us:List Value},Vals [x] us->∃u,us=[u]/\RelV x u
 | _,_,h=>by
  cases h with
  | cons r t=>cases t;exact⟨_,rfl,r⟩
theorem Vals.rep{xs:List V}{us:List Value}(h:Vals xs us):∀k:Nat,Vals (List.replicate k xs).flatten (List.replicate k us).flatten
 | 0=>.nil
 | k+1=>by
  rw[yap,yap,yaT,yaT]
  exact Vals.append h (Vals.rep h k)
theorem zho(its:List Value):∀(k:Nat) (acc:List Value),
  List.foldl (fun x1 x2=>x1++x2) acc.toArray (List.replicate k its.toArray)=(acc++(List.replicate k its).flatten).toArray
 | 0,acc=>by simp
 | k+1,acc=>by
  have e:acc.toArray++its.toArray=(acc++its).toArray:=by simp
  have e2:(acc++its)++(List.replicate k its).flatten=acc++(List.replicate (k+1) its).flatten:=by
   rw[yap,yaT,List.append_assoc]
  rw[<- e2,<- zho its k (acc++its),<- e,yap,List.foldl_cons]
section
variable {X:Cx}{pins:List (Addr × Obj)}{σ:St}{H:Hp}{s:Shared}{l b:Addr}{xs ys zs:List V}
theorem Inv.lset{its its':List Value}{n:Nat}{f:Array Value->Array Value}{t':Nat}(I:Inv X pins σ H s)(hH:H l=some (.lst xs))
  (e:s.heap.get? l=some { cls:=.type "list",data:=.seq its.toArray n }) (hf:f its.toArray=its'.toArray) (hv:Vals ys its') (hz:ys.length<=sizeLine) :
  Inv X pins σ (upd H l (.lst ys)) { s with heap:=s.heap.update l (Obj.mapSeq f),toks:=t' }:=by
 have q:=PySem.IsL.update e f
 rw[hf]at q
 refine I.write (x:=l) (e:=l) (by rw[hH];exact trivial) (.inl rfl) (fun b' u hb hu=>(Heap.get?_update_other s.heap (Obj.mapSeq f) (ya1 hb)).trans hu) ⟨_,q⟩ ?_
 exact⟨hz,its',_,hv,q⟩
theorem Inv.lnew{its:List Value}{t':Nat}(I:Inv X pins σ H s)(hv:Vals ys its)(hz:ys.length<=sizeLine) :
  Inv X pins σ (upd H s.heap.objs.size (.lst ys)) { s with heap:=s.heap.push { cls:=.type "list",data:=.seq its.toArray },toks:=t' }:=
 I.laid (fun _ _ q=>Heap.get?_push_of_some _ q) (ye _) ⟨hz,its,0,hv,Heap.get?_push_size _ rfl⟩
theorem Inv.fresh(I:Inv X pins σ H s):H s.heap.objs.size=none:=I.hok.fresh (ye _)
theorem Inv.lstM(I:Inv X pins σ H s)(hH:H l=some (.lst xs)):xs.length<=sizeLine/\∃(its:List Value) (n:Nat),Vals xs its/\xs.length=its.length/\s.heap.get? l=some { cls:=.type "list",data:=.seq its.toArray n }:=by
 obtain⟨z,its,n,r,e⟩:=I.hok l _ hH
 exact⟨z,its,n,r,r.length,e⟩
theorem ziB{n:Nat}(h:n<=sizeLine):Builtin.List.listTooLong n=false:=by
 unfold Builtin.List.listTooLong
 exact decide_eq_false (by omega)
end
section
variable {X:Cx}
def zb9:V->List V->Hp->VK->Prop:=fun x vs H Q=>∃l xs y,x=.ref l/\vs=[y]/\H l=some (.lst xs)/\xs.length<sizeLine/\Q .non (upd H l (.lst (xs++[y])))
theorem zbT:MtM X "list.append" zb9:=by
 intro pins s σ H x vs v us Q I rx rv h
 obtain⟨l,xs,y,rfl,rfl,hH,hz,q⟩:=h
 cases rx
 obtain⟨u,rfl,ru⟩:=rv.one
 obtain⟨z,its,n,r,hl,e⟩:=I.lstM hH
 refine call_meets F.slot_list_append ⟨_,e,rfl⟩ F.entry_list_append (F.args_list_append_2 _ _) (PySem.list_append l its.toArray n u (by rw[yn];omega)) ⟨e,?_⟩
 refine⟨.non,_,I.lset (its':=its++[u]) hH e (by simp) (r.append (.cons ru .nil)) ?_,rfl,q⟩
 rw[ya,y9]
 omega
def zjY:V->List V->Hp->VK->Prop:=fun x vs H Q=>∃l b xs zs,x=.ref l/\vs=[.ref b]/\H l=some (.lst xs)/\H b=some (.lst zs)/\xs.length+zs.length<=sizeLine/\Q .non (upd H l (.lst (xs++zs)))
theorem zlQ:MtM X "list.extend" zjY:=by
 intro pins s σ H x vs v us Q I rx rv h
 obtain⟨l,b,xs,zs,rfl,rfl,hH,hB,hz,q⟩:=h
 cases rx
 obtain⟨u,rfl,ru⟩:=rv.one
 cases ru
 obtain⟨z,its,n,r,hl,e⟩:=I.lstM hH
 obtain⟨z2,its2,n2,r2,hl2,e2⟩:=I.lstM hB
 have hsz:its.toArray.size+its2.toArray.size<=sizeLine:=by rw[yn,yn];omega
 have hlong:¬(!its.toArray.isEmpty&&Builtin.List.listTooLong (its.toArray.size+its2.toArray.size))=true:=by
  rw[ziB hsz,Bool.and_false]
  exact yo
 refine call_meets F.slot_list_extend ⟨_,e,rfl⟩ F.entry_list_extend (F.args_list_extend_2 _ _)
  (AutoSeq1.list_extend_list_list_0 l its.toArray n b its2.toArray n2 hlong (by rw[yn];omega) (by omega)) ⟨e,e2,?_⟩
 refine⟨.non,_,I.lset (its':=its++its2) hH e (by simp) (r.append r2) ?_,rfl,q⟩
 rw[ya]
 omega
def zpI:R2:=fun x y H Q=>∃l b xs zs,x=.ref l/\y=.ref b/\H l=some (.lst xs)/\H b=some (.lst zs)/\xs.length+zs.length<=sizeLine/\∀p,H p=none->Q (.ref p) (upd H p (.lst (xs++zs)))
theorem op_cat:OpR X (binaryOp .Add) zpI:=by
 intro pins s σ H x y v u Q I rx ry h
 obtain⟨l,b,xs,zs,rfl,rfl,hH,hB,hz,q⟩:=h
 cases rx
 cases ry
 obtain⟨z,its,n,r,hl,e⟩:=I.lstM hH
 obtain⟨z2,its2,n2,r2,hl2,e2⟩:=I.lstM hB
 refine PySem.P.add_list e e2 ?_ (by rw[yn,yn];omega)
 have ea:its.toArray++its2.toArray=(its++its2).toArray:=by simp
 rw[ea]
 exact⟨.ref _,_,I.lnew (t':=s.toks) (r.append r2) (by rw[ya];omega),rfl,q _ I.fresh⟩
def zpQ:R2:=fun x y H Q=>∃l k xs,x=.ref l/\y=.int k/\H l=some (.lst xs)/\-(2 ^ 63)<=k/\k<2 ^ 63/\xs.length*k.toNat<=sizeLine /\
 ∀p,H p=none->Q (.ref p) (upd H p (.lst (List.replicate k.toNat xs).flatten))
theorem zpo{α:Type}(xs:List α)(k:Nat):(List.replicate k xs).flatten.length=k*xs.length:=by
 induction k with
 | zero=>simp
 | succ k ih=>rw[yap,yaT,ya,ih,Nat.succ_mul,Nat.add_comm]
theorem zpA:OpR X (binaryOp .Mult) zpQ:=by
 intro pins s σ H x y v u Q I rx ry h
 obtain⟨l,k,xs,rfl,rfl,hH,h1,h2,hz,q⟩:=h
 cases rx
 obtain⟨t,rfl⟩:=ry
 obtain⟨z,its,n,r,hl,e⟩:=I.lstM hH
 have hlen:its.toArray.size*k.toNat<=sizeLine:=by rw[yn,<- hl];exact hz
 have hcap:¬its.toArray.size*k.toNat>(2 ^ 63-1)/8:=by
  have:(sizeLine:Nat)<=(2 ^ 63-1)/8:=by decide
  omega
 have hfit:¬(!Builtin.List.listFitsIndex k)=true:=by
  rw[fitsIndex_both h1 h2]
  exact yo
 have hlong:¬Builtin.List.listTooLong (its.toArray.size*k.toNat)=true:=by
  rw[ziB hlen]
  exact yo
 have hnew:List.foldl (fun x1 x2=>x1++x2) #[] (List.replicate (if its.toArray.isEmpty=true then 0 else k.toNat) its.toArray)=(List.replicate k.toNat its).flatten.toArray:=by
  have f0:∀m:Nat,List.foldl (fun x1 x2=>x1++x2) #[] (List.replicate m its.toArray)=(List.replicate m its).flatten.toArray:=fun m=>by
   have:=zho its m []
   rw[List.nil_append]at this
   exact this
  rw[f0]
  cases its with
  | nil=>simp
  | cons a r'=>rw[if_neg (by simp)]
 refine wpAny_binaryOp_repeat_ref (T := "list") (U := "int") (by decide) ⟨_,e,rfl⟩ (fun s'=>typeIs_int s' k t) noFill_list_mul F.fills_int_mul F.slot_int_rmul repeat_list F.slot_int_index.lookup
  (call_meets F.slot_int_rmul (typeIs_int s k t) F.entry_int_rmul (F.args_int_rmul_2 _ _) (int___rmul___int_list k t l its.toArray n)
   ⟨e,rfl,⟨_,e,rfl⟩,call_meets F.slot_list_mul ⟨_,e,rfl⟩ F.entry_list_mul (F.args_list_mul_2 _ _) (AutoListH.list___mul___list_int_3 l its.toArray n k t hfit hcap hlong) ⟨e,?_⟩⟩)
 rw[hnew]
 exact⟨.ref _,_,I.lnew (t':=s.toks) (r.rep k.toNat) (by rw[zpo,Nat.mul_comm];exact hz),rfl,q _ I.fresh⟩
end
section
variable {prog:Program}{w:World}{A:Around}{E:Value->Shared->Prop}{s:Shared}
end
section
variable {X:Cx}
end
end Internal
namespace Att
open PySem PySem.W PySem.Calls PyProof.Rows
theorem zgE{P:Params}{h:Heap}:∀(ns:List Int) (vs:List Value),WellAll P h vs (ns.map WData.int)->IntsAre vs ns:=by
 intro ns
 induction ns with
 | nil=>
  intro vs w
  rw[List.map_nil]at w
  cases w
  exact .nil
 | cons n ns ih=>
  intro vs w
  rw[yaf]at w
  cases w with
  | cons a b=>
   cases a
   exact .cons _ _ (ih _ b)
theorem script_of{l:OpenLaw}{n:Nat}(hn:l.most=some n){P:Params}{h:Heap}{args:List WData}{vals:List Value}
  (hpre:l.row.toRowW.claim.pre args=true) (hwl:WellAll P h vals args) :
  ∃a vs ns,vals=[Value.ref a]/\args=[WData.list (ns.map WData.int)]/\h.get? a=some { cls:=.type "list",data:=.seq vs.toArray }/\IntsAre vs ns/\ns.length<=n:=by
 have hsh:WShape.hasAll [] args [.list .int]=true:=(pre_splitW hpre).1
 have hc:l.pre.holds [] { args:=args }=true:=(pre_splitW hpre).2
 obtain⟨d,r,rfl,h1,h2⟩:=hasAllW_cons hsh
 obtain rfl:=hasAllW_nil h2
 obtain⟨xs,rfl,h3⟩:=hasW_list h1
 obtain⟨ns,rfl⟩:=items_int h3
 have hlen:ns.length<=n:=by
  unfold OpenLaw.pre at hc
  have h4:(WTm.not (.lt (.lit (.int (n:Int))) (.len (.arg 0)))).holds [] { args:=[.list (ns.map .int)] }=true:=by
   have h4:=(holds_andW hc).1
   rw[hn]at h4
   exact h4
  have h5:=condW_of h4 (w_not (w_lt w_lit (w_len_list (w_arg rfl))))
  rw[yc]at h5
  refine Nat.le_of_not_lt fun q=>?_
  have q':(n:Int)<((ns.length:Nat):Int):=by omega
  first
   | (rw[decide_eq_true q']at h5;exact absurd h5 (by decide))
   | (simp at h5;omega)
 cases hwl with
 | cons w1 w2=>
  cases w2
  cases w1 with
  | list ho hall=>exact⟨_,_,ns,rfl,rfl,ho,zgE ns _ hall,hlen⟩
theorem post_true(l:OpenLaw)(args:List WData):l.row.toRowW.claim.post args (.bool true) args=true:=
 postW_of (r:=l.row.toRowW) (X:=(true == true))
  (show WShape.has [] (.bool true) .bool=true by first | rfl | decide | simp[WShape.has,WShape.arms,WShape.armsAll])
  (show(WTm.eq .res (.lit (.bool true))).value [] { args:=args,res:=some (.bool true),after:=args }=some (.bool (true == true))from w_eq_bool (w_res rfl) w_lit) rfl
section
variable {prog:Program}{w:World}{A:Around}{E:Value->Shared->Prop}{s:Shared}{K:Frag}
def ledger(h:Heap)(L d:Addr):List (Addr × Obj):=(List.range h.objs.size).filterMap fun a=>if a=L\/a=d then none else(h.get? a).map fun o=>(a,o)
end
end Att
namespace Internal
open PySem PySem.Spec PyProof.Rows
theorem zhF:∀{vs:List Value} {ns:List Int},IntsAre vs ns->Vals (ns.map V.int) vs
 | _,_,.nil=>.nil
 | _,_,.cons n t h=>.cons ⟨t,rfl⟩ (zhF h)
def zmQ(H:Hp):Prop:=∀b,H b=none\/∃o xs,H b=some (.frz o (.lst xs))
theorem znD{P:Program}{w:World}{K:Fg}{mg mb:Str->Option Value}{CX:CXT}{k:Nat}{fa a:Addr}{fd:FuncData}{x:Str}{sp:Sp}{s₁:Shared}{vs:List Value}{ns:List Int}
  (KX:K.In s₁.heap) (hns:s₁.heap.Ns mainGlobals mg) (hb:s₁.heap.Ns builtinsNs mb) (hbb:∀x:Str,x ≠ "__name__" -> mb x=bootBuiltins x) (hlim:s₁.heap.NoLimit) (hg:s₁.gens=#[])
  (ha:s₁.heap.get? a=some { cls:=.type "list",data:=.seq vs.toArray }) (hi:IntsAre vs ns) (hl:ns.length<=sizeLine) (hr:Room k callerA)
  (F:∀base:Heap,K.In base->base.Ns mainGlobals mg->FnOk P w K mg base CX k fa fd [x] sp) (hbind:∀(s:Shared) (u:Value),BindsTo s fd ⟨[u],[]⟩ [(x,u)])
  (hsp:∀H:Hp,zmQ H->SqL K H a (ns.map V.int)->sp [.ref a] H (fun v _=>v=.bl true) fun _ _ _=>False)
  (hCX:∀H e s',CX [] H s₁ (fun _ _ _=>False) e s'->False) :
  codeAny (model P w) callerA (.call (.ref fa) ⟨[.ref a],[]⟩) (fun r s'=>r=.ok (.ret (.bool true))/\OldK s₁.heap s'.heap/\s'.os=s₁.os/\AllBare s'.gens) s₁:=by
 have rv:=zhF hi
 have lenV:=hi.length
 -- from an abstract heap in which nothing but the script may be tracked
 have core:∀H:Hp,zmQ H->SqL K H a (ns.map V.int)->HOk P w H s₁.heap->(∀b,H b≠none->b=a)->(H a≠none->K.lookup a=none) ->
   codeAny (model P w) callerA (.call (.ref fa) ⟨[.ref a],[]⟩) (fun r s'=>r=.ok (.ret (.bool true))/\OldK s₁.heap s'.heap/\s'.os=s₁.os/\AllBare s'.gens) s₁:=by
  intro H hO hS hok hA hK
  have base_of:∀{b:Addr} {o:Obj},s₁.heap.get? b=some o->H b=none->(zeq s₁.heap H).get? b=some o:=fun e n=>zmI e n
  have noA:∀{b:Addr} {o:Obj} {es:Array DictEntry} {ep:Nat},s₁.heap.get? b=some o->o.data=.dict es ep->H b=none:=fun {b o es ep} e d=>by
   cases q:H b with
   | none=>rfl
   | some u=>
    have e':b=a:=hA b (by rw[q];simp)
    subst e'
    rw[ha]at e;cases e
    have d':Data.seq vs.toArray _=Data.dict es ep:=d
    cases d'
  have nsK:∀{b:Addr} {m:Str->Option Value},s₁.heap.Ns b m->(zeq s₁.heap H).Ns b m:=fun {b m} ⟨o,es,ep,e,d,r⟩=>⟨o,es,ep,base_of e (noA e d),d,r⟩
  have hKb:K.In (zeq s₁.heap H):=fun b o e=>base_of (KX b o e) (by
   cases q:H b with
   | none=>rfl
   | some u=>
    have e':b=a:=hA b (by rw[q];simp)
    subst e'
    rw[hK (by rw[q];simp)]at e;cases e)
  have hM:Mod K mg (zeq s₁.heap H):=⟨hKb,nsK hns,⟨mb,nsK hb,hbb⟩,let ⟨mc,h1,h2⟩:=hlim;⟨mc,nsK h1,h2⟩⟩
  have e0:Env0 P w K mg (zeq s₁.heap H) callerA [] s₁ H:=⟨rfl,hM,fun b o e=>zoC e,Nat.le_of_eq (zlz _ _),trivial,fun b hb=>absurd (show b∈([]:List Addr)from hb) (by simp),hok,.of_eq hg⟩
  refine codeAny_mono ((F _ hKb (nsK hns)).run callerA [] s₁ H ⟨[.ref a],[]⟩ [.ref a] [.ref a] _ _ hr e0 (hbind s₁ (.ref a)) (.cons rfl .nil) (hsp H hO hS)) fun r s' h=>?_
  cases r with
  | error e=>exact(hCX H e s' h).elim
  | ok fl=>
   cases fl with
   | next=>exact False.elim h
   | brk=>exact False.elim h
   | cont=>exact False.elim h
   | ret u=>
    obtain⟨v,H',os,bare,un,hok',r',q⟩:=h
    have q':v=.bl true:=q
    subst q'
    obtain rfl:u=Value.bool true:=r'
    refine⟨rfl,OldK.of_keep fun b o e=>?_,os,bare⟩
    cases q:H b with
    | none=>exact un.keep b o e q (by intro z;exact absurd (show b∈([]:List Addr)from z) (by simp)) (by simp)
    | some u=>
     rcases hO b with z | ⟨ob,xs,z⟩
     ·rw[q]at z;cases z
     ·have z2:=un.frzs b ob _ z
      obtain⟨e1,_⟩:=hok b _ z
      obtain⟨e2,_⟩:=hok' b _ z2
      rw[e]at e1;cases e1
      exact e2
 cases hk:K.lookup a with
 | some o=>
  -- the script is one of the module's own objects
  have e:=KX a o hk
  rw[ha]at e
  cases e
  refine core (fun _=>none) (fun _=>.inl rfl) (.inr ⟨_,vs.toArray,_,hk,rfl,rfl,rfl,by rw[yn,lenV];exact hl,by simpa using rv⟩) (fun b u z=>by have z':(none:Option HO)=some u:=z;cases z') (fun b z=>absurd rfl z) fun z=>absurd rfl z
 | none=>
  refine core (fun b=>if b=a then some (.frz { cls:=.type "list",data:=.seq vs.toArray } (.lst (ns.map V.int)))else none) (fun b=>?_) (.inl (.inr ⟨{ cls:=.type "list",data:=.seq vs.toArray },if_pos rfl⟩)) (fun b u z=>?_) (fun b z=>?_) fun _=>hk
  ·by_cases hb:b=a
   ·exact .inr ⟨_,_,if_pos hb⟩
   ·exact .inl (if_neg hb)
  ·by_cases hb:b=a
   ·have z':=(if_pos hb).symm.trans z
    cases z'
    subst hb
    exact⟨ha,by rw[yc];exact hl,vs,_,rv,ha⟩
   ·have z':=(if_neg hb).symm.trans z
    cases z'
  ·by_cases hb:b=a
   ·exact hb
   ·exact absurd (if_neg hb) z
abbrev KOf{K:Fg}{h:Heap}(_:K.In h):Fg:=K
def zE(s:Stmt):Arguments:=match s with
 | .FunctionDef _ a _ _ _ _ _ _ _ _=>a
 | _=>{ posonlyargs:=[],args:=[],vararg:=none,kwonlyargs:=[],kw_defaults:=[],kwarg:=none,defaults:=[] }
def zD(s:Stmt):List Stmt:=match s with
 | .FunctionDef _ _ b _ _ _ _ _ _ _=>b
 | _=>[]
def zi(s:Stmt):Scope:=match s with
 | .FunctionDef _ _ _ _ _ _ sc _ _ _=>sc
 | _=>{ kind:=.function,names:=[],isGenerator:=false,isCoroutine:=false }
abbrev CX0:CXT:=fun _ _ _ _ _ _=>False
abbrev E0:XK:=fun _ _ _=>False
set_option genInjectivity false in
set_option genSizeOf false in
structure Fun(K:Fg)(x qual:Str)(st:Stmt)(f:Addr)(fd:FuncData):Prop where
 ex:∃(oc:Value) (od:Option Addr) (kV doc pm:Value) (an:Option Addr) (cdv ct:Value) (osl:Array (Option Value)),
  fd=PySem.W.fnOf x qual (zE st) (zD st) (zi st) .none kV doc pm an cdv ct/\K.lookup f=some ⟨oc,od,.func fd,osl⟩/\PySem.W.codeIn K cdv qual=true
 kp:PySem.W.keepIn K (.ref f)=true
section
variable {P:Program}{w:World}{K:Fg}{mg:Str->Option Value}{base:Heap}
theorem Fun.binds{x qual:Str}{st:Stmt}{f:Addr}{fd:FuncData}{ps:List Str}(F:Fun K x qual st f fd)
  (h:∀(kV doc pm:Value) (an:Option Addr) (cdv ct:Value) (us:List Value),us.length=ps.length->bindArgs (PySem.W.fnOf x qual (zE st) (zD st) (zi st) .none kV doc pm an cdv ct) ⟨us,[]⟩=pure (ps.zip us)):Binds K fd ps []:=by
 obtain⟨oc,od,kV,doc,pm,an,cdv,ct,osl,rfl,lk,hcd⟩:=F.ex
 exact .all (h kV doc pm an cdv ct)
theorem zo{x qual:Str}{st:Stmt}{f:Addr}{oc:Value}{od an:Option Addr}{osl:Array (Option Value)}{kV doc pm cdv ct:Value}(l:K.lookup f=some ⟨oc,od,.func (PySem.W.fnOf x qual (zE st) (zD st) (zi st) .none kV doc pm an cdv ct),osl⟩)
  (c:PySem.W.codeIn K cdv qual=true) (k:PySem.W.keepIn K (.ref f)=true):Fun K x qual st f (PySem.W.fnOf x qual (zE st) (zD st) (zi st) .none kV doc pm an cdv ct):=⟨⟨oc,od,kV,doc,pm,an,cdv,ct,osl,rfl,l,c⟩,k⟩
end
section
variable {X:Cx}
theorem pv(i:Nat){x:Str}{pos:Pos}(hN:autoParam (X.N[i]?=some x) Internal.aut2._auto_1)(hv:Vis X.env.scope x:=by first | exact Or.inl rfl | exact Or.inr (Or.inl rfl) | exact Or.inr (Or.inr rfl))(hd:autoParam ((x == ("__debug__" : Str))=false) Internal.aut1._auto_1)
  (hcd:autoParam ((x == ("__classdict__" : Str))=false) Internal.aut1._auto_1):PE X (.Name x pos) (zkx i):=zpv hN hv hd hcd
end
def Same(H H':Hp):Prop:=∀b o,H b=some o->H' b=some o
theorem Same.refl(H:Hp):Same H H:=fun _ _ h=>h
theorem Same.trans{H H1 H2:Hp}(a:Same H H1)(b:Same H1 H2):Same H H2:=fun c o h=>b c o (a c o h)
theorem Same.seq{K:Fg}{H H':Hp}{a:Addr}{xs:List V}(e:Same H H')(h:SqL K H a xs):SqL K H' a xs:=by
 rcases h with(h | ⟨o,h⟩) | h
 ·exact .inl (.inl (e _ _ h))
 ·exact .inl (.inr ⟨o,e _ _ h⟩)
 ·exact .inr h
namespace BT
theorem abs:bootBuiltins "abs" = some (.builtin "abs"):=by decide +kernel
theorem len:bootBuiltins "len" = some (.builtin "len"):=by decide +kernel
theorem min:bootBuiltins "min" = some (.builtin "min"):=by decide +kernel
theorem sum:bootBuiltins "sum" = some (.builtin "sum"):=by decide +kernel
theorem isinstance:bootBuiltins "isinstance" = some (.builtin "isinstance"):=by decide +kernel
theorem int:bootBuiltins "int" = some (.type "int"):=by decide +kernel
theorem bool:bootBuiltins "bool" = some (.type "bool"):=by decide +kernel
theorem list:bootBuiltins "list" = some (.type "list"):=by decide +kernel
theorem tuple:bootBuiltins "tuple" = some (.type "tuple"):=by decide +kernel
end BT
def sz(i:Int):Nat:=Builtin.Int.intBits i
theorem sz_le{i:Int}{n:Nat}:sz i<=n↔i.natAbs<2 ^ n:=by
 unfold sz Builtin.Int.intBits
 by_cases h:i=0
 ·subst h;simp;exact ya5 n
 ·have h':(i == 0)=false:=by simp[h]
  rw[h',if_neg (by decide)]
  have hn:i.natAbs≠0:=by omega
  rw[<- Nat.log2_lt hn];omega
theorem zqX(i:Int):i.natAbs<2 ^ sz i:=sz_le.mp (ye _)
theorem zgP{i j:Int}(h:i.natAbs<=j.natAbs):sz i<=sz j:=sz_le.mpr (yak h (zqX j))
theorem ze1(i:Int):sz (-i)<=sz i:=zgP (by omega)
theorem zjb{i j:Int}{n:Nat}(h1:sz i<=n)(h2:sz j<=n):sz (i+j)<=n+1:=by
 rw[sz_le]at *;rw[ybA];omega
theorem zdT{i j:Int}{n m:Nat}(h1:sz i<=n)(h2:sz j<=m):sz (i*j)<=n+m:=by
 rw[sz_le]at *
 rw[ybm,ya2]
 exact Nat.mul_lt_mul'' h1 h2
theorem zg2(i j:Int):(i/j).natAbs<=i.natAbs:=Int.natAbs_ediv_le_natAbs i j
theorem zb4(i j:Int):sz (i/j)<=sz i:=zgP (zg2 i j)
theorem zbJ{i:Int}{n:Nat}(h:i.natAbs<2 ^ n):sz i<=n:=sz_le.mpr h
theorem sz200{i:Int}(h1:-1606938044258990275541962092341162602522202993782792835301376<i)(h2:i<1606938044258990275541962092341162602522202993782792835301376):sz i<=200:=zbJ (by
 have:(2:Nat) ^ 200=1606938044258990275541962092341162602522202993782792835301376:=by decide
 omega)
section
variable {X:Cx}
def CMulS(i j:Int):Prop:=sz i+sz j<=134217728
theorem CMulS.ok{i j:Int}(h:CMulS i j):IntMulOk i j:=by
 unfold IntMulOk
 have e:Builtin.Int.intTooBig (((Builtin.Int.intBits i:Nat):Int)+((Builtin.Int.intBits j:Nat):Int))=false:=by
  unfold Builtin.Int.intTooBig
  have hb:bitsLine=134217728:=by decide
  rw[decide_eq_false]
  rw[hb]
  unfold CMulS sz at h
  omega
 rw[e];simp
theorem CMulS.of{i j:Int}{n m:Nat}(h1:sz i<=n)(h2:sz j<=m)(h:n+m<=134217728):CMulS i j:=by unfold CMulS;omega
theorem op_mulS:OpR X (binaryOp .Mult) (rI CMulS fun i j=>.int (i*j)):=opI fun _ _ _ _ _ _ _ hc q=>mul_int q hc.ok
def zd2:R2:=fun x y H Q=>rI CMulS (fun i j=>.int (i*j)) x y H Q\/zpQ x y H Q
theorem z9:OpR X (binaryOp .Mult) zd2:=op_mulS.or zpA
def zak(K:Fg):R2:=fun x y H Q=>rI0 (fun i j=>.int (i+j)) x y H Q\/zpI x y H Q\/zn4 K x y H Q
theorem zT:OpR X (binaryOp .Add) (zak X.K):=op_add.or (op_cat.or zo1)
def zqG(i j:Int):Prop:=j≠0/\(sz j<=9000\/sz i<=sz j+4500)
def zid:R2:=rI zqG fun i j=>.int (i.fdiv j)
theorem zmp{j:Int}(h:j≠0):sz j=j.natAbs.log2+1:=by
 have h0:j.natAbs≠0:=by omega
 have h1:sz j<=j.natAbs.log2+1:=sz_le.mpr (Nat.lt_log2_self)
 have h2:¬sz j<=j.natAbs.log2:=fun z=>by
  have:=sz_le.mp z
  have:=Nat.log2_self_le h0
  omega
 omega
theorem zhX{i j:Int}(hj:j≠0)(h:sz i<=sz j+4500):Builtin.divisionGoesByPylong i j=false:=by
 have hy:(j == 0)=false:=by simpa using hj
 have key:(if i == 0 then 0 else i.natAbs.log2/30+1)<=(if j == 0 then 0 else j.natAbs.log2/30+1)+150:=by
  rw[hy]
  by_cases hi:i=0
  ·have:(i == 0)=true:=by simpa using hi
   rw[this]
   exact yD _
  ·have hx:(i == 0)=false:=by simpa using hi
   rw[hx]
   rw[zmp hi,zmp hj]at h
   show i.natAbs.log2/30+1<=j.natAbs.log2/30+1+150
   omega
 show(decide (_>300)&&decide ((if i == 0 then 0 else i.natAbs.log2/30+1)>(if j == 0 then 0 else j.natAbs.log2/30+1)+150))=false
 rw[decide_eq_false (Nat.not_lt.mpr key),Bool.and_false]
theorem zaO:OpR X (binaryOp .FloorDiv) zid:=opI fun i j _ _ _ _ _ hc q=>floordiv_int hc.1 q (.inl (hc.2.elim (fun h=>PyProof.noPylong_of_log2 (by
 have h1:=sz_le.mp h
 by_cases h0:j.natAbs=0
 ·rw[h0];decide
 ·exact(Nat.log2_lt h0).mpr h1)) (zhX hc.1)))
def zkE:R2:=rI (fun _ j=>j≠0) fun i j=>.int (i.fmod j)
theorem zcr:OpR X (binaryOp .Mod) zkE:=zoG
mutual
inductive RepD(K:Fg)(H:Hp):V->PyData->Prop
 | non:RepD K H .non .none
 | bl (b:Bool):RepD K H (.bl b) (.bool b)
 | int (i:Int):RepD K H (.int i) (.int i)
 | str (x:Str) (ok:PyData.canLay0 (.str x)=true):RepD K H (.str x) (.str x)
 | lst {a:Addr} {vs:List V} {ds:List PyData}:SqL K H a vs->RepAll K H vs ds->RepD K H (.ref a) (.list ds)
 | tup {a:Addr} {vs:List V} {ds:List PyData}:SqT K H a vs->RepAll K H vs ds->RepD K H (.ref a) (.tuple ds)
inductive RepAll(K:Fg)(H:Hp):List V->List PyData->Prop
 | nil:RepAll K H [] []
 | cons {v:V} {d:PyData} {vs:List V} {ds:List PyData}:RepD K H v d->RepAll K H vs ds->RepAll K H (v :: vs) (d :: ds)
end
mutual
theorem RepD.reads{pins:List (Addr × Obj)}{σ:St}{H:Hp}{s:Shared}(I:Inv X pins σ H s):∀{v:V} {d:PyData} {u:Value},RepD X.K H v d->RelV v u->∃as,Reads s.heap u d as
 | _,_,_,.non,r=>by cases(show _=Value.none from r);exact⟨_,.none⟩
 | _,_,_,.bl b,r=>by cases(show _=Value.bool b from r);exact⟨_,.bool b⟩
 | _,_,_,.int i,r=>by obtain⟨t,rfl⟩:=(show ∃t,_=Value.int i t from r);exact⟨_,.int i t⟩
 | _,_,_,.str x _,r=>by obtain⟨t,rfl⟩:=(show ∃t,_=Value.str x t from r);exact⟨_,.str x t⟩
 | _,_,_,.lst h k,r=>by
  cases(show _=Value.ref _ from r)
  obtain⟨its,rv,⟨o,n,h1,h2,_,h3⟩,_⟩:=I.list h
  obtain⟨as,q⟩:=RepAll.reads I k rv
  exact⟨_,.list h1 h2 h3 (by simpa using q)⟩
 | _,_,_,.tup h k,r=>by
  cases(show _=Value.ref _ from r)
  obtain⟨its,rv,⟨o,h1,h2,n,h3⟩,_⟩:=I.tuple h
  obtain⟨as,q⟩:=RepAll.reads I k rv
  exact⟨_,.tuple h1 h2 h3 (by simpa using q)⟩
theorem RepAll.reads{pins:List (Addr × Obj)}{σ:St}{H:Hp}{s:Shared}(I:Inv X pins σ H s):∀{vs:List V} {ds:List PyData} {us:List Value},RepAll X.K H vs ds->Vals vs us->∃as,ReadsAll s.heap us ds as
 | _,_,_,.nil,.nil=>⟨_,.nil⟩
 | _,_,_,.cons h k,.cons r t=>by
  obtain⟨as,q⟩:=RepD.reads I h r
  obtain⟨bs,p⟩:=RepAll.reads I k t
  exact⟨_,.cons q p⟩
end
mutual
theorem RepD.lay{K:Fg}{H:Hp}:∀{v:V} {d:PyData},RepD K H v d->d.canLay0=true
 | _,_,.non=>rfl
 | _,_,.bl _=>rfl
 | _,_,.int _=>rfl
 | _,_,.str _ ok=>ok
 | _,_,.lst _ k=>by rw[PyData.canLay0];exact RepAll.lay k
 | _,_,.tup _ k=>by rw[PyData.canLay0];exact RepAll.lay k
theorem RepAll.lay{K:Fg}{H:Hp}:∀{vs:List V} {ds:List PyData},RepAll K H vs ds->PyData.canLayAll0 ds=true
 | _,_,.nil=>rfl
 | _,_,.cons h k=>by rw[PyData.canLayAll0,RepD.lay h,RepAll.lay k];rfl
end
theorem Same.seqT{K:Fg}{H H':Hp}{a:Addr}{xs:List V}(e:Same H H')(h:SqT K H a xs):SqT K H' a xs:=by
 rcases h with(h | ⟨o,h⟩) | h
 ·exact .inl (.inl (e _ _ h))
 ·exact .inl (.inr ⟨o,e _ _ h⟩)
 ·exact .inr h
mutual
theorem Same.rep{K:Fg}{H H':Hp}(e:Same H H'):∀{v:V} {d:PyData},RepD K H v d->RepD K H' v d
 | _,_,.non=>.non
 | _,_,.bl b=>.bl b
 | _,_,.int i=>.int i
 | _,_,.str x ok=>.str x ok
 | _,_,.lst h k=>.lst (e.seq h) (e.repAll k)
 | _,_,.tup h k=>.tup (e.seqT h) (e.repAll k)
theorem Same.repAll{K:Fg}{H H':Hp}(e:Same H H'):∀{vs:List V} {ds:List PyData},RepAll K H vs ds->RepAll K H' vs ds
 | _,_,.nil=>.nil
 | _,_,.cons h k=>.cons (e.rep h) (e.repAll k)
end
def zaE(K:Fg):R2:=fun x y H Q=>(∃d e,RepD K H x d/\RepD K H y e/\min d.depth e.depth<=60/\Q (.bl (PyData.eqv d e)) H)\/rEq x y H Q
def zbM(K:Fg):R2:=fun x y H Q=>(∃d e,RepD K H x d/\RepD K H y e/\min d.depth e.depth<=60/\Q (.bl (!PyData.eqv d e)) H)\/rNe x y H Q
theorem zar(hu:X.A.units+64<cLine):OpR X (compareOp .Eq) (zaE X.K):=by
 refine OpR.or ?_ zqI
 intro pins s σ H x y v u Q I rx ry h
 obtain⟨d,e,h1,h2,hd,q⟩:=h
 obtain⟨as,r1⟩:=h1.reads I rx
 obtain⟨bs,r2⟩:=h2.reads I ry
 exact PySem.SeqAt.compareEq_reads r1 r2 h1.lay h2.lay (by omega) ⟨.bl _,H,I,rfl,q⟩
theorem zb5(hu:X.A.units+64<cLine):OpR X (compareOp .NotEq) (zbM X.K):=by
 refine OpR.or ?_ zqM
 intro pins s σ H x y v u Q I rx ry h
 obtain⟨d,e,h1,h2,hd,q⟩:=h
 obtain⟨as,r1⟩:=h1.reads I rx
 obtain⟨bs,r2⟩:=h2.reads I ry
 exact PySem.SeqAt.compareNe_reads r1 r2 h1.lay h2.lay (by omega) ⟨.bl _,H,I,rfl,q⟩
def zeA(K:Fg):List V->Hp->VK->Prop:=fun xs H Q=>∃x c t b cv,xs=[x,c]/\RelV c cv/\TyOf K H x t/\PySem.W.kitOne K t cv=some b/\Q (.bl b) H
theorem zjQ:CallR X (.builtin "isinstance") (zeA X.K):=by
 intro pins s σ H xs us Q I r h
 obtain⟨x,c,t,b,cv,rfl,rc,ty,e,q⟩:=h
 obtain⟨u,w',rfl,r1,r2⟩:=vals2 r
 have ec:w'=cv:=by
  cases c with
  | ty n=>exact(show w'=_ from r2).trans (show cv=_ from rc).symm
  | ref a=>exact(show w'=_ from r2).trans (show cv=_ from rc).symm
  | non=>exact(show w'=_ from r2).trans (show cv=_ from rc).symm
  | bl b=>exact(show w'=_ from r2).trans (show cv=_ from rc).symm
  | _=>obtain⟨_,rfl⟩:=rc;simp[PySem.W.kitOne,PySem.W.kitCls]at e;cases ty<;>simp at e
 subst ec
 exact zmg I r1 ty e fun tk=>⟨.bl b,H,I.tok tk,rfl,q⟩
def zkz(K:Fg)(ta:TE):TE:=fun σ H Q=>ta σ H fun x H1=>∃k,zgS K x H1 k/\Q (.bl (!k)) H1
theorem zoA{a:Expr}{ta:TE}{pos:Pos}(ha:PE X a ta):PE X (.UnaryOp .Not a pos) (zkz X.K ta):=by
 intro pins s σ H Q I h
 refine UnaryOp_ (thn (ha pins s σ H _ I h) fun v s1 zz=>?_)
 obtain⟨x,H1,I1,r1,k,hk,q1⟩:=zz
 exact not_of (thn (zme pins s1 σ H1 x v (fun c H2=>Q (.bl (!c)) H2) I1 r1 ⟨k,hk,q1⟩) fun c s2 ⟨H2,I2,q2⟩=>⟨.bl (!c),H2,I2,rfl,q2⟩)
end
def zp8:List V->Hp->VK->Prop:=fun xs H Q=>∃i,xs=[.int i]/\Q (.int (if i<0 then -i else i)) H
def za7(K:Fg):List V->Hp->VK->Prop:=fun xs H Q=>∃p ys,xs=[.ref p]/\(SqL K H p ys\/SqT K H p ys)/\Q (.int ys.length) H
def zb7(K:Fg):List V->Hp->VK->Prop:=fun xs H Q=>∃p ys,xs=[.ref p]/\(SqL K H p ys\/SqT K H p ys)/\∀l,H l=none->Q (.ref l) (upd H l (.lst ys))
section
variable {X:Cx}
theorem zfj:CallR X (.builtin "abs") zp8:=znB
theorem zZ:CallR X (.builtin "len") (za7 X.K):=ziS
theorem zcu:CallR X (.type "list") (zb7 X.K):=ziW
abbrev zb0(K:Fg)(ta:TE):TT:=fun σ H Q=>ta σ H fun x H'=>∃k,zgS K x H' k/\Q k H'
theorem zac{a:Expr}{ta:TE}(ha:PE X a ta)(he:∀whole,isTrue a X.env whole=(do let v <- whole;standAt a.pos;holding [v] (truthy v))):PT X a (zb0 X.K ta):=znT ha he
end
def zmO(t u:TS):TS:=fun D σ H=>∃M:St->Hp->Prop,t { D with nx:=M } σ H/\∀σ' H',M σ' H'->u D σ' H'
theorem zfo{X:Cx}{st:Stmt}{rest:List Stmt}{t u:TS}(h1:PS X st t)(h2:PSs X rest u):PSs X (st :: rest) (zmO t u):=by
 intro pins s σ H D I h
 obtain⟨M,ht,hM⟩:=h
 refine wpAny_execs_cons (thn (h1 pins s σ H _ I ht) fun f s1 q=>?_)
 cases f with
 | next=>
  obtain⟨σ',H',I',q'⟩:=q
  exact h2 pins s1 σ' H' D I' (hM σ' H' q')
 | brk=>exact q
 | cont=>exact q
 | ret u=>exact q
def NoX(CX:CXT):Prop:=∀(outer:List Env) (H:Hp) (s:Shared) (e:Value) (s':Shared),CX outer H s E0 e s'->False
theorem zy{CX:CXT}{X:Cx}(h:NoX CX):zi4 CX X E0:=fun _ _ H s e s' _ q=>(h _ H s e s' q).elim
theorem Fun.okN{P:Program}{w:World}{K:Fg}{mg:Str->Option Value}{base:Heap}{CX:CXT}{x qual:Str}{st:Stmt}{f:Addr}{fd:FuncData}{N ps:List Str}{k:Nat}{sp:Sp}(F:Fun K x qual st f fd)(S:FnScope N ps (zi st))(len:∀vs H Q E,sp vs H Q E->vs.length=ps.length)
  (hbody:∀(cdv:Value) (A:Around) (outer:List Env) (s:Shared) (H:Hp) (vs:List V) (Q:VK) (E:XK),Room k (A.deeper (envOfC qual (zi st) s.heap.objs.size f cdv))->sp vs H Q E ->
   ∃t,PSs (zgU CX P w K mg base N qual (zi st) f cdv A outer s H E).nox (zD st) t/\t { nx:=fun _ H'=>Q .non H',rt:=Q } (start N vs) H):FnOk P w K mg base CX (k+1) f fd ps sp:=by
 obtain⟨oc,od,kV,doc,pm,an,cdv,ct,osl,rfl,lk,hcd⟩:=F.ex
 refine zqP lk hcd S len fun A outer s H vs Q E hr hsp=>?_
 obtain⟨t,h,q⟩:=hbody cdv A outer s H vs Q E hr hsp
 exact⟨t,h.nox,q⟩
section
variable {σ:St}{H:Hp}{Q:VK}{D:Ends}{ta tb tc te:TE}{t u:TS}{K:Fg}
theorem zq4{i:Nat}{v:V}(e:σ[i]?=some (some v))(q:Q v H):zkx i σ H Q:=⟨v,e,q⟩
theorem x_c{v:V}(q:Q v H):tC v σ H Q:=q
theorem zrn{g:Int->Int->V}{i j:Int}(q:Q (g i j) H):rI0 g (.int i) (.int j) H Q:=⟨i,j,rfl,rfl,q⟩
theorem zq7{i j:Int}(q:Q (.int (i+j)) H):zak K (.int i) (.int j) H Q:=.inl ⟨i,j,rfl,rfl,q⟩
theorem zk5{i j:Int}(c:CMulS i j)(q:Q (.int (i*j)) H):zd2 (.int i) (.int j) H Q:=.inl ⟨i,j,rfl,rfl,c,q⟩
theorem zq9{i j:Int}(h0:0<j)(hs:sz j<=9000)(q:Q (.int (i/j)) H):zid (.int i) (.int j) H Q:=
 ⟨i,j,rfl,rfl,⟨by omega,.inl hs⟩,by show Q (.int (i.fdiv j)) H;rw[Int.fdiv_eq_ediv_of_nonneg _ (yay h0)];exact q⟩
theorem zi1{i j:Int}(h0:j≠0)(hs:sz j<=9000)(q:Q (.int (i.fdiv j)) H):zid (.int i) (.int j) H Q:=⟨i,j,rfl,rfl,⟨h0,.inl hs⟩,q⟩
theorem zqO{i j:Int}(h0:0<j)(q:Q (.int (i%j)) H):zkE (.int i) (.int j) H Q:=
 ⟨i,j,rfl,rfl,by omega,by show Q (.int (i.fmod j)) H;rw[Int.fmod_eq_emod_of_nonneg _ (yay h0)];exact q⟩
theorem zqW{i j k:Int}(c:zk8 i j)(e:i ^ j.toNat=k)(q:Q (.int k) H):rI zk8 (fun i j=>.int (i ^ j.toNat)) (.int i) (.int j) H Q:=⟨i,j,rfl,rfl,c,by show Q (.int (i ^ j.toNat)) H;rw[e];exact q⟩
theorem zq0{i:Int}(q:Q (.int (-i)) H):rU (fun i=>.int (-i)) (.int i) H Q:=⟨i,rfl,q⟩
theorem dI{i j:Int}:decide (V.int i=V.int j)=decide (i=j):=by simp
theorem zoa{i j:Int}(q:Q (.bl (decide (i=j))) H):zaE K (.int i) (.int j) H Q:=.inr ⟨rfl,by rw[dI];exact q⟩
theorem zqH{i j:Int}(q:Q (.bl (!decide (i=j))) H):zbM K (.int i) (.int j) H Q:=.inr ⟨rfl,by rw[dI];exact q⟩
theorem zku{x y:V}{d e:PyData}(h1:RepD K H x d)(h2:RepD K H y e)(hd:min d.depth e.depth<=60)(q:Q (.bl (PyData.eqv d e)) H):zaE K x y H Q:=.inl ⟨d,e,h1,h2,hd,q⟩
theorem zh9{x y:V}{d e:PyData}(h1:RepD K H x d)(h2:RepD K H y e)(hd:min d.depth e.depth<=60)(q:Q (.bl (!PyData.eqv d e)) H):zbM K x y H Q:=.inl ⟨d,e,h1,h2,hd,q⟩
theorem zlc{a:Addr}{xs:List V}{i:Int}{v:V}(h:SqL K H a xs)(e:atI xs i=some v)(q:Q v H):rIx K (.ref a) (.int i) H Q:=.inl ⟨a,xs,i,v,rfl,rfl,h,e,q⟩
theorem zqV{a:Addr}{xs:List V}{i:Int}{v:V}(h:SqT K H a xs)(e:atI xs i=some v)(q:Q v H):rIx K (.ref a) (.int i) H Q:=.inr (.inl ⟨a,xs,i,v,rfl,rfl,h,e,q⟩)
theorem zru{T:Bool->Prop}{b:Bool}(q:T b):∃k,V.bl b=.bl k/\T k:=⟨b,rfl,q⟩
theorem zqb{T:Bool->Prop}{b:Bool}(q:T b):∃k,zgS K (.bl b) H k/\T k:=⟨b,rfl,q⟩
theorem zpD(q:ta σ H fun x H1=>∃c,x=.bl c/\if c=true then tb σ H1 Q else Q (.bl false) H1):zof ta tb σ H Q:=q
theorem zpx(q:ta σ H fun x H1=>∃k,zgS K x H1 k/\Q (.bl (!k)) H1):zkz K ta σ H Q:=q
theorem zpp{r r':R2}(q:ta σ H fun x H1=>tb σ H1 fun y H2=>r x y H2 fun z H3=>∃k,z=.bl k/\(if k=true then tc σ H3 fun w' H4=>r' y w' H4 Q else Q (.bl false) H3)):zlL r r' ta tb tc σ H Q:=q
theorem zqJ{p:Prop}[Decidable p]{A B:Prop}(h1:p->A)(h2:¬p->B):if decide p=true then A else B:=by
 by_cases h:p
 ·rw[if_pos (decide_eq_true h)];exact h1 h
 ·rw[if_neg (by rw[decide_eq_false h];exact yo)];exact h2 h
theorem zqy{p:Prop}[Decidable p]{A B:Prop}(h1:¬p->A)(h2:p->B):if(!decide p)=true then A else B:=by
 by_cases h:p
 ·rw[if_neg (by rw[decide_eq_true h];exact yo)];exact h2 h
 ·rw[if_pos (by rw[decide_eq_false h];rfl)];exact h1 h
theorem zgn{A B:Prop}(h:A):if true=true then A else B:=by rw[if_pos rfl];exact h
theorem zik{A B:Prop}(h:B):if false=true then A else B:=by rw[if_neg yo];exact h
theorem zpj{A B:Prop}(h:B):if(!true)=true then A else B:=zik h
theorem zoF{A B:Prop}(h:A):if(!false)=true then A else B:=zgn h
theorem zqF(M:St->Hp->Prop)(q:t { D with nx:=M } σ H)(r:∀σ' H',M σ' H'->u D σ' H'):zmO t u D σ H:=⟨M,q,r⟩
theorem zdl{R:List V->Hp->Prop}(q:R [] H):ziz σ H R:=q
theorem zqi{sp:Sp}{E:XK}{tr:TA}(q:tr σ H fun vs H1=>sp vs H1 Q E):zkt sp [] E tr σ H Q:=by unfold zkt;simp only[yan];exact q
def zfd(Q:VK)(xs:List V)(H:Hp):Prop:=xs.length<=sizeLine/\∀p,H p=none->Q (.ref p) (upd H p (.tup xs))
def znQ(Q:VK)(xs:List V)(H:Hp):Prop:=xs.length<=sizeLine/\∀p,H p=none->Q (.ref p) (upd H p (.lst xs))
theorem zqL{tr:TA}(q:tr σ H (zfd Q)):zqs tr σ H Q:=q
theorem zq5{tr:TA}(q:tr σ H (znQ Q)):zpw tr σ H Q:=q
theorem zqZ{i:Int}(q:Q (.int (if i<0 then -i else i)) H):zp8 [.int i] H Q:=⟨i,rfl,q⟩
theorem zqk{a:Addr}{xs:List V}(h:SqL K H a xs)(q:Q (.int xs.length) H):za7 K [.ref a] H Q:=⟨a,xs,rfl,.inl h,q⟩
theorem zpR{a:Addr}{xs:List V}(h:SqT K H a xs)(q:Q (.int xs.length) H):za7 K [.ref a] H Q:=⟨a,xs,rfl,.inr h,q⟩
theorem zI{N:List Str}{vs:List V}{σ0:St}(e:start N vs=σ0)(q:t D σ0 H):t D (start N vs) H:=by rw[e];exact q
theorem zib{x c:V}{t' cv:Value}{b:Bool}(rc:RelV c cv)(ty:TyOf K H x t')(e:PySem.W.kitOne K t' cv=some b)(q:Q (.bl b) H):zeA K [x,c] H Q:=⟨x,c,t',b,cv,rfl,rc,ty,e,q⟩
end
theorem Same.new{H:Hp}{p:Addr}(h:H p=none)(o:HO):Same H (upd H p o):=fun b u q=>by rw[zag (zao q h)];exact q
open PySem PySem.Spec PyProof.Rows
theorem zgJ{env:Env}{scope:Scope}(h:∀y∈scope.names,y.2=.free->∃c,env.cells.lookup y.1=some c) :
  ∃cl,closureFor scope env=pure cl/\(∀x c,cl.lookup x=some c->env.cells.lookup x=some c)/\∀y∈scope.names,y.2=.free->cl.lookup y.1=env.cells.lookup y.1:=by
 unfold closureFor
 have key:∀(names:List (Str × NameKind)) (acc:List (Str × Addr)),(∀y∈names,y.2=.free->∃c,env.cells.lookup y.1=some c)->(∀x c,acc.lookup x=some c->env.cells.lookup x=some c) ->
   ∃cl,(forIn (m:=Sem) names acc fun(x:Str × NameKind) r=>if(x.2 == .free)=true then(do let a <- cellOf env x.1;pure (ForInStep.yield ((x.1,a) :: r)))else pure (ForInStep.yield r))=pure cl /\
    (∀x c,cl.lookup x=some c->env.cells.lookup x=some c)/\(∀y∈names,y.2=.free->cl.lookup y.1=env.cells.lookup y.1)/\(∀x,(∃c,acc.lookup x=some c)->cl.lookup x=env.cells.lookup x):=by
  intro names
  induction names with
  | nil=>intro acc _ ha;exact⟨acc,rfl,ha,fun _ hy=>(nomatch hy),fun x ⟨c,e⟩=>by rw[e,ha x c e]⟩
  | cons y r ih=>
   intro acc hn ha
   obtain⟨n,k⟩:=y
   have hr:∀y∈r,y.2=.free->∃c,env.cells.lookup y.1=some c:=fun y hy=>hn y (yR _ hy)
   by_cases hk:k=.free
   ·subst hk
    obtain⟨c,hc⟩:=hn (n,.free) yad rfl
    have ha':∀x c',List.lookup x ((n,c) :: acc)=some c'->env.cells.lookup x=some c':=fun x c' e=>by
     rw[yB]at e
     cases hb:x == n with
     | true=>rw[hb]at e;cases e;rw[beq_iff_eq.mp hb];exact hc
     | false=>rw[hb]at e;exact ha x c' e
    obtain⟨cl,e,h1,h2,h3⟩:=ih ((n,c) :: acc) hr ha'
    refine⟨cl,?_,h1,fun y hy hf=>?_,fun x hx=>?_⟩
    ·rw[List.forIn_cons]
     simp only[cellOf,hc,beq_self_eq_true,if_true]
     exact e
    ·rcases yz.mp hy with rfl | hy
     ·exact h3 n ⟨c,by rw[yB];simp⟩
     ·exact h2 y hy hf
    ·refine h3 x ?_
     obtain⟨c',e'⟩:=hx
     rw[yB]
     cases hb:x == n with
     | true=>exact⟨c,rfl⟩
     | false=>exact⟨c',e'⟩
   ·obtain⟨cl,e,h1,h2,h3⟩:=ih acc hr ha
    refine⟨cl,?_,h1,fun y hy hf=>?_,h3⟩
    ·rw[List.forIn_cons]
     have hb:(k == NameKind.free)=false:=by simpa using hk
     simp only[hb,ybq,if_false]
     exact e
    ·rcases yz.mp hy with rfl | hy
     ·exact absurd hf hk
     ·exact h2 y hy hf
 obtain⟨cl,e,h1,h2,_⟩:=key scope.names [] h (fun _ _ z=>by simp at z)
 refine⟨cl,?_,h1,h2⟩
 show(forIn scope.names [] _ >>= fun r=>pure r)=pure cl
 have e':(forIn (m:=Sem) scope.names [] fun(x:Str × NameKind) (r:List (Str × Addr))=>match x with | (name,kind)=>if(kind == .free)=true then(do let a <- cellOf env name;pure (ForInStep.yield ((name,a) :: r)))else pure (ForInStep.yield r))=pure cl:=e
 first
  | (rw[e'];rfl)
  | (simp only[e'];rfl)
theorem zcD:∀(names:List (Str × NameKind)) (n:Nat) (acc:List (Str × Addr)),cellsFrom n names acc=cellsFrom n names []++acc
 | [],_,_=>rfl
 | (name,kind) :: r,n,acc=>by
  unfold cellsFrom
  split
  ·rw[zcD r (n+1) ((name,n) :: acc),zcD r (n+1) [(name,n)],List.append_assoc];rfl
  ·exact zcD r n acc
theorem zcW{α:Type}{x:Str}:∀{l r:List (Str × α)},(l++r).lookup x=match l.lookup x with | some c=>some c | none=>r.lookup x
 | [],_=>rfl
 | (k,v) :: l,r=>by
  rw[List.cons_append,yB,yB]
  cases x == k with
  | true=>rfl
  | false=>exact zcW (l:=l)
def zoI(scope:Scope)(cs:List (Str × Addr))(C:Addr)(env:Env):Env:=
 { scope:=relabel scope env,locals:=C,globals:=env.globals,cells:=cs,qual:=env.qual,func:=none,code:=env.code,frame:=env.frame,builtins:=env.builtins }
theorem zhO{M:Model}{A:Around}{E:Value->Shared->Prop}{s:Shared}{scope:Scope}{globals:Addr}{cl:List (Str × Addr)}{qual:Str}{env:Env}{Q:Env->Shared->Prop}
  (hQ:∀(own:List (Str × Addr)) (s':Shared),own=cellsFrom (s.heap.objs.size+1) scope.names []->s'={ s with heap:=s'.heap }->(∀b o,s.heap.get? b=some o->s'.heap.get? b=some o) ->
   s'.heap.Ns s.heap.objs.size (fun _=>none)->(∀n c,(n,c)∈own->s'.heap.IsCell c none/\s.heap.objs.size+1<=c)->(own.Pairwise fun x y=>x.2≠y.2) ->
   Q { scope:=scope,locals:=s.heap.objs.size,globals:=globals,cells:=own++cl,qual:=qual,func:=none,code:=env.code,frame:=env.frame,builtins:=env.builtins } s') :
  wpAny M A (newFunctionEnv scope globals cl [] qual none .none (some env)) Q E s:=by
 simp only[newFunctionEnv,Option.isSome_some,if_true]
 refine wpAny_bind (wpAny_alloc ?_)
 refine wpAny_bind (wpAny_layCells _ (fun name kind cells=>by cases hkc:kind == NameKind.cell<;>simp[hkc]) _ _ _ _ ?_)
 have ok:=cellsFrom_ok scope.names (s.heap.push { cls:=.type "dict",data:=.dict #[] }) (s.heap.objs.size+1) [] ⟨fun _ _ hm=>(nomatch hm),List.Pairwise.nil⟩ (by rw[Heap.size_push];exact ye _)
 rw[Heap.size_push]at ok
 rw[show({ s with heap:=s.heap.push { cls:=.type "dict",data:=.dict #[] } }:Shared).heap.objs.size=s.heap.objs.size+1 from Heap.size_push ..]
 rw[zcD]
 have fin:=hQ _ { s with heap:=pushCells (s.heap.push { cls:=.type "dict",data:=.dict #[] }) scope.names } rfl rfl (fun b o e=>pushCells_keeps _ _ b o (Heap.get?_push_of_some _ e))
  ((Heap.Ns.new s.heap (.type "dict")).keeps (pushCells_keeps _ _)) ok.empty ok.apart
 exact wpAny_bind (wpAny_pure (wpAny_pure fin))
theorem zc3{env:Env}:∀{names:List (Str × NameKind)} {x:Str},names.lookup x=some .free ->
  (names.map fun(n,k)=>if(k == NameKind.free&&env.scope.kind == .function&&env.kindOf n == some .cell) then(n,NameKind.cell) else(n,k)).lookup x=some .cell \/
  (names.map fun(n,k)=>if(k == NameKind.free&&env.scope.kind == .function&&env.kindOf n == some .cell) then(n,NameKind.cell) else(n,k)).lookup x=some .free
 | [],_,h=>by simp at h
 | (n,k) :: r,x,h=>by
  have ih:=@zc3 env r x
  show List.lookup x ((if(k == NameKind.free&&env.scope.kind == .function&&env.kindOf n == some .cell)=true then(n,NameKind.cell) else(n,k)) :: _)=_\/List.lookup x ((if(k == NameKind.free&&env.scope.kind == .function&&env.kindOf n == some .cell)=true then(n,NameKind.cell) else(n,k)) :: _)=_
  by_cases hc:(k == NameKind.free&&env.scope.kind == .function&&env.kindOf n == some .cell)=true
  ·rw[if_pos hc]
   cases hx:x == n with
   | true=>left;simp[yB,hx]
   | false=>simp only[yB,hx]at h ⊢;exact ih h
  ·rw[if_neg hc]
   cases hx:x == n with
   | true=>simp only[yB,hx]at h ⊢;exact .inr h
   | false=>simp only[yB,hx]at h ⊢;exact ih h
theorem zc4{env:Env}:∀{names:List (Str × NameKind)} {x:Str},(names.map fun(n,k)=>if(k == NameKind.free&&env.scope.kind == .function&&env.kindOf n == some .cell) then(n,NameKind.cell) else(n,k)).lookup x=some .cell \/
  (names.map fun(n,k)=>if(k == NameKind.free&&env.scope.kind == .function&&env.kindOf n == some .cell) then(n,NameKind.cell) else(n,k)).lookup x=some .free->names.lookup x=some .cell\/names.lookup x=some .free
 | [],_,h=>by simp at h
 | (n,k) :: r,x,h=>by
  have ih:=@zc4 env r x
  have h':List.lookup x ((if(k == NameKind.free&&env.scope.kind == .function&&env.kindOf n == some .cell)=true then(n,NameKind.cell) else(n,k)) :: (r.map fun(n,k)=>if(k == NameKind.free&&env.scope.kind == .function&&env.kindOf n == some .cell) then(n,NameKind.cell) else(n,k)))=some .cell \/
   List.lookup x ((if(k == NameKind.free&&env.scope.kind == .function&&env.kindOf n == some .cell)=true then(n,NameKind.cell) else(n,k)) :: (r.map fun(n,k)=>if(k == NameKind.free&&env.scope.kind == .function&&env.kindOf n == some .cell) then(n,NameKind.cell) else(n,k)))=some .free:=h
  clear h
  by_cases hc:(k == NameKind.free&&env.scope.kind == .function&&env.kindOf n == some .cell)=true
  ·have hk:k=.free:=by
    rw[y3,y3]at hc
    exact beq_iff_eq.mp hc.1.1
   subst hk
   rw[if_pos hc]at h'
   cases hx:x == n with
   | true=>right;simp[yB,hx]
   | false=>simp only[yB,hx]at h' ⊢;exact ih h'
  ·rw[if_neg hc]at h'
   cases hx:x == n with
   | true=>simp only[yB,hx]at h' ⊢;exact h'
   | false=>simp only[yB,hx]at h' ⊢;exact ih h'
theorem zdu{env:Env}:∀{names:List (Str × NameKind)} {x:Str},names.lookup x=some .cell ->
  (names.map fun(n,k)=>if(k == NameKind.free&&env.scope.kind == .function&&env.kindOf n == some .cell) then(n,NameKind.cell) else(n,k)).lookup x=some .cell
 | [],_,h=>by simp at h
 | (n,k) :: r,x,h=>by
  have ih:=@zdu env r x
  show List.lookup x ((if(k == NameKind.free&&env.scope.kind == .function&&env.kindOf n == some .cell)=true then(n,NameKind.cell) else(n,k)) :: _)=_
  by_cases hc:(k == NameKind.free&&env.scope.kind == .function&&env.kindOf n == some .cell)=true
  ·rw[if_pos hc]
   cases hx:x == n with
   | true=>simp[yB,hx]
   | false=>simp only[yB,hx]at h ⊢;exact ih h
  ·rw[if_neg hc]
   cases hx:x == n with
   | true=>simp only[yB,hx]at h ⊢;exact h
   | false=>simp only[yB,hx]at h ⊢;exact ih h
theorem zos{names:List (Str × NameKind)}:∀{n:Nat} {acc:List (Str × Addr)} {x:Str} {c:Addr},(x,c)∈cellsFrom n names acc->(x,.cell)∈names\/(x,c)∈acc:=by
 induction names with
 | nil=>intro n acc x c h;exact .inr h
 | cons y r ih=>
  intro n acc x c h
  obtain⟨nm,k⟩:=y
  unfold cellsFrom at h
  split at h
  ·rename_i hk
   rcases ih h with h | h
   ·exact .inl (yR _ h)
   ·rcases yz.mp h with e | h
    ·cases e
     rw[beq_iff_eq.mp hk];exact .inl yad
    ·exact .inr h
  ·rcases ih h with h | h
   ·exact .inl (yR _ h)
   ·exact .inr h
theorem zfe{names:List (Str × NameKind)}(nd:(names.map (·.1)).Nodup){x:Str}{k:NameKind}(h:(x,k)∈names):names.lookup x=some k:=by
 induction names with
 | nil=>cases h
 | cons y r ih=>
  obtain⟨n,k'⟩:=y
  rw[yaf,yaL]at nd
  rw[yB]
  rcases yz.mp h with e | hm
  ·cases e;simp
  ·have hne:x≠n:=fun e=>nd.1 (yaa.mpr ⟨(x,k),hm,e⟩)
   have hb:(x == n)=false:=by simpa using hne
   rw[hb];exact ih nd.2 hm
def zbl(X:Cx)(scope:Scope)(Ni:List Str)(cs:List (Str × Addr))(s₃:Shared)(H₃:Hp)(fp:List Addr)(pins:List (Addr × Obj)):Cx:=
 { X with N:=Ni,s₀:=s₃,H₀:=H₃,env:=zoI scope cs s₃.heap.objs.size X.env,outer:=X.stack,stack:=X.stack,ex:=fp,fn:=fun y=>decide (scope.names.lookup y=some .cell),pn:=X.pn++pins,xe:=fun _ _=>False }
set_option genInjectivity false in
set_option genSizeOf false in
structure CompScope(X:Cx)(scope:Scope)(Ni:List Str)(caps:List (Option Nat)):Prop where
 kind:scope.kind=.function
 ndn:(scope.names.map (·.1)).Nodup
 free:∀y∈scope.names,y.2=.free->X.env.kindOf y.1=some .cell\/X.env.kindOf y.1=some .free
 nd:Ni.Nodup
 len:caps.length=Ni.length
 cap:∀(i:Nat) (y:Str) (j:Nat),Ni[i]?=some y->caps[i]?=some (some j)->X.N[j]?=some y/\scope.names.lookup y=some .free
def zj7(so:Scope)(No:List Str)(scope:Scope)(Ni:List Str)(caps:List (Option Nat)):Bool:=
 (scope.kind == .function)&&decide ((scope.names.map (·.1)).Nodup)&&(scope.names.all fun y=>y.2 != .free || so.names.lookup y.1 == some .cell || so.names.lookup y.1 == some .free) &&
 decide Ni.Nodup&&(caps.length == Ni.length)&&((Ni.zip caps).all fun p=>match p.2 with | none=>true | some j=>No[j]? == some p.1&&scope.names.lookup p.1 == some .free)
theorem zF{X:Cx}{scope:Scope}{Ni:List Str}{caps:List (Option Nat)}(h:zj7 X.env.scope X.N scope Ni caps=true):CompScope X scope Ni caps:=by
 unfold zj7 at h
 simp only[y3]at h
 obtain⟨⟨⟨⟨⟨h1,h2⟩,h3⟩,h4⟩,h5⟩,h6⟩:=h
 refine⟨beq_iff_eq.mp h1,of_decide_eq_true h2,fun y hy hf=>?_,of_decide_eq_true h4,beq_iff_eq.mp h5,fun i y j e1 e2=>?_⟩
 ·have q:=ybB.mp h3 y hy
  rw[ybI,ybI]at q
  rcases q with(q | q) | q
  ·rw[hf]at q;simp at q
  ·exact .inl (beq_iff_eq.mp q)
  ·exact .inr (beq_iff_eq.mp q)
 ·have hm:(y,some j)∈Ni.zip caps:=by
   refine yb (i:=i) ?_
   rw[List.getElem?_zip_eq_some];exact⟨e1,e2⟩
  have q:=ybB.mp h6 _ hm
  simp only[y3]at q
  exact⟨beq_iff_eq.mp q.1,beq_iff_eq.mp q.2⟩
def zcZ(caps:List (Option Nat))(σ:St):St:=caps.map fun o=>match o with | some j=>(σ[j]?).getD none | none=>none
section
variable {X:Cx}
set_option genInjectivity false in
set_option genSizeOf false in
structure CompAt(X:Cx)(scope:Scope)(own cl:List (Str × Addr))(s₃:Shared):Prop where
 oeq:own=cellsFrom (s₃.heap.objs.size+1) scope.names []
 apart:own.Pairwise fun x y=>x.2≠y.2
 above:∀n c,(n,c)∈own->s₃.heap.objs.size+1<=c
 sub:∀x c,cl.lookup x=some c->X.env.cells.lookup x=some c
 all:∀y∈scope.names,y.2=.free->cl.lookup y.1=X.env.cells.lookup y.1
theorem CompAt.look{scope:Scope}{own cl:List (Str × Addr)}{s₃:Shared}(T:CompAt X scope own cl s₃){x:Str}{c:Addr}(h:(own++cl).lookup x=some c):(x,c)∈own\/X.env.cells.lookup x=some c:=by
 rw[zcW]at h
 cases e:own.lookup x with
 | some c'=>rw[e]at h;cases h;exact .inl (mem_of_lookup e)
 | none=>rw[e]at h;exact .inr (T.sub x c h)
theorem zf1{pins:List (Addr × Obj)}{σ:St}{H:Hp}{s:Shared}(I:Inv X pins σ H s){x:Str}{c:Addr}(h:X.env.cells.lookup x=some c):c<s.heap.objs.size:=by
 obtain⟨v,o,ho,_⟩:=I.cell x c h
 exact Heap.lt_size ho
theorem zov{scope:Scope}{Ni:List Str}{caps:List (Option Nat)}{own cl:List (Str × Addr)}{pins:List (Addr × Obj)}{σ:St}{H₃:Hp}{s₃:Shared}{fp:List Addr}
  (S:CompScope X scope Ni caps) (T:CompAt X scope own cl s₃) (I:Inv X pins σ H₃ s₃) (f:∀b∈fp,zcV X pins H₃ b) (hf:∀b∈fp,b<s₃.heap.objs.size):(zbl X scope Ni (own++cl) s₃ H₃ fp pins).Ok where
 mod:=I.ok.mod
 kind:=S.kind
 glob:=I.ok.glob
 blt:=I.ok.blt
 above:=ye _
 inj:=fun x y c h1 h2=>by
  rcases T.look h1 with a | a
  ·rcases T.look h2 with b | b
   ·exact name_of_addr T.apart a b
   ·exact absurd (yt (zf1 I b) (ybx (T.above x c a))) (yQ _)
  ·rcases T.look h2 with b | b
   ·exact absurd (yt (zf1 I a) (ybx (T.above y c b))) (yQ _)
   ·exact I.ok.inj x y c a b
 has:=fun x h=>by
  have h':=zc4 (env:=X.env) (names:=scope.names) (x:=x) h
  show ∃c,(own++cl).lookup x=some c
  rw[zcW]
  cases e:own.lookup x with
  | some c=>exact⟨c,rfl⟩
  | none=>
   rcases h' with h' | h'
   ·obtain⟨c,ec⟩:=zez (n:=s₃.heap.objs.size+1) h'
    rw[<- T.oeq,e]at ec;cases ec
   ·have hm:=mem_of_lookup h'
    obtain⟨c,ec⟩:=I.ok.has x (S.free _ hm rfl)
    exact⟨c,(T.all _ hm rfl).trans ec⟩
 cab:=fun x c h1 h2=>by
  have hk:scope.names.lookup x=some .cell:=of_decide_eq_true h1
  obtain⟨c',ec⟩:=zez (n:=s₃.heap.objs.size+1) hk
  rw[<- T.oeq]at ec
  have h2':(own++cl).lookup x=some c:=h2
  rw[zcW,ec]at h2'
  cases h2'
  have:=T.above x _ (mem_of_lookup ec)
  show s₃.heap.objs.size<=_
  omega
 hd:=I.ok.hd
 frames:=I.ok.frames
 stk:=.inl rfl
 exf:=fun b hb=>⟨yr (hf b hb),fun x c h=>by
  rcases T.look h with a | a
  ·exact fun e=>absurd (yt (hf b hb) (ybx (e▸T.above x c a))) (yQ _)
  ·exact(f b hb).2.2.2.2.1 x c a⟩
 bs:=I.bs
 bsz:=yh I.ok.bsz I.sz
 noex:=fun b o e hb=>by
  rcases(f b hb).2.2.2.1 with z | z
  ·exact I.ok.noex b o e z
  ·have h1:b<X.base.objs.size:=Heap.lt_size e
   have h2:=I.ok.bsz
   exact absurd (yt h1 (yh h2 z)) (yQ _)
 exfs:=fun b hb hm=>by
  rcases yz.mp (I.stkSub b hm)with z | z
  ·exact(f b hb).2.1 z
  ·exact(f b hb).2.2.1 z
 funs:=I.stack
 frf:=I.stkFree
theorem zkF{scope:Scope}{Ni:List Str}{caps:List (Option Nat)}{own cl:List (Str × Addr)}{pins:List (Addr × Obj)}{σ:St}{H₃:Hp}{s₃ s₄:Shared}{fp:List Addr}
  (S:CompScope X scope Ni caps) (T:CompAt X scope own cl s₃) (I:Inv X pins σ H₃ s₃) (f:∀b∈fp,zcV X pins H₃ b) (hf:∀b∈fp,b<s₃.heap.objs.size)
  (e4:s₄={ s₃ with heap:=s₄.heap }) (k:∀b o,s₃.heap.get? b=some o->s₄.heap.get? b=some o) (ns:s₄.heap.Ns s₃.heap.objs.size fun _=>none) (oc:∀n c,(n,c)∈own->s₄.heap.IsCell c none) :
  Inv (zbl X scope Ni (own++cl) s₃ H₃ fp pins) [] (zcZ caps σ) H₃ s₄ where
 ok:=zov S T I f hf
 os:=by rw[e4];rfl
 bare:=by rw[e4];exact I.bare
 base:=Un.kept k
 loc:=by
  refine⟨_,ns,fun i x v h1 h2 h3=>?_⟩
  have h2':(zcZ caps σ)[i]?=some (some v):=h2
  unfold zcZ at h2'
  rw[yf]at h2'
  cases ec:caps[i]? with
  | none=>rw[ec]at h2';cases h2'
  | some o=>
   cases o with
   | none=>rw[ec]at h2';cases h2'
   | some j=>
    rw[ec]at h2'
    have h2'':(σ[j]?).getD none=some v:=yp h2'
    have hj:σ[j]?=some (some v):=by
     cases e:σ[j]? with
     | none=>rw[e]at h2'';cases h2''
     | some z=>rw[e]at h2'';exact congrArg some h2''
    obtain⟨hN,hfr⟩:=S.cap i x j h1 ec
    have hm:=mem_of_lookup hfr
    have hk:=S.free _ hm rfl
    obtain⟨m,_,hl⟩:=I.loc
    obtain⟨u,r,l⟩:=hl j x v hN hj (by rcases hk with z | z;exact .inr (.inl z);exact .inr (.inr z))
    refine⟨u,r,.inr ⟨zc3 hfr,?_⟩⟩
    rcases l with⟨z,_⟩ | ⟨_,c,hc,q⟩
    ·have z':X.env.kindOf x=some .local:=z
     rcases hk with y | y<;>(have y':X.env.kindOf x=_:=y;rw[z']at y';cases y')
    ·refine⟨c,?_,q.keeps k⟩
     show(own++cl).lookup x=some c
     rw[zcW]
     cases eo:own.lookup x with
     | some c'=>
      rw[T.oeq]at eo
      rcases zos (mem_of_lookup eo)with y | y
      ·have:=zfe S.ndn y
       rw[hfr]at this;cases this
      ·cases y
     | none=>exact(T.all _ hm rfl).trans hc
 cell:=fun x c h=>by
  rcases T.look h with a | a
  ·exact⟨_,oc x c a⟩
  ·obtain⟨v,q⟩:=I.cell x c a
   exact⟨v,q.keeps k⟩
 free:=I.hok.fresh (ye _)
 freeC:=fun x c h=>by
  rcases T.look h with a | a
  ·exact I.hok.fresh (by have:=T.above x c a;omega)
  ·exact I.freeC x c a
 pin:=fun p hp=>by
  have hp':p∈X.pn++pins:=by
   have:p∈(X.pn++pins)++[]:=hp
   simpa using this
  obtain⟨h1,h2,h3,h4,h5⟩:=I.pin p hp'
  refine⟨k _ _ h1,h2,yr (Heap.lt_size h1),fun z=>?_,h5⟩
  rcases yz.mp (I.stkSub _ z)with y | y
  ·exact h3 y
  ·exact h4 y
 hok:=I.hok.kept k
 len:=by
  show(zcZ caps σ).length=Ni.length
  unfold zcZ;rw[yc];exact S.len
theorem znY{scope:Scope}{Ni:List Str}{cs:List (Str × Addr)}{pins:List (Addr × Obj)}{σ σ':St}{H₃ H':Hp}{s₃ s':Shared}{fp:List Addr}(I:Inv X pins σ H₃ s₃)(f:∀b∈fp,zcV X pins H₃ b)
  (J:Inv (zbl X scope Ni cs s₃ H₃ fp pins) [] σ' H' s'):Inv X pins σ H' s':=by
 have u:Un (frs X.stack) fp H₃ H' s₃.heap s'.heap:=J.base
 have q:=I.call (g':=s'.gens) (t':=s'.toks) (d':=s'.drawn) (ch:=fp) u J.hok J.bare fun b hb=>⟨(f b hb).2.2.2.1,(f b hb).2.1,(f b hb).2.2.2.2.1,(f b hb).2.2.2.2.2⟩
 have e:({ s₃ with heap:=s'.heap,gens:=s'.gens,drawn:=s'.drawn,toks:=s'.toks }:Shared)=s':=by
  have h1:s'.os=s₃.os:=J.os
  cases s';cases s₃
  simp only at h1
  subst h1;rfl
 rw[e]at q
 exact q
def PF(Y:Cx)(ifs:List Expr)(t:TT):Prop:=∀(pins:List (Addr × Obj)) (s:Shared) (σ:St) (H:Hp) (Q:Bool->Hp->Prop),Inv Y pins σ H s->t σ H Q ->
 wpAny (model Y.prog Y.w) Y.A (forIn ifs true fun c r=>if r=true then do let ok <- isTrue c Y.env (eval c Y.env);pure (ForInStep.yield ok)else pure (ForInStep.yield r)) (TP Y pins σ Q) Y.xe s
abbrev zkA:TT:=fun _ H T=>T true H
theorem zV{Y:Cx}:PF Y [] zkA:=fun pins s σ H Q I h=>wpAny_tests_nil ⟨H,I,h⟩
theorem zgm{Y:Cx}{c:Expr}{t:TT}(h:PT Y c t):PF Y [c] t:=fun pins s σ H Q I q=>wpAny_tests_one (h pins s σ H Q I q)
def zif(wi:TI)(caps:List (Option Nat))(g:TG)(tf:TT)(te:TE):TE:=fun σ H Q=>wi σ H fun J H1=>∀D,H1 D=none ->
 ∃W:Nat->Nat->St->Hp->Prop,(∃m,W 0 m (zcZ caps σ) (upd H1 D (.lst [])))/\∀i m σ' H',W i m σ' H' ->
  (J.stop i H'/\Q (.ref D) H')\/(J.go i H'/\∃N:St->Hp->Prop,(∀σ2 H2,N σ2 H2->∃m',m'<m/\W (i+1) m' σ2 H2) /\
   ∀x H2,J.yld i H' x H2->g x σ' H2 fun σ1 H3=>tf σ1 H3 fun b H4=>if b=true then te σ1 H4 fun v H5=>zb9 (.ref D) [v] H5 fun _ H6=>N σ1 H6 else N σ1 H4)
theorem ziG{P:Program}{w:World}{A:Around}{R:Result->Shared->Prop}{s0:Shared}{elt tg iter:Expr}{tests:List Expr}{sc:Scope}{ps:Pos}{itv acc:Value}{en:Env}(J:Nat->Shared->Prop)
  (turn:∀n s,J n s->wpAny (model P w) A (pyNext itv) (fun r s1=>match r with | none=>R (.ok .next) s1 | some v=>wpAny (model P w) A (letOwnedTupleGo tg itv v) (fun _ s1'=>wpAny (model P w) A (assign tg en v) (fun _ s2=>
   wpAny (model P w) A (forIn tests true fun c r=>if r=true then do let ok <- isTrue c en (eval c en);pure (ForInStep.yield ok)else pure (ForInStep.yield r)) (fun ok s3=>if ok=true then wpAny (model P w) A (eval elt en) (fun x s4=>
    wpAny (model P w) A (call (.builtin "list.append") [acc,x]) (fun _ s5=>∃m,m<n/\J m s5) (notedBy (model P w) A en fun e s'=>R (.error e) s') s4) (notedBy (model P w) A en fun e s'=>R (.error e) s') s3
     else ∃m,m<n/\J m s3) (notedBy (model P w) A en fun e s'=>R (.error e) s') s2) (notedBy (model P w) A en fun e s'=>R (.error e) s') s1') (notedBy (model P w) A en fun e s'=>R (.error e) s') s1) (notedBy (model P w) A en fun e s'=>R (.error e) s') s)
  (n0:Nat) (j0:J n0 s0):codeAny (model P w) A (.compLoop (.ListComp elt [⟨tg,iter,tests,0⟩] sc ps) 0 itv acc en) R s0:=by
 refine codeAny_loop rfl J (fun n s hJ=>?_) n0 j0
 show wpAny _ A ((compTurn (.ListComp elt [⟨tg,iter,tests,0⟩] sc ps) 0 itv acc en).onRaise (fun x=>do noteFrame x en;theTreesLotGoes x)) _ _ s
 refine wpAny_noted ?_
 rw[compTurn_list]
 refine wpAny_bind (wpAny_standAt (wpAny_bind (wpAny_mono (turn n s hJ) (fun r s1 h1=>?_) fun _ _ z=>z)))
 cases r with
 | none=>exact wpAny_pure h1
 | some v=>
  refine wpAny_bind (wpAny_mono h1 (fun _ s1' h1'=>wpAny_bind (wpAny_mono h1' (fun _ s2 h2=>wpAny_bind (wpAny_mono h2 (fun ok s3 h3=>?_) fun _ _ z=>z)) fun _ _ z=>z)) fun _ _ z=>z)
  cases ok with
  | false=>exact wpAny_pure ⟨rfl,h3⟩
  | true=>
   exact wpAny_bind (wpAny_bind (wpAny_mono h3 (fun x s4 h4=>wpAny_bind (wpAny_mono h4 (fun _ s5 h5=>wpAny_pure (wpAny_pure ⟨rfl,h5⟩)) fun _ _ z=>z)) fun _ _ z=>z))
theorem zlA{Y:Cx}{elt iter:Expr}{tg:Expr}{ifs:List Expr}{scope:Scope}{pos:Pos}{it D:Addr}{fp:List Addr}{tn:Nat->Heap->Prop}{J:It}{g:TG}{tf:TT}{te:TE}{Q:VK}{R:Result->Shared->Prop}
  (T:Turn Y.prog Y.w Y.K tg J fp it tn) (hc:Y.calm=true) (gY:PG Y tg g) (hF:PF Y ifs tf) (hE:PE Y elt te) (fpY:∀{H':Hp},(∀b∈fp,H' b=none)->∀b∈fp,zcV Y [] H' b) (hx:∀e s,¬Y.xe e s)
  {W:Nat->Nat->St->Hp->Prop} (turn:∀i m σ' H',W i m σ' H' ->
   (J.stop i H'/\Q (.ref D) H')\/(J.go i H'/\∃N:St->Hp->Prop,(∀σ2 H2,N σ2 H2->∃m',m'<m/\W (i+1) m' σ2 H2) /\
    ∀x H2,J.yld i H' x H2->g x σ' H2 fun σ1 H3=>tf σ1 H3 fun b H4=>if b=true then te σ1 H4 fun v H5=>zb9 (.ref D) [v] H5 fun _ H6=>N σ1 H6 else N σ1 H4))
  (fin:∀σ' H' s',Inv Y [] σ' H' s'->Q (.ref D) H'->R (.ok .next) s') {m0:Nat} {σ0:St} {H0:Hp} {s0:Shared} (I0:Inv Y [] σ0 H0 s0) (st0:tn 0 s0.heap) (fr0:∀b∈fp,H0 b=none) (w0:W 0 m0 σ0 H0) :
  codeAny (model Y.prog Y.w) Y.A (.compLoop (.ListComp elt [⟨tg,iter,ifs,0⟩] scope pos) 0 (.ref it) (.ref D) Y.env) R s0:=by
 refine ziG (fun n s'=>∃i σ' H',Inv Y [] σ' H' s'/\tn i s'.heap/\(∀b∈fp,H' b=none)/\W i n σ' H') ?_ m0 ⟨0,_,_,I0,st0,fr0,w0⟩
 rintro n s5 ⟨i,σ5,H5,I5,st5,fr5,w5⟩
 have noE:∀{α:Type} {t:Sem α} {Q1:α->Shared->Prop} {E2:Value->Shared->Prop} {s1:Shared},wpAny (model Y.prog Y.w) Y.A t Q1 Y.xe s1->wpAny (model Y.prog Y.w) Y.A t Q1 E2 s1:=
  fun h=>wpAny_mono h (fun _ _ q=>q) fun e s z=>(hx e s z).elim
 rcases turn i n σ5 H5 w5 with⟨stop,qn⟩ | ⟨go,N,hN,step⟩
 ·refine thn (T.done Y rfl rfl rfl hc i [] s5 σ5 H5 _ I5 (fpY fr5) st5 stop) fun r s6 ⟨hr,I6⟩=>?_
  subst hr
  exact fin σ5 H5 s6 I6 qn
 ·refine thn (T.item Y rfl rfl rfl hc i [] s5 σ5 H5 _ I5 (fpY fr5) st5 go) fun r s6 ⟨u,hr,h6⟩=>?_
  subst hr
  refine thn h6 fun _ s7 zz=>?_
  obtain⟨x7,H7,I7,r7,y7,st7,fr7⟩:=zz
  have I7':=I7.pinned (fpY fr7) (T.obj _ _ st7)
  have again:∀{σ9:St} {H9:Hp} {s9:Shared},Inv Y ([]++ze3 fp s7.heap) σ9 H9 s9->N σ9 H9->∃m,m<n/\∃i σ' H',Inv Y [] σ' H' s9/\tn i s9.heap/\(∀b∈fp,H' b=none)/\W i m σ' H':=fun {σ9 H9 s9} I9 n9=>by
   obtain⟨m',hm,w9⟩:=hN σ9 H9 n9
   refine⟨m',hm,i+1,σ9,H9,I9.unpinned,T.keep _ _ _ st7 fun b hb o e=>(I9.pin (b,o) (yq _ (yq _ (zdE hb e)))).1,fun b hb=>?_,w9⟩
   obtain⟨o,e,d⟩:=T.obj _ _ st7 b hb
   exact(I9.pin (b,o) (yq _ (yq _ (zdE hb e)))).2.1
  refine noE (thn (gY _ s7 σ5 H7 x7 u _ I7' r7 (step x7 _ y7)) fun _ s8 zz=>?_)
  obtain⟨σ8,H8,I8,q8⟩:=zz
  refine noE (thn (hF _ s8 _ _ _ I8 q8) fun b s9 ⟨H9,I9,q9⟩=>?_)
  cases b with
  | false=>exact again I9 q9
  | true=>
   refine noE (thn (hE _ s9 _ _ _ I9 q9) fun y s10 zz=>?_)
   obtain⟨v10,H10,I10,r10,q10⟩:=zz
   refine noE (thn (zbT (X:=Y) _ s10 _ _ (.ref D) [v10] (.ref D) [y] _ I10 rfl (.cons r10 .nil) q10) fun _ s11 zz=>?_)
   obtain⟨v11,H11,I11,_,q11⟩:=zz
   exact again I11 q11
theorem zJ{scope:Scope}{Ni:List Str}{caps:List (Option Nat)}{x:Str}{px:Pos}{gi:Nat}{cs:List (Str × Addr)}{s₃:Shared}{H₃:Hp}{fp:List Addr}{pins:List (Addr × Obj)}
  (S:CompScope X scope Ni caps) (hx:scope.names.lookup x=some .local\/scope.names.lookup x=some .cell) (hgi:Ni[gi]?=some x):PG (zbl X scope Ni cs s₃ H₃ fp pins) (.Name x px) (zfs gi):=by
 rcases hx with hx | hx
 ·exact zM S.nd hgi (.inl (lookup_relabel_local hx)) (.inr (lookup_relabel_local hx))
 ·refine zM S.nd hgi ?_ (.inl (decide_eq_true hx))
  have:(relabel scope X.env).names.lookup x=some .cell:=zdu hx
  exact .inr this
theorem zhz{elt iter:Expr}{tg:Expr}{ifs:List Expr}{scope:Scope}{pos pos':Pos}{wi:TI}{Ni:List Str}{caps:List (Option Nat)}{g:TG}{tf:TT}{te:TE}
  (hc:X.calm=true) (hi:PI X tg iter wi) (S:CompScope X scope Ni caps) (hG:CompScope X scope Ni caps->∀cs s₃ H₃ fp pins,PG (zbl X scope Ni cs s₃ H₃ fp pins) tg g)
  (hF:∀cs s₃ H₃ fp pins,PF (zbl X scope Ni cs s₃ H₃ fp pins) ifs tf) (hE:∀cs s₃ H₃ fp pins,PE (zbl X scope Ni cs s₃ H₃ fp pins) elt te)
  (hs:∀x,foldedSetIterable iter X.env x=pure x)
  {pins:List (Addr × Obj)} {s:Shared} {σ:St} {H:Hp} {Q:VK} (I:Inv X pins σ H s) (h:zif wi caps g tf te σ H Q) {use:Option (Value->Sem Unit)} {R:Value->Shared->Prop}
  (fin:∀(D C:Addr) (H':Hp) (s':Shared) (m:Str->Option Value),Inv X pins σ H' s'->Q (.ref D) H'->s'.heap.Ns C m->H' C=none->X.s₀.heap.objs.size<=C->C≠X.env.locals->(∀y c,X.env.cells.lookup y=some c->c≠C)->(∀p∈X.pn++pins,p.1≠C) ->
   compPost (model X.prog X.w) X.A X.xe use R (.ref D) C (.ok .next) s') :
  wpAny (model X.prog X.w) X.A (comprehension (.ListComp elt [⟨tg,iter,ifs,0⟩] scope pos) scope X.env pos' (newList []) false (eval iter X.env) use) R X.xe s:=by
 obtain⟨cl,hcl,hsub,hall⟩:=zgJ (env:=X.env) (scope:=scope) fun y hy hf=>I.ok.has y.1 (S.free y hy hf)
 refine wpAny_comprehension_free rfl hs hcl S.kind (fun y hy hl=>by obtain⟨n,k⟩:=y;cases hl;exact zfe S.ndn hy) (thn (hi pins s σ H _ I h) fun v s1 h1=>thn h1 fun itv s2 h2=>?_)
 obtain⟨it,fp,tn,J,H2,e,I2,T,st2,f2,hW⟩:=h2
 subst e
 have I3:Inv X pins σ (upd H2 s2.heap.objs.size (.lst [])) { s2 with heap:=s2.heap.push { cls:=.type "list",dict:=none,data:=.seq ([]:List Value).toArray },toks:=s2.toks }:=
  I2.laid (fun b u e=>Heap.get?_push_of_some _ e) (ye _) ⟨yD _,[],_,.nil,Heap.get?_push_size _ rfl⟩
 have hD:H2 s2.heap.objs.size=none:=I2.hok.fresh (ye _)
 obtain⟨W,⟨m0,w0⟩,turn⟩:=hW s2.heap.objs.size hD
 have st3:tn 0 (s2.heap.push { cls:=.type "list",dict:=none,data:=.seq ([]:List Value).toArray }):=T.keep _ _ _ st2 fun b _ o e=>Heap.get?_push_of_some _ e
 have f3:∀b∈fp,zcV X pins (upd H2 s2.heap.objs.size (.lst [])) b:=fun b hb=>by
  obtain⟨o,e,_⟩:=T.obj _ _ st2 b hb
  exact⟨by rw[zag (yr (Heap.lt_size e))];exact(f2 b hb).1,(f2 b hb).2⟩
 refine wpAny_newObj_type ?_
 generalize hs3:({ s2 with heap:=s2.heap.push { cls:=.type "list",dict:=none,data:=.seq ([]:List Value).toArray },toks:=s2.toks }:Shared)=s3 at I3
 have eh:s2.heap.push { cls:=.type "list",dict:=none,data:=.seq ([]:List Value).toArray }=s3.heap:=by rw[<- hs3]
 rw[eh]at st3
 have hf3:∀b∈fp,b<s3.heap.objs.size:=fun b hb=>by
  obtain⟨o,e,_⟩:=T.obj _ _ st3 b hb
  exact Heap.lt_size e
 refine zhO fun own s4 eo e4 k4 ns4 oc4 ap4=>?_
 have T4:CompAt X scope own cl s3:=⟨eo,ap4,fun n c hm=>(oc4 n c hm).2,hsub,hall⟩
 have I4:=zkF (Ni:=Ni) (caps:=caps) S T4 I3 f3 hf3 e4 k4 ns4 fun n c hm=>(oc4 n c hm).1
 have st4:tn 0 s4.heap:=T.keep _ _ _ st3 fun b _ o e=>k4 b o e
 have fpY:∀{H':Hp},(∀b∈fp,H' b=none)->∀b∈fp,zcV (zbl X scope Ni (own++cl) s3 (upd H2 s2.heap.objs.size (.lst [])) fp pins) [] H' b:=fun hn b hb=>
  ⟨hn b hb,yr (hf3 b hb),I4.ok.exfs b hb,.inl hb,(I4.ok.exf b hb).2,fun p hp=>by
   have hp':p∈X.pn++pins:=by
    have:p∈(X.pn++pins)++[]:=hp
    simpa using this
   exact(f3 b hb).2.2.2.2.2 p hp'⟩
 have loop:=zlA (Q:=Q) (elt:=elt) (iter:=iter) (scope:=scope) (pos:=pos) (R:=compPost (model X.prog X.w) X.A X.xe use R (.ref s2.heap.objs.size) s3.heap.objs.size) (Y:=zbl X scope Ni (own++cl) s3 (upd H2 s2.heap.objs.size (.lst [])) fp pins)
  T hc (hG S _ _ _ _ _) (hF _ _ _ _ _) (hE _ _ _ _ _) fpY (fun _ _ z=>z) turn (fun σ' H' s' I6 qn=>by
   have I6':=znY I3 f3 I6
   obtain⟨m6,ns6,_⟩:=I6.loc
   exact fin _ _ H' s' m6 I6' qn ns6 I6.free I3.sz (Nat.ne_of_gt I3.lt) (fun y c hc'=>yr (zf1 I3 hc')) fun p hp=>yr (Heap.lt_size (I3.pin p hp).1)) I4 st4 (fun b hb=>(f3 b hb).1) w0
 exact codeAny_compStart_list loop (T.self _ _ _ _ _ st4 loop)
theorem zaw{elt iter:Expr}{tg:Expr}{ifs:List Expr}{scope:Scope}{pos:Pos}{wi:TI}{Ni:List Str}{caps:List (Option Nat)}{g:TG}{tf:TT}{te:TE}
  (hc:X.calm=true) (hi:PI X tg iter wi) (S:CompScope X scope Ni caps) (hG:CompScope X scope Ni caps->∀cs s₃ H₃ fp pins,PG (zbl X scope Ni cs s₃ H₃ fp pins) tg g)
  (hF:∀cs s₃ H₃ fp pins,PF (zbl X scope Ni cs s₃ H₃ fp pins) ifs tf) (hE:∀cs s₃ H₃ fp pins,PE (zbl X scope Ni cs s₃ H₃ fp pins) elt te)
  (hs:autoParam (∀x,foldedSetIterable iter X.env x=pure x) Internal.aut3._auto_1):PE X (.ListComp elt [⟨tg,iter,ifs,0⟩] scope pos) (zif wi caps g tf te):=by
 intro pins s σ H Q I h
 rw[eval_ListComp]
 refine zhz hc hi S hG hF hE hs I h fun D C H' s' m I' q ns hn hC h1 h2 h3=>?_
 refine⟨m,ns,fun h' sb=>?_⟩
 exact⟨.ref D,H',I'.turned (t':=s'.toks) (it:=C) (fun b o hb e=>(sb.2 b hb).trans e) hn h1 (.inr hC) h2 h3,rfl,q⟩
theorem zaW{i:Nat}{y:Str}{py:Pos}{elt iter:Expr}{tg:Expr}{ifs:List Expr}{scope:Scope}{pos spos:Pos}{wi:TI}{Ni:List Str}{caps:List (Option Nat)}{g:TG}{tf:TT}{te:TE}
  (hN:X.N.Nodup) (hyi:X.N[i]?=some y) (hy:X.env.scope.names.lookup y=some .local) (hc:X.calm=true) (hi:PI X tg iter wi) (S:CompScope X scope Ni caps) (hG:CompScope X scope Ni caps->∀cs s₃ H₃ fp pins,PG (zbl X scope Ni cs s₃ H₃ fp pins) tg g)
  (hF:∀cs s₃ H₃ fp pins,PF (zbl X scope Ni cs s₃ H₃ fp pins) ifs tf) (hE:∀cs s₃ H₃ fp pins,PE (zbl X scope Ni cs s₃ H₃ fp pins) elt te)
  (hsw:autoParam (swapsWith (.ListComp elt [⟨tg,iter,ifs,0⟩] scope pos) (some (.Name y py)) spos.line X.env=pure true) Internal.aut2._auto_1)
  (hs:autoParam (∀x,foldedSetIterable iter X.env x=pure x) Internal.aut3._auto_1):PS X (.Assign [.Name y py] (.ListComp elt [⟨tg,iter,ifs,0⟩] scope pos) spos) (znc (zif wi caps g tf te) (zfs i)):=by
 intro pins s σ H D I h
 rw[exec_Assign_Name_used _ _ _ _ hsw]
 refine wpAny_bind (wpAny_standAt (wpAny_bind ?_))
 show wpAny _ X.A (do let _ <- comprehension (.ListComp elt [⟨tg,iter,ifs,0⟩] scope pos) scope X.env _ (newList []) false (eval iter X.env) (some (assign (.Name y py) X.env))) _ _ s
 refine wpAny_bind (wpAny_mono (zhz (R:=fun _ s'=>SP X pins D .next s') hc hi S hG hF hE hs I h fun L C H' s' m I' q ns hn hC h1 h2 h3=>?_) (fun _ s' hq=>wpAny_pure (wpAny_pure hq)) fun _ _ e=>e)
 show wpAny _ X.A (assign (.Name y py) X.env (.ref L)) _ _ _
 refine wpAny_assign_Name (zhw (v:=.ref L) I' hN hyi (.inl hy) rfl (fun s2 I2 sb2=>?_) (.inr hy))
 obtain⟨a,sb,ha⟩:=sb2
 have hCa:C≠a:=by
  rcases ha with z | z
  ·rw[z];exact h1
  ·exact fun w'=>h2 y a z w'.symm
 refine⟨m,ns.sameBut sb hCa,fun h' sb'=>?_⟩
 exact⟨_,H',I2.turned (t':=s2.toks) (it:=C) (fun b o hb e=>(sb'.2 b hb).trans e) hn h1 (.inr hC) h2 h3,q⟩
end
end Internal
namespace My
def gc(a b:Int):Int:=(Int.gcd a b:Int)
theorem zhG(a b:Int):0<=gc a b:=Int.natCast_nonneg _
theorem gc_comm(a b:Int):gc a b=gc b a:=by unfold gc;rw[Int.gcd_comm]
theorem gc_dvd_left(a b:Int):gc a b∣a:=Int.gcd_dvd_left a b
theorem gc_dvd_right(a b:Int):gc a b∣b:=Int.gcd_dvd_right a b
theorem zje{k a b:Int}(h1:k∣a)(h2:k∣b):k∣gc a b:=Int.dvd_coe_gcd h1 h2
theorem gc_pos_right{a b:Int}(h:b≠0):0<gc a b:=by
 have:=Int.gcd_pos_of_ne_zero_right a h
 unfold gc;omega
theorem zjX{a b:Int}(h:a≠0):0<gc a b:=by rw[gc_comm];exact gc_pos_right h
theorem gc_zero_right{a:Int}(h:0<=a):gc a 0=a:=by unfold gc;rw[Int.gcd_zero_right];omega
theorem gc_abs(a b:Int):gc (if a<0 then -a else a) (if b<0 then -b else b)=gc a b:=by
 unfold gc;split<;>split<;>simp[Int.gcd]
theorem gc_step{a b:Int}:gc b (a%b)=gc a b:=by
 rw[gc_comm a b]
 refine Int.dvd_antisymm (zhG _ _) (zhG _ _) ?_ ?_
 ·refine zje (gc_dvd_left b (a%b)) ?_
  have e:a=b*(a/b)+a%b:=(Int.mul_ediv_add_emod a b).symm
  have:=Int.dvd_add (Int.dvd_mul_of_dvd_left (c:=a/b) (gc_dvd_left b (a%b))) (gc_dvd_right b (a%b))
  rwa [<- e]at this
 ·refine zje (gc_dvd_left b a) ?_
  rw[Int.emod_def]
  exact Int.dvd_sub (gc_dvd_right b a) (Int.dvd_mul_of_dvd_left (gc_dvd_left b a))
theorem zp2{a b:Int}(h:∀c,c∣a->c∣b->c∣1):gc a b=1:=by
 unfold gc;rw[Int.gcd_eq_one_iff.mpr h];rfl
theorem zoT{a b:Int}(h:gc a b=1){c:Int}(h1:c∣a)(h2:c∣b):c∣1:=h▸zje h1 h2
theorem zeI{a b:Int}(h:gc a b=1):a.gcd b=1:=by unfold gc at h;omega
theorem zhu{a b:Int}(h:a.gcd b=1):gc a b=1:=by unfold gc;omega
theorem low_unique{x y:Int}{q:Rat}(hy:0<y)(hg:gc x y=1)(e:Rat.divInt x y=q):x=q.num/\y=(q.den:Int):=by
 obtain⟨d,rfl⟩:=Int.eq_ofNat_of_zero_le (yay hy)
 have hc:x.natAbs.Coprime d:=by
  have:=zeI hg
  rw[ybn]at this
  exact this
 have hd:d≠0:=by omega
 have:Rat.mk' x d hd hc=q:=by rw[Rat.mk_eq_divInt];exact e
 subst this
 exact⟨rfl,rfl⟩
theorem rat_low(q:Rat):gc q.num (q.den:Int)=1:=by
 refine zhu ?_
 rw[ybn]
 exact q.reduced
theorem rat_den_pos(q:Rat):0<(q.den:Int):=by have:=q.den_nz;omega
theorem rat_self(q:Rat):Rat.divInt q.num (q.den:Int)=q:=yba q
theorem zfa{a b:Int}(h:b≠0):gc (a/gc a b) (b/gc a b)=1:=by
 have hp:=gc_pos_right (a:=a) h
 unfold gc
 have:=Int.gcd_ediv (a:=a) (b:=b) (c:=(a.gcd b:Int)) (gc_dvd_left a b) (gc_dvd_right a b)
 rw[this]
 have hp':0<a.gcd b:=by unfold gc at hp;omega
 rw[yaM,Nat.div_self hp'];rfl
theorem zhQ{a b c:Int}(hb:b≠0)(ha:c∣a)(hc:c∣b):Rat.divInt (a/c) (b/c)=Rat.divInt a b:=by
 obtain⟨x,rfl⟩:=ha
 obtain⟨y,rfl⟩:=hc
 have hc0:c≠0:=by rintro rfl;simp at hb
 rw[yS _ hc0,yS _ hc0,ybk hc0]
theorem part_pos{t b:Int}(hb:0<b):t/gc t b=(Rat.divInt t b).num/\b/gc t b=((Rat.divInt t b).den:Int):=by
 have hp:=gc_pos_right (a:=t) (b:=b) (by omega)
 refine low_unique ?_ (zfa (by omega)) (zhQ (by omega) (gc_dvd_left _ _) (gc_dvd_right _ _))
 exact ya0 hb (by omega) (gc_dvd_right _ _)
theorem part_neg{t b:Int}(hb:b<0):t.fdiv (-gc t b)=(Rat.divInt t b).num/\b.fdiv (-gc t b)=((Rat.divInt t b).den:Int):=by
 have d1:-gc t b∣t:=Int.neg_dvd.mpr (gc_dvd_left _ _)
 have d2:-gc t b∣b:=Int.neg_dvd.mpr (gc_dvd_right _ _)
 rw[Int.fdiv_eq_ediv_of_dvd d1,Int.fdiv_eq_ediv_of_dvd d2]
 have e:=part_pos (t:=-t) (b:=-b) (by omega)
 have g:gc (-t) (-b)=gc t b:=by unfold gc;simp[Int.gcd]
 rw[g,ybr]at e
 rw[Int.ediv_neg,Int.ediv_neg]
 rw[Int.neg_ediv_of_dvd (gc_dvd_left _ _),Int.neg_ediv_of_dvd (gc_dvd_right _ _)]at e
 exact e
theorem zdm{a b m:Int}(h1:gc a m=1)(h2:gc b m=1):gc (a*b) m=1:=by
 refine zhu ?_
 rw[Int.gcd_mul_right_left_of_gcd_eq_one (zeI h1)]
 exact zeI h2
theorem zcS{a b m:Int}(h1:gc m a=1)(h2:gc m b=1):gc m (a*b)=1:=by
 rw[gc_comm]at *;exact zdm h1 h2
theorem zcT{a b m:Int}(h:gc b m=1)(d:a∣b):gc a m=1:=
 zp2 fun _ h1 h2=>zoT h (Int.dvd_trans h1 d) h2
theorem zbV{a b m:Int}(h:gc m b=1)(d:a∣b):gc m a=1:=by
 rw[gc_comm]at *;exact zcT h d
theorem zge(m n k:Int):gc (n+k*m) m=gc n m:=by
 rw[gc_comm,gc_comm n m];unfold gc;rw[Int.gcd_add_mul_right_right]
theorem plus_low{a1 b1 a2 b2:Int}(h1:0<b1)(h2:0<b2)(g1:gc a1 b1=1)(g2:gc a2 b2=1) :
  let s:=gc b1 b2
  let t:=a1*(b2/s)+a2*(b1/s)
  let c:=gc t s
  0<(b1/s)*(b2/c)/\gc (t/c) ((b1/s)*(b2/c))=1/\Rat.divInt (t/c) ((b1/s)*(b2/c))=Rat.divInt a1 b1+Rat.divInt a2 b2:=by
 intro s t c
 have hs:0<s:=zjX (by omega)
 obtain⟨u,hu⟩:=gc_dvd_left b1 b2
 obtain⟨v,hv⟩:=gc_dvd_right b1 b2
 have eu:b1/s=u:=by rw[show b1=s*u from hu];exact yS _ (by omega)
 have ev:b2/s=v:=by rw[show b2=s*v from hv];exact yS _ (by omega)
 have hu':b1=s*u:=hu
 have hv':b2=s*v:=hv
 have guv:gc u v=1:=by
  have:=zfa (a:=b1) (b:=b2) (by omega)
  change gc (b1/s) (b2/s)=1 at this
  rwa [eu,ev]at this
 have upos:0<u:=by
  rcases yaW 0 u with h | h
  ·exact h
  ·have:=y6 (yay hs) h;omega
 have vpos:0<v:=by
  rcases yaW 0 v with h | h
  ·exact h
  ·have:=y6 (yay hs) h;omega
 have et:t=a1*v+a2*u:=by show a1*(b2/s)+a2*(b1/s)=_;rw[eu,ev]
 have hc:0<c:=gc_pos_right (by omega)
 obtain⟨x,hx⟩:=gc_dvd_left t s
 obtain⟨w,hw⟩:=gc_dvd_right t s
 have hx':t=c*x:=hx
 have hw':s=c*w:=hw
 have ex:t/c=x:=by rw[hx'];exact yS _ (by omega)
 have wpos:0<w:=by
  rcases yaW 0 w with h | h
  ·exact h
  ·have:=y6 (yay hc) h;omega
 have eb:b2/c=w*v:=by rw[hv',hw',yaC];exact yS _ (by omega)
 have gxw:gc x w=1:=by
  have:=zfa (a:=t) (b:=s) (by omega)
  change gc (t/c) (s/c)=1 at this
  rw[ex,show s/c=w by rw[hw'];exact yS _ (by omega)]at this
  exact this
 have xt:x∣t:=⟨c,by rw[hx',yaz]⟩
 have gtu:gc t u=1:=by
  rw[et,zge]
  exact zdm (zbV g1 ⟨s,by rw[hu',yaz]⟩) (by rw[gc_comm];exact guv)
 have gtv:gc t v=1:=by
  rw[et,Int.add_comm,zge]
  exact zdm (zbV g2 ⟨s,by rw[hv',yaz]⟩) guv
 rw[ex,eu,eb]
 refine⟨yaR upos (yaR wpos vpos),?_,?_⟩
 ·exact zcS (zcT gtu xt) (zcS gxw (zcT gtv xt))
 ·rw[Rat.divInt_add_divInt _ _ (by omega) (by omega)]
  have sc:s*c≠0:=yal (yaR hs hc)
  rw[<- ybk (n:=x) (d:=u*(w*v)) sc]
  have e1:s*c*x=a1*b2+a2*b1:=by
   have:s*c*x=s*(c*x):=by rw[yaC]
   rw[this,<- hx',et,hu',hv',Int.mul_add]
   rw[yaU s a1 v,yaU s a2 u]
  have e2:s*c*(u*(w*v))=b1*b2:=by
   have:b1*b2=s*u*(c*w*v):=by rw[hu',hv',<- hw']
   rw[this];simp only[yaC,yaU,yaz]
  rw[e1,e2]
theorem times_low{a1 b1 a2 b2:Int}(h1:0<b1)(h2:0<b2)(g1:gc a1 b1=1)(g2:gc a2 b2=1) :
  let d:=gc a1 b2
  let x:=gc a2 b1
  0<(b1/x)*(b2/d)/\gc ((a1/d)*(a2/x)) ((b1/x)*(b2/d))=1/\Rat.divInt ((a1/d)*(a2/x)) ((b1/x)*(b2/d))=Rat.divInt a1 b1*Rat.divInt a2 b2:=by
 intro d x
 have hd:0<d:=gc_pos_right (by omega)
 have hx:0<x:=gc_pos_right (by omega)
 have k1:gc (a1/d) (b2/d)=1:=zfa (by omega)
 have k2:gc (a2/x) (b1/x)=1:=zfa (by omega)
 have da1:d∣a1:=gc_dvd_left _ _
 have db2:d∣b2:=gc_dvd_right _ _
 have xa2:x∣a2:=gc_dvd_left _ _
 have xb1:x∣b1:=gc_dvd_right _ _
 have q1:a1/d∣a1:=⟨d,(yai da1).symm⟩
 have q2:b1/x∣b1:=⟨x,(yai xb1).symm⟩
 have q3:a2/x∣a2:=⟨x,(yai xa2).symm⟩
 have q4:b2/d∣b2:=⟨d,(yai db2).symm⟩
 have p1:0<b1/x:=ya0 h1 (by omega) xb1
 have p2:0<b2/d:=ya0 h2 (by omega) db2
 refine⟨yaR p1 p2,?_,?_⟩
 ·refine zdm (zcS ?_ k1) (zcS k2 ?_)
  ·exact zbV (zcT g1 q1) q2
  ·exact zbV (zcT g2 q3) q4
 ·rw[Rat.divInt_mul_divInt]
  have sc:d*x≠0:=yal (yaR hd hx)
  rw[<- ybk (n:=(a1/d)*(a2/x)) (d:=(b1/x)*(b2/d)) sc]
  have e1:d*x*((a1/d)*(a2/x))=a1*a2:=by
   have y1:=yai da1
   have y2:=yai xa2
   generalize a1/d=z1 at *
   generalize a2/x=z2 at *
   rw[<- y1,<- y2];simp only[yaC,yaU,yaz]
  have e2:d*x*((b1/x)*(b2/d))=b1*b2:=by
   have y1:=yai xb1
   have y2:=yai db2
   generalize b1/x=z1 at *
   generalize b2/d=z2 at *
   rw[<- y1,<- y2];simp only[yaC,yaU,yaz]
  rw[e1,e2]
end My
namespace Internal
open PySem PySem.Spec PyProof.Rows
theorem zpt{b:Bool}{A B:Prop}(h1:b=true->A)(h2:b=false->B):if b=true then A else B:=by
 cases b with
 | true=>rw[if_pos rfl];exact h1 rfl
 | false=>rw[if_neg yo];exact h2 rfl
theorem zpJ{p:Prop}[Decidable p]{A B:Prop}(h1:p->A)(h2:¬p->B):if p then A else B:=by
 by_cases h:p
 ·rw[if_pos h];exact h1 h
 ·rw[if_neg h];exact h2 h
section
variable {K:Fg}{H:Hp}{Q:VK}
theorem zqj{i:Int}(q:Q (.bl true) H):zeA K [.int i,.ty "int"] H Q:=zib (t':=.type "int") (cv:=.type "int") (b:=true) rfl (.int i) (by with_unfolding_all rfl) q
theorem zpP{i:Int}(q:Q (.bl false) H):zeA K [.int i,.ty "bool"] H Q:=zib (t':=.type "int") (cv:=.type "bool") (b:=false) rfl (.int i) (by with_unfolding_all rfl) q
theorem zmv{a:Addr}{xs:List V}(h:H a=some (.tup xs))(q:Q (.bl true) H):zeA K [.ref a,.ty "tuple"] H Q:=zib (t':=.type "tuple") (cv:=.type "tuple") (b:=true) rfl (.tup h) (by with_unfolding_all rfl) q
theorem zqz{a:Addr}{xs:List V}(h:H a=some (.lst xs))(q:Q (.bl true) H):zeA K [.ref a,.ty "list"] H Q:=zib (t':=.type "list") (cv:=.type "list") (b:=true) rfl (.lst h) (by with_unfolding_all rfl) q
end
def zn6:Sp:=fun vs H Q _=>∃a b:Int,vs=[.int a,.int b]/\Q (.int (My.gc a b)) H
theorem zo5{a b:Int}{H:Hp}{Q:VK}{E:XK}(q:Q (.int (My.gc a b)) H):zn6 [.int a,.int b] H Q E:=⟨a,b,rfl,q⟩
theorem ziV(a:Int):0<=if a<0 then -a else a:=by split<;>omega
theorem zca{a b:Int}{n:Nat}(h:b≠0)(hs:sz b<=n):sz (My.gc a b)<=n:=by
 refine yh (zgP ?_) hs
 have h1:=My.gc_pos_right (a:=a) h
 obtain⟨c,hc⟩:=My.gc_dvd_right a b
 have hc0:c≠0:=by rintro rfl;rw[Int.mul_zero]at hc;exact h hc
 have e:b.natAbs=(My.gc a b).natAbs*c.natAbs:=by rw[<- ybm,<- hc]
 rw[e]
 exact Nat.le_mul_of_pos_right _ (by omega)
def cell(ns:List Int)(k:Int):Int:=ns.getD k.toNat 0
def ziF(K:Fg):Sp:=fun vs H Q _=>∃(a:Addr) (ns:List Int) (k:Int),vs=[.ref a,.int k]/\SqL K H a (ns.map V.int)/\0<=k/\Q (.int (cell ns k)) H
theorem zoE{ns:List Int}{k:Int}(h0:0<=k)(h:k<((ns.map V.int).length:Int)):atI (ns.map V.int) k=some (.int (cell ns k)):=by
 rw[yc]at h
 have hk:k.toNat<ns.length:=by omega
 have ek:k=((k.toNat:Nat):Int):=by omega
 have q:atI (ns.map V.int) ((k.toNat:Nat):Int)=some (.int ns[k.toNat]):=zU (by rw[yf,yi hk];rfl)
 rw[<- ek]at q
 rw[q];unfold cell;rw[yg,yi hk];rfl
theorem zmY{ns:List Int}{k:Int}(h:¬k<((ns.map V.int).length:Int)):cell ns k=0:=by
 rw[yc]at h
 unfold cell;rw[yg,yE (by omega)];rfl
def znF:=fun {K:Fg} {a:Addr} {ns:List Int} {k:Int} {H:Hp} {Q:VK} {E:XK} hS h0 q=>@id (ziF K [.ref a,.int k] H Q E) ⟨a,ns,k,rfl,hS,h0,q⟩
def zke:Sp:=fun vs H Q _=>∃i:Int,vs=[.int i]/\Q (.bl true) H
theorem zmr{a:Int}{H:Hp}{Q:VK}{E:XK}(q:Q (.bl true) H):zke [.int a] H Q E:=⟨a,rfl,q⟩
def IsQ(H:Hp)(a:Addr)(q:Rat):Prop:=H a=some (.tup [.int q.num,.int (q.den:Int)])
theorem IsQ.sq{K:Fg}{H:Hp}{a:Addr}{q:Rat}(h:IsQ H a q):SqT K H a [.int q.num,.int (q.den:Int)]:=SqT.of h
def dQ(q:Rat):PyData:=.tuple [.int q.num,.int (q.den:Int)]
theorem IsQ.len{K:Fg}{H:Hp}{a:Addr}{q:Rat}{Q:VK}(h:IsQ H a q)(k:Q (.int 2) H):za7 K [.ref a] H Q:=zpR h.sq k
theorem IsQ.isT{K:Fg}{H:Hp}{a:Addr}{q:Rat}{Q:VK}(h:IsQ H a q)(k:Q (.bl true) H):zeA K [.ref a,.ty "tuple"] H Q:=zmv h k
theorem IsQ.rep{K:Fg}{H:Hp}{a:Addr}{q:Rat}(h:IsQ H a q):RepD K H (.ref a) (dQ q):=.tup h.sq (.cons (.int _) (.cons (.int _) .nil))
theorem IsQ.same{H H':Hp}{a:Addr}{q:Rat}(h:IsQ H a q)(e:Same H H'):IsQ H' a q:=e _ _ h
theorem zal(q:Rat):0<(q.den:Int):=My.rat_den_pos q
theorem zoH{q r:Rat}(h1:q.num=r.num)(h2:(q.den:Int)=(r.den:Int)):q=r:=by
 rw[<- My.rat_self q,<- My.rat_self r,h1,h2]
theorem zrp(q r:Rat):PyData.eqv (dQ q) (dQ r)=decide (q=r):=by
 have e:PyData.eqv (dQ q) (dQ r)=((q.num == r.num)&&((q.den:Int) == (r.den:Int))):=by simp[dQ,PyData.eqv,PyData.eqvAll]
 rw[e]
 by_cases h:q=r
 ·subst h;simp
 ·rw[decide_eq_false h]
  cases h1:(q.num == r.num) with
  | false=>rfl
  | true=>
   cases h2:((q.den:Int) == (r.den:Int)) with
   | false=>rfl
   | true=>exact absurd (zoH (eq_of_beq h1) (eq_of_beq h2)) h
def NewQ(H:Hp)(Q:VK)(q:Rat):Prop:=∀p H',Same H H'->IsQ H' p q->Q (.ref p) H'
theorem NewQ.mk{H:Hp}{Q:VK}{q:Rat}{x y:Int}(k:NewQ H Q q)(e:x=q.num/\y=(q.den:Int)):zfd Q [.int x,.int y] H:=by
 refine⟨by show 2<=sizeLine;decide,fun p hp=>k p _ (Same.new hp _) ?_⟩
 rw[e.1,e.2];exact zaj
def SzQ(q:Rat)(n m:Nat):Prop:=sz q.num<=n/\sz (q.den:Int)<=m
theorem SzQ.mono{q:Rat}{n m n' m':Nat}(h:SzQ q n m)(h1:n<=n')(h2:m<=m'):SzQ q n' m':=⟨yh h.1 h1,yh h.2 h2⟩
theorem zfr{t b:Int}{n m:Nat}(hb:0<b)(h1:sz t<=n)(h2:sz b<=m):SzQ (Rat.divInt t b) n m:=by
 have e:=My.part_pos (t:=t) hb
 unfold SzQ
 rw[<- e.1,<- e.2]
 exact⟨yh (zb4 _ _) h1,yh (zb4 _ _) h2⟩
theorem zjq{t b:Int}{n m:Nat}(hb:b≠0)(h1:sz t<=n)(h2:sz b<=m):SzQ (Rat.divInt t b) n m:=by
 rcases yaW 0 b with h | h
 ·exact zfr h h1 h2
 ·rw[<- ybr]
  exact zfr (by omega) (yh (ze1 _) h1) (yh (ze1 _) h2)
def zi0:Sp:=fun vs H Q _=>∃t b:Int,vs=[.int t,.int b]/\b≠0/\sz b<=8999/\NewQ H Q (Rat.divInt t b)
theorem zn1{t b:Int}{H:Hp}{Q:VK}{E:XK}(hb:b≠0)(hs:sz b<=8999)(q:NewQ H Q (Rat.divInt t b)):zi0 [.int t,.int b] H Q E:=⟨t,b,rfl,hb,hs,q⟩
def zha(n:Nat):Sp:=fun vs H Q _=>∃(a b:Addr) (q r:Rat),vs=[.ref a,.ref b]/\IsQ H a q/\IsQ H b r/\SzQ q n n/\SzQ r n n/\Q (.bl (decide (q<r))) H
def zhM:=fun {n:Nat} {a b:Addr} {q r:Rat} {H:Hp} {Q:VK} {E:XK} h1 h2 s1 s2 k=>@id (zha n [.ref a,.ref b] H Q E) ⟨a,b,q,r,rfl,h1,h2,s1,s2,k⟩
def zg9(n:Nat):Sp:=fun vs H Q _=>∃(a b:Addr) (q r:Rat),vs=[.ref a,.ref b]/\IsQ H a q/\IsQ H b r/\SzQ q n n/\SzQ r n n/\(if r<q then Q (.ref b) H else Q (.ref a) H)
def zmE:=fun {n:Nat} {a b:Addr} {q r:Rat} {H:Hp} {Q:VK} {E:XK} h1 h2 s1 s2 k=>@id (zg9 n [.ref a,.ref b] H Q E) ⟨a,b,q,r,rfl,h1,h2,s1,s2,k⟩
def OkQ(q:Rat):Prop:=SzQ q 1000000 8999
theorem SzQ.ok{q:Rat}{n m:Nat}(h:SzQ q n m)(h1:n<=1000000)(h2:m<=8999):OkQ q:=h.mono h1 h2
theorem zkN(q r:Rat):(q.num*((r.den:Int)/My.gc q.den r.den)+r.num*((q.den:Int)/My.gc q.den r.den))/My.gc (q.num*((r.den:Int)/My.gc q.den r.den)+r.num*((q.den:Int)/My.gc q.den r.den)) (My.gc q.den r.den)=(q+r).num /\
  ((q.den:Int)/My.gc q.den r.den)*((r.den:Int)/My.gc (q.num*((r.den:Int)/My.gc q.den r.den)+r.num*((q.den:Int)/My.gc q.den r.den)) (My.gc q.den r.den))=((q+r).den:Int):=by
 have h:=My.plus_low (a1:=q.num) (b1:=q.den) (a2:=r.num) (b2:=r.den) (zal q) (zal r) (My.rat_low q) (My.rat_low r)
 refine My.low_unique h.1 h.2.1 ?_
 have e:=h.2.2
 rw[My.rat_self,My.rat_self]at e
 exact e
theorem zjN(q r:Rat):(q.num/My.gc q.num r.den)*(r.num/My.gc r.num q.den)=(q*r).num/\((q.den:Int)/My.gc r.num q.den)*((r.den:Int)/My.gc q.num r.den)=((q*r).den:Int):=by
 have h:=My.times_low (a1:=q.num) (b1:=q.den) (a2:=r.num) (b2:=r.den) (zal q) (zal r) (My.rat_low q) (My.rat_low r)
 refine My.low_unique h.1 h.2.1 ?_
 have e:=h.2.2
 rw[My.rat_self,My.rat_self]at e
 exact e
theorem zpe(q r:Rat):q+r=Rat.divInt (q.num*r.den+r.num*q.den) ((q.den:Int)*r.den):=by
 have h:=Rat.divInt_add_divInt q.num r.num (d₁:=q.den) (d₂:=r.den) (yal (zal q)) (yal (zal r))
 rw[My.rat_self,My.rat_self]at h
 exact h
theorem zoZ(q r:Rat):q*r=Rat.divInt (q.num*r.num) ((q.den:Int)*r.den):=by
 have h:=Rat.divInt_mul_divInt q.num r.num (d₁:=q.den) (d₂:=r.den)
 rw[My.rat_self,My.rat_self]at h
 exact h
theorem SzQ.add{q r:Rat}{n m n' m' k l:Nat}(h:SzQ q n m)(h':SzQ r n' m')(hk:n+m'<=k)(hk':n'+m<=k)(hl:m+m'<=l):SzQ (q+r) (k+1) l:=by
 rw[zpe]
 exact zfr (yaR (zal q) (zal r)) (zjb (yh (zdT h.1 h'.2) hk) (yh (zdT h'.1 h.2) hk')) (yh (zdT h.2 h'.2) hl)
theorem SzQ.mul{q r:Rat}{n m n' m' k l:Nat}(h:SzQ q n m)(h':SzQ r n' m')(hk:n+n'<=k)(hl:m+m'<=l):SzQ (q*r) k l:=by
 rw[zoZ]
 exact zfr (yaR (zal q) (zal r)) (yh (zdT h.1 h'.1) hk) (yh (zdT h.2 h'.2) hl)
theorem SzQ.neg{q:Rat}{n m:Nat}(h:SzQ q n m):SzQ (-q) n m:=⟨by rw[Rat.neg_num];exact yh (ze1 _) h.1,by rw[Rat.neg_den];exact h.2⟩
theorem znd{n m:Nat}(hm:1<=m):SzQ 0 n m:=⟨yh (zbJ (n:=0) (by decide)) (yD _),yh (zbJ (n:=1) (by decide)) hm⟩
def zi9:Sp:=fun vs H Q _=>∃(a b:Addr) (q r:Rat),vs=[.ref a,.ref b]/\IsQ H a q/\IsQ H b r/\OkQ q/\OkQ r/\NewQ H Q (q+r)
def znV:=fun {a b:Addr} {q r:Rat} {H:Hp} {Q:VK} {E:XK} h1 h2 s1 s2 k=>@id (zi9 [.ref a,.ref b] H Q E) ⟨a,b,q,r,rfl,h1,h2,s1,s2,k⟩
def zg0:Sp:=fun vs H Q _=>∃(a b:Addr) (q r:Rat),vs=[.ref a,.ref b]/\IsQ H a q/\IsQ H b r/\OkQ q/\OkQ r/\NewQ H Q (q-r)
def zll:=fun {a b:Addr} {q r:Rat} {H:Hp} {Q:VK} {E:XK} h1 h2 s1 s2 k=>@id (zg0 [.ref a,.ref b] H Q E) ⟨a,b,q,r,rfl,h1,h2,s1,s2,k⟩
def zhf:Sp:=fun vs H Q _=>∃(a b:Addr) (q r:Rat),vs=[.ref a,.ref b]/\IsQ H a q/\IsQ H b r/\OkQ q/\OkQ r/\NewQ H Q (q*r)
def zlv:=fun {a b:Addr} {q r:Rat} {H:Hp} {Q:VK} {E:XK} h1 h2 s1 s2 k=>@id (zhf [.ref a,.ref b] H Q E) ⟨a,b,q,r,rfl,h1,h2,s1,s2,k⟩
theorem zjW(r:Rat):-r.num=(-r).num/\(r.den:Int)=((-r).den:Int):=⟨by rw[Rat.neg_num],by rw[Rat.neg_den]⟩
theorem inv_pos{r:Rat}(h:0<r.num):(r.den:Int)=(r⁻¹).num/\r.num=((r⁻¹).den:Int):=
 My.low_unique h (by rw[My.gc_comm];exact My.rat_low r) (Rat.inv_def r).symm
theorem zot{r:Rat}(h:r.num<0):-(r.den:Int)=(r⁻¹).num/\-r.num=((r⁻¹).den:Int):=
 My.low_unique (by omega) (by
  have g:=My.rat_low r
  have e:My.gc (-(r.den:Int)) (-r.num)=My.gc r.num r.den:=by
   rw[My.gc_comm];unfold My.gc;simp[Int.gcd]
  rw[e];exact g) (by rw[ybr];exact(Rat.inv_def r).symm)
theorem SzQ.inv{r:Rat}{n m:Nat}(h0:r.num≠0)(h:SzQ r n m):SzQ r⁻¹ m n:=by
 rw[Rat.inv_def]
 exact zjq h0 h.2 h.1
def IsQs(H:Hp):List V->List Rat->Prop
 | [],[]=>True
 | v :: vs,q :: qs=>(∃a,v=.ref a/\IsQ H a q)/\IsQs H vs qs
 | _,_=>False
theorem IsQs.same{H H':Hp}(e:Same H H'):∀{vs:List V} {qs:List Rat},IsQs H vs qs->IsQs H' vs qs
 | [],[],_=>trivial
 | _ :: _,_ :: _,⟨⟨a,e1,h⟩,r⟩=>⟨⟨a,e1,h.same e⟩,r.same e⟩
theorem IsQs.length{H:Hp}:∀{vs:List V} {qs:List Rat},IsQs H vs qs->vs.length=qs.length
 | [],[],_=>rfl
 | _ :: _,_ :: _,⟨_,r⟩=>by rw[yax,yax,r.length]
theorem IsQs.app{H:Hp}{a:Addr}{q:Rat}(h:IsQ H a q):∀{vs:List V} {qs:List Rat},IsQs H vs qs->IsQs H (vs++[.ref a]) (qs++[q])
 | [],[],_=>⟨⟨a,rfl,h⟩,trivial⟩
 | _ :: _,_ :: _,⟨x,r⟩=>⟨x,IsQs.app h r⟩
theorem IsQs.get{H:Hp}:∀{vs:List V} {qs:List Rat} {i:Nat} {v:V},IsQs H vs qs->vs[i]?=some v->∃a q,v=.ref a/\qs[i]?=some q/\IsQ H a q
 | _ :: _,_ :: _,0,_,⟨⟨a,e,h⟩,_⟩,rfl=>⟨a,_,e,rfl,h⟩
 | _ :: _,_ :: _,i+1,_,⟨_,r⟩,e=>r.get (i:=i) (by simpa using e)
 | [],[],_,_,_,e=>by simp at e
def zk6(qs:List Rat):Rat:=qs.foldl (·+·) 0
theorem zlq(qs:List Rat)(q:Rat):zk6 (qs++[q])=zk6 qs+q:=by unfold zk6;rw[yaD];rfl
theorem szL{i:Int}{n:Nat}(hn:200<=n)(h1:-1606938044258990275541962092341162602522202993782792835301376<i)(h2:i<1606938044258990275541962092341162602522202993782792835301376):sz i<=n:=yh (sz200 h1 h2) hn
section
variable {σ:St}{H:Hp}{Q:VK}{D:Ends}{ta tb tc te to:TE}{t u:TS}{K:Fg}
def zkP(J:It)(g:TG)(tb:TS):TS:=fun D σ H=>∃W:Nat->Nat->St->Hp->Prop,(∃m,W 0 m σ H)/\∀i m σ H,W i m σ H ->
 (J.stop i H/\D.nx σ H)\/(J.go i H/\∃N:St->Hp->Prop,(∀σ' H',N σ' H'->∃m',m'<m/\W (i+1) m' σ' H')/\∀x H',J.yld i H x H'->g x σ H' fun σ2 H2=>tb { D with nx:=N,ct:=N,bk:=D.nx } σ2 H2)
theorem zqC{wi:TI}{g:TG}{tb:TS}(q:wi σ H fun J H1=>zkP J g tb D σ H1):zpH wi g tb D σ H:=q
def zkI(R:It->Hp->Prop)(vs:List V)(H:Hp):Prop:=∃j:Int,vs=[.int j]/\-(2 ^ 62)<=j/\j<2 ^ 62/\R (Itr 0 j.toNat) H
def zle(R:It->Hp->Prop)(vs:List V)(H:Hp):Prop:=∃i j:Int,vs=[.int i,.int j]/\(-(2 ^ 62)<=i/\i<2 ^ 62/\-(2 ^ 62)<=j/\j<2 ^ 62)/\R (Itr i (j-i).toNat) H
def znb(K:Fg)(R:It->Hp->Prop)(x:V)(H:Hp):Prop:=∃a,x=.ref a/\(∃xs,SqL K H a xs)/\R (Itl K a) H
theorem zpq{tr:TA}{R:It->Hp->Prop}(q:tr σ H (zkI R)):zob tr σ H R:=q
theorem zpM{tr:TA}{R:It->Hp->Prop}(q:tr σ H (zle R)):zoj tr σ H R:=q
theorem zq2{R:It->Hp->Prop}(q:te σ H (znb K R)):zaA K te σ H R:=q
theorem zo6{R:It->Hp->Prop}{j:Int}(h1:-4611686018427387904<=j)(h2:j<4611686018427387904)(q:R (Itr 0 j.toNat) H):zkI R [.int j] H:=⟨j,rfl,h1,h2,q⟩
theorem zoN{R:It->Hp->Prop}{i j:Int}(h0:-4611686018427387904<=i)(h0':i<4611686018427387904)(h1:-4611686018427387904<=j)(h2:j<4611686018427387904)(q:R (Itr i (j-i).toNat) H):zle R [.int i,.int j] H:=⟨i,j,rfl,⟨h0,h0',h1,h2⟩,q⟩
theorem zq8{R:It->Hp->Prop}{a:Addr}{xs:List V}(h:SqL K H a xs)(q:R (Itl K a) H):znb K R (.ref a) H:=⟨a,rfl,⟨xs,h⟩,q⟩
theorem zox{i:Nat}{v:V}{R:St->Hp->Prop}(q:R (σ.set i (some v)) H):zfs i v σ H R:=q
theorem zc0{lo:Int}{n:Nat}{g:TG}{tb:TS}(Pv:Nat->St->Hp->Prop)(h0:Pv 0 σ H)
  (hs:∀i σ H,i<n->Pv i σ H->g (.int (lo+i)) σ H fun σ2 H2=>tb { D with nx:=Pv (i+1),ct:=Pv (i+1),bk:=D.nx } σ2 H2) (hd:∀σ H,Pv n σ H->D.nx σ H):zkP (Itr lo n) g tb D σ H:=zlK Pv h0 hs hd
theorem zdV{a:Addr}{xs:List V}{g:TG}{tb:TS}(Pv:Nat->St->Hp->Prop)(h0:Pv 0 σ H)(hl:∀i σ H,i<=xs.length->Pv i σ H->SqL K H a xs)
  (hs:∀i x σ H,xs[i]?=some x->Pv i σ H->g x σ H fun σ2 H2=>tb { D with nx:=Pv (i+1),ct:=Pv (i+1),bk:=D.nx } σ2 H2) (hd:∀σ H,Pv xs.length σ H->D.nx σ H):zkP (Itl K a) g tb D σ H:=zmM Pv h0 hl hs hd
theorem zrv{T:String}{r:V->List V->Hp->VK->Prop}{tr:TA}(q:to σ H fun x H1=>tyV K T x H1/\tr σ H1 fun xs H2=>r x xs H2 Q):tBM K T r to tr σ H Q:=q
theorem zqR{l:Addr}{xs:List V}{A:Prop}(h:H l=some (.lst xs))(q:A):tyV K "list" (.ref l) H/\A:=⟨.inl ⟨rfl,xs,SqL.of h⟩,q⟩
theorem znk{l:Addr}{xs:List V}{y:V}(h:H l=some (.lst xs))(hl:xs.length<sizeLine)(q:Q .non (upd H l (.lst (xs++[y])))):zb9 (.ref l) [y] H Q:=⟨l,xs,y,rfl,rfl,h,hl,q⟩
theorem zpT{l:Addr}{xs:List V}{k:Int}{j:Nat}{v:V}{R:Hp->Prop}(h:H l=some (.lst xs))(e:ixN xs.length k=some j)(q:R (upd H l (.lst (xs.set j v)))):zgv (.ref l) (.int k) v H R:=⟨l,xs,k,j,rfl,rfl,h,e,q⟩
theorem zmP{a:Addr}{xs:List V}(h:SqL K H a xs)(q:∀l,H l=none->Q (.ref l) (upd H l (.lst xs))):zb7 K [.ref a] H Q:=⟨a,xs,rfl,.inl h,q⟩
theorem zgf{a:Addr}{xs:List V}{i:Int}{v:V}(h:H a=some (.lst xs))(e:atI xs i=some v)(q:Q v H):rIx K (.ref a) (.int i) H Q:=zlc (.of h) e q
def zn8(R:Option Int->Hp->Prop)(x:V)(H:Hp):Prop:=∃i,x=.int i/\R (some i) H
theorem zpB{R:Option Int->Hp->Prop}(q:te σ H (zn8 R)):zod te σ H R:=q
theorem zo2{R:Option Int->Hp->Prop}{i:Int}(q:R (some i) H):zn8 R (.int i) H:=⟨i,rfl,q⟩
theorem zqB{a:Addr}{xs:List V}{lo hi:Option Int}(h:SqL K H a xs)(q:∀p,H p=none->Q (.ref p) (upd H p (.lst (zeE xs lo hi)))):zf0 K (.ref a) lo hi H Q:=⟨a,xs,rfl,h,q⟩
end
theorem Same.fresh{H H':Hp}{l:Addr}(g:Same H H')(h:H' l=none):H l=none:=by
 cases e:H l with
 | none=>rfl
 | some o=>rw[g l o e]at h;cases h
theorem zjw{n:Nat}(h:n<=100000):n<sizeLine:=yak h (by decide)
theorem zcG{n:Nat}(h:n<=100000):n<=sizeLine:=ya8 (zjw h)
def But(l:Addr)(H H':Hp):Prop:=∀b,b≠l->H' b=H b
theorem But.upd{H:Hp}{l:Addr}{o:HO}:But l H (Internal.upd H l o):=fun _ h=>zag h
theorem But.at{l:Addr}{H H':Hp}(g:But l H H'){a:Addr}{o:HO}(h:H a=some o)(n:a≠l):H' a=some o:=by rw[g a n];exact h
theorem But.same{l:Addr}{H0 H H':Hp}(g:But l H H')(e:Same H0 H)(h:H0 l=none):Same H0 H':=fun b o q=>by rw[g b (zao q h)];exact e b o q
def LBut(l:Addr)(H H':Hp):Prop:=But l H H'/\∃xs,H l=some (.lst xs)
theorem LBut.tup{l:Addr}{H H':Hp}(g:LBut l H H'){a:Addr}{xs:List V}(h:H a=some (.tup xs)):H' a=some (.tup xs):=by
 obtain⟨ys,e⟩:=g.2
 exact g.1.at h (zqD h e (by intro z;cases z))
theorem LBut.isQ{l:Addr}{H H':Hp}(g:LBut l H H'){a:Addr}{q:Rat}(h:IsQ H a q):IsQ H' a q:=g.tup h
theorem LBut.isQs{l:Addr}{H H':Hp}(g:LBut l H H'):∀{vs:List V} {qs:List Rat},IsQs H vs qs->IsQs H' vs qs
 | [],[],_=>trivial
 | _ :: _,_ :: _,⟨⟨a,e,h⟩,r⟩=>⟨⟨a,e,g.isQ h⟩,g.isQs r⟩
theorem LBut.lst{l:Addr}{H H':Hp}(g:LBut l H H'){a:Addr}{o:HO}(h:H a=some o)(n:a≠l):H' a=some o:=g.1.at h n
theorem LBut.same{l:Addr}{H0 H H':Hp}(g:LBut l H H')(e:Same H0 H)(h:H0 l=none):Same H0 H':=g.1.same e h
theorem Same.at{H H':Hp}(e:Same H H'){a:Addr}{o:HO}(h:H a=some o):H' a=some o:=e a o h
theorem Same.isQ{H H':Hp}(e:Same H H'){a:Addr}{q:Rat}(h:IsQ H a q):IsQ H' a q:=h.same e
theorem SqL.keep{K:Fg}{H H':Hp}{a:Addr}{xs:List V}(h:SqL K H a xs)(e:Same H H'):SqL K H' a xs:=e.seq h
theorem Same.after{H H1 H2:Hp}(b:Same H1 H2)(a:Same H H1):Same H H2:=a.trans b
theorem Same.none{H H':Hp}{l:Addr}(h:H' l=none)(g:Same H H'):H l=none:=g.fresh h
theorem zpr{H:Hp}{a b:Addr}{o:HO}(h':H b=none)(h:H a=some o):a≠b:=zao h h'
theorem zem{H:Hp}{a b:Addr}{o:HO}(h':H b=none)(h:H a=some o):b≠a:=(zao h h').symm
section
variable {σ:St}{H:Hp}{Q:VK}{D:Ends}{t u:TS}{K:Fg}
theorem zdo{xs:List V}(hl:xs.length<=100000)(q:∀p H',H p=none->Same H H'->H' p=some (.tup xs)->Q (.ref p) H'):zfd Q xs H:=⟨zcG hl,fun p hp=>q p _ hp (Same.new hp _) zaj⟩
theorem zpE{xs:List V}(hl:xs.length<=100000)(q:∀p H',H p=none->Same H H'->H' p=some (.lst xs)->Q (.ref p) H'):znQ Q xs H:=⟨zcG hl,fun p hp=>q p _ hp (Same.new hp _) zaj⟩
theorem zaP{q:Rat}{x y:Int}(e:x=q.num/\y=(q.den:Int))(k:NewQ H Q q):zfd Q [.int x,.int y] H:=NewQ.mk k e
theorem zmm{l:Addr}{xs:List V}{y:V}(h:H l=some (.lst xs))(hl:xs.length<=100000)(q:∀H',LBut l H H'->H' l=some (.lst (xs++[y]))->Q .non H'):zb9 (.ref l) [y] H Q:=
 znk h (zjw hl) (q _ ⟨But.upd,xs,h⟩ zaj)
theorem zdn{l:Addr}{xs:List V}{k:Int}{j:Nat}{v:V}{R:Hp->Prop}(h:H l=some (.lst xs))(e:ixN xs.length k=some j)(q:∀H',LBut l H H'->H' l=some (.lst (xs.set j v))->R H'):zgv (.ref l) (.int k) v H R:=
 zpT h e (q _ ⟨But.upd,xs,h⟩ zaj)
theorem zlH{a:Addr}{xs:List V}(h:SqL K H a xs)(q:∀p H',H p=none->Same H H'->H' p=some (.lst xs)->Q (.ref p) H'):zb7 K [.ref a] H Q:=zmP h fun p hp=>q p _ hp (Same.new hp _) zaj
theorem zqw{a:Addr}{xs:List V}{lo hi:Option Int}(h:SqL K H a xs)(q:∀p H',H p=none->Same H H'->H' p=some (.lst (zeE xs lo hi))->Q (.ref p) H'):zf0 K (.ref a) lo hi H Q:=zqB h fun p hp=>q p _ hp (Same.new hp _) zaj
theorem ziy(i:Nat)(P:V->Hp->Prop)(q:t { D with nx:=fun σ' H'=>∃v,σ'=σ.set i (some v)/\P v H' } σ H)(r:∀v H',P v H'->u D (σ.set i (some v)) H'):zmO t u D σ H:=
 ⟨_,q,fun σ' H' ⟨v,e,p⟩=>by subst e;exact r v H' p⟩
end
theorem zdx{n:Nat}{k:Int}(h0:0<=k)(h:k<n):ixN n k=some k.toNat:=by unfold ixN;rw[if_pos h0,if_pos h]
theorem zau{α:Type}{xs:List α}{k:Int}{v:α}(h0:0<=k)(h:xs[k.toNat]?=some v):atI xs k=some v:=by
 have e:k=(k.toNat:Int):=by omega
 rw[e];exact zU h
section
variable {X:Cx}{pins:List (Addr × Obj)}{σ:St}{H:Hp}{s:Shared}{h':Heap}
theorem Inv.turnedL{t':Nat}{fp:List Addr}(I:Inv X pins σ H s)(k:∀b o,b∉fp->s.heap.get? b=some o->h'.get? b=some o)(f:∀b∈fp,zcV X pins H b):Inv X pins σ H { s with heap:=h',toks:=t' }:=by
 have nit:∀b u,H b=some u->b∉fp:=fun b u e z=>by rw[(f b z).1]at e;cases e
 refine I.step (g':=s.gens) (d':=s.drawn) (ch:=fp) (fun b hb=>⟨(f b hb).2.2.2.1,(f b hb).2.1,(f b hb).2.2.2.2.1,(f b hb).2.2.2.2.2⟩) (fun b o _ _ hc e _=>k b o hc e) (fun b o _ _ hc e _=>⟨o.slots,k b o hc e⟩) (fun _ _ _ _ n=>n)
  (fun b o hc e=>⟨o,k b o hc e⟩) (fun _ _ e=>e) (fun _ _ _ e=>e) (fun b ps e=>⟨#[],by rw[e];simp⟩) (fun m hm=>?_) (fun b u e=>?_) I.bare
 ·obtain⟨o,es,ep,ho,r⟩:=hm
  exact⟨o,es,ep,k _ o (fun z=>(f _ z).2.1 rfl) ho,r⟩
 ·refine(I.hok b u e).stay (fun c v hc q=>k c v ?_ q) (fun _ q=>q) fun _ _ q=>q
  rcases hc with z | z
  ·rw[z];exact nit b u e
  ·exact nit c _ z
theorem Inv.turnedNew{t':Nat}{fp:List Addr}{p:Addr}{o:HO}(I:Inv X pins σ H s)(k:∀b o,b∉fp->s.heap.get? b=some o->h'.get? b=some o)(f:∀b∈fp,zcV X pins H b)(hp:s.heap.objs.size<=p)(new:ObjOk X.prog X.w (upd H p o) h' p o) :
  Inv X pins σ (upd H p o) { s with heap:=h',toks:=t' }:=by
 have nit:∀b u,H b=some u->b∉fp:=fun b u e z=>by rw[(f b z).1]at e;cases e
 have hn:H p=none:=I.hok.fresh hp
 refine I.step (g':=s.gens) (d':=s.drawn) (ch:=fp) (fun b hb=>⟨(f b hb).2.2.2.1,(f b hb).2.1,(f b hb).2.2.2.2.1,(f b hb).2.2.2.2.2⟩) (fun b o _ _ hc e _=>k b o hc e) (fun b o _ _ hc e _=>⟨o.slots,k b o hc e⟩) (fun b u _ e n=>?_)
  (fun b o hc e=>⟨o,k b o hc e⟩) (fun b xs e=>by rw[zag (zao e hn)];exact e) (fun b u v e=>by rw[zag (zao e hn)];exact e) (fun b ps e=>⟨#[],by rw[zag (zao e hn),e];simp⟩) (fun m hm=>?_) (fun b u e=>?_) I.bare
 ·rw[zag (yr (yt (Heap.lt_size e) hp))];exact n
 ·obtain⟨o,es,ep,ho,r⟩:=hm
  exact⟨o,es,ep,k _ o (fun z=>(f _ z).2.1 rfl) ho,r⟩
 ·by_cases hb:b=p
  ·subst hb;rw[zaj]at e;cases e;exact new
  ·rw[zag hb]at e
   refine(I.hok b u e).stay (fun c v hc q=>k c v ?_ q) (fun c q=>by rw[zag (zao q hn)];exact q) fun c xs q=>by rw[zag (zao q hn)];exact q
   rcases hc with z | z
   ·rw[z];exact nit b u e
   ·exact nit c _ z
end
theorem zbH{h:Heap}{a b:Addr}{o o':Obj}{m n:String}(e:h.get? a=some o)(c:o.cls=.type m)(e':h.get? b=some o')(c':o'.cls=.type n)(hc:(m == n)=false):a≠b:=by
 rintro rfl
 rw[e]at e'
 cases e'
 rw[c]at c'
 cases c'
 rw[beq_self_eq_true]at hc
 cases hc
theorem tup2{P:Program}{w:World}{H:Hp}{h:Heap}{p:Addr}{x y:V}{u v:Value}(e:h.get? p=some { cls:=.type "tuple",data:=.seq #[u,v] })(r1:RelV x u)(r2:RelV y v):ObjOk P w H h p (.tup [x,y]):=
 ⟨zcG (by simp),[u,v],.cons r1 (.cons r2 .nil),_,e,rfl,_,rfl⟩
def Itn(K:Fg)(a:Addr):It:=
 ⟨fun i H=>∃xs x,SqL K H a xs/\xs[i]?=some x,fun i H v H'=>∃p x,H p=none/\v=.ref p/\(∀xs,SqL K H a xs->xs[i]?=some x)/\H'=upd H p (.tup [.int i,x]),fun i H=>∃xs,SqL K H a xs/\xs.length<=i⟩
theorem zlV{P:Program}{w:World}{K:Fg}{es:List Expr}{kx:Nat}{tp:Pos}(a e it:Addr)(hne:e≠it):Turn P w K (.Tuple es kx tp) (Itn K a) [e,it] e (fun i h=>(∃old,IsEnum h e it i old)/\h.IsListIter it a i) where
 mem:=by simp
 obj:=fun i h st b hb=>by
  obtain⟨⟨old,h1⟩,o,h2,c,d⟩:=st
  rcases yz.mp hb with z | z
  ·subst z;exact⟨_,h1,fun v z=>by cases z⟩
  ·have e:b=it:=by simpa using z
   subst e
   exact⟨o,h2,fun v z=>by rw[d]at z;cases z⟩
 keep:=fun i h h' st k=>by
  obtain⟨⟨old,h1⟩,h2⟩:=st
  exact⟨⟨old,k e (by simp) _ h1⟩,h2.at fun o q=>k it (by simp) o q⟩
 item:=by
  intro X hP hw hK hc i pins s σ H E I hf st hg
  subst hP hw hK
  obtain⟨⟨old,he⟩,hit⟩:=st
  obtain⟨xs,x,hq,hx⟩:=hg
  obtain⟨its,rv,p,hz⟩:=I.list hq
  obtain⟨u,hu,ru⟩:=rv.get hx
  refine wpAny_pyNext_enum_item he hit p.isList (x:=u) (by simpa using hu) hne fun h1 eo it1 tp1 sz1 k1=>?_
  refine⟨_,rfl,wpAny_letOwnedTupleGo_enum eo fun h2 e2 sb2=>?_⟩
  have hes:e≠s.heap.objs.size:=yr (Heap.lt_size he)
  have sb2':Heap.SameBut e h1 h2:=sb2
  have t2:h2.get? s.heap.objs.size=some { cls:=.type "tuple",data:=.seq #[.int i s.toks,u] }:=(sb2'.2 _ (ya1 hes)).trans tp1
  have k2:∀b o,b∉[e,it]->s.heap.get? b=some o->h2.get? b=some o:=fun b o hb q=>by
   have n1:b≠e:=fun z=>hb (by simp[z])
   have n2:b≠it:=fun z=>hb (by simp[z])
   exact(sb2'.2 b n1).trans (k1 b o n1 n2 q)
  have I2:Inv X pins σ (upd H s.heap.objs.size (.tup [.int i,x])) { s with heap:=h2,toks:=s.toks+1 }:=I.turnedNew k2 hf (ye _) (tup2 t2 ⟨_,rfl⟩ ru)
  have hn:H s.heap.objs.size=none:=I.hok.fresh (ye _)
  refine⟨.ref s.heap.objs.size,_,I2,rfl,⟨_,x,hn,rfl,fun ys hy=>by rw[I.list_inj hy hq];exact hx,rfl⟩,⟨⟨_,e2⟩,it1.at fun o q=>(sb2'.2 it (ya1 hne)).trans q⟩,fun b hb=>?_⟩
  have hbs:b≠s.heap.objs.size:=by
   rcases yz.mp hb with z | z
   ·rw[z];exact hes
   ·have e:b=it:=by simpa using z
    subst e
    obtain⟨o,q,_⟩:=hit
    exact yr (Heap.lt_size q)
  rw[zag hbs]
  exact(hf b hb).1
 done:=by
  intro X hP hw hK hc i pins s σ H E I hf st hg
  subst hP hw hK
  obtain⟨⟨old,he⟩,hit⟩:=st
  obtain⟨xs,hq,hx⟩:=hg
  obtain⟨its,rv,p,hz⟩:=I.list hq
  have hl:=rv.length
  refine wpAny_pyNext_enum_end (I.ok.hd hc) he hit p.isList (by simp;omega) fun h1 eb=>⟨rfl,I.turnedL (t':=s.toks) (fp:=[e,it]) (fun b o hb q=>eb b o (fun z=>hb (by simp[z])) q) hf⟩
 self:=fun _ _ _ _ _ st h=>by
  obtain⟨⟨old,he⟩,_⟩:=st
  exact wpAny_pyIter_enum he h
def Itz(K:Fg)(a b:Addr):It:=
 ⟨fun i H=>∃xs ys x y,SqL K H a xs/\SqL K H b ys/\xs[i]?=some x/\ys[i]?=some y,fun i H v H'=>∃p x y,H p=none/\v=.ref p/\(∀xs,SqL K H a xs->xs[i]?=some x)/\(∀ys,SqL K H b ys->ys[i]?=some y)/\H'=upd H p (.tup [x,y]),
  fun i H=>∃xs ys,SqL K H a xs/\SqL K H b ys/\(xs.length<=i\/ys.length<=i)⟩
theorem ziY{h:Heap}{z TI TO i1 i2 a b:Addr}{f0 x1 y1 x2 y2:Value}{k1 k2:Nat}{xs ys:Array Value}(hz:IsZip h z TI TO f0)(hTI:IsPair h TI x1 y1)(hTO:IsPair h TO x2 y2)(h1:h.IsListIter i1 a k1)(h2:h.IsListIter i2 b k2)
  (l1:h.IsList a xs) (l2:h.IsList b ys) (nT:TI≠TO) (ni:i1≠i2):ZipApart z TI TO i1 i2 a b:=by
 obtain⟨o1,e1,c1,_⟩:=h1
 obtain⟨o2,e2,c2,_⟩:=h2
 obtain⟨m1,g1,d1,_⟩:=l1
 obtain⟨m2,g2,d2,_⟩:=l2
 exact⟨zbH hTI rfl hz rfl (by decide),zbH hTO rfl hz rfl (by decide),zbH e1 c1 hz rfl (by decide),zbH e2 c2 hz rfl (by decide),nT,zbH hTI rfl e1 c1 (by decide),zbH hTI rfl e2 c2 (by decide),zbH hTO rfl e1 c1 (by decide),zbH hTO rfl e2 c2 (by decide),ni,zbH g1 d1 hz rfl (by decide),zbH g1 d1 hTO rfl (by decide),zbH g1 d1 e1 c1 (by decide),zbH g1 d1 e2 c2 (by decide),zbH g2 d2 hz rfl (by decide),zbH g2 d2 hTO rfl (by decide),zbH g2 d2 e1 c1 (by decide),zbH g2 d2 e2 c2 (by decide)⟩
theorem znE{P:Program}{w:World}{K:Fg}{es:List Expr}{kx:Nat}{tp:Pos}(a b z TI TO i1 i2:Addr)(nT:TI≠TO)(ni:i1≠i2):Turn P w K (.Tuple es kx tp) (Itz K a b) [z,TI,TO,i1,i2] z
  (fun i h=>IsZip h z TI TO .none/\IsPair h TI (.ref i1) (.ref i2)/\(∃x y,IsPair h TO x y)/\h.IsListIter i1 a i/\h.IsListIter i2 b i) where
 mem:=by simp
 obj:=fun i h st c hb=>by
  obtain⟨hz,hTI,⟨x,y,hTO⟩,⟨o1,e1,c1,d1⟩,⟨o2,e2,c2,d2⟩⟩:=st
  simp only[yz,yas,or_false]at hb
  rcases hb with rfl | rfl | rfl | rfl | rfl
  ·exact⟨_,hz,fun v q=>by cases q⟩
  ·exact⟨_,hTI,fun v q=>by cases q⟩
  ·exact⟨_,hTO,fun v q=>by cases q⟩
  ·exact⟨_,e1,fun v q=>by rw[d1]at q;cases q⟩
  ·exact⟨_,e2,fun v q=>by rw[d2]at q;cases q⟩
 keep:=fun i h h' st k=>by
  obtain⟨hz,hTI,⟨x,y,hTO⟩,h1,h2⟩:=st
  exact⟨k z (by simp) _ hz,k TI (by simp) _ hTI,⟨x,y,k TO (by simp) _ hTO⟩,h1.at fun o q=>k i1 (by simp) o q,h2.at fun o q=>k i2 (by simp) o q⟩
 item:=by
  intro X hP hw hK hc i pins s σ H E I hf st hg
  subst hP hw hK
  obtain⟨hz,hTI,⟨x0,y0,hTO⟩,h1,h2⟩:=st
  obtain⟨xs,ys,x,y,hq,hq',hx,hy⟩:=hg
  obtain⟨its,rv,p,hsz⟩:=I.list hq
  obtain⟨jts,rv',p',hsz'⟩:=I.list hq'
  obtain⟨u,hu,ru⟩:=rv.get hx
  obtain⟨u',hu',ru'⟩:=rv'.get hy
  have A:=ziY hz hTI hTO h1 h2 p.isList p'.isList nT ni
  refine wpAny_pyNext_zip_item A hz hTI hTO h1 h2 p.isList p'.isList (x:=u) (y:=u') (by simpa using hu) (by simpa using hu') fun g1 z1 to1 j1 j2 t1 sz1 k1=>?_
  refine⟨_,rfl,wpAny_letOwnedTupleGo_zip z1 fun g2 z2 sb2=>?_⟩
  have sb2':Heap.SameBut z g1 g2:=sb2
  have hzs:z≠s.heap.objs.size:=yr (Heap.lt_size hz)
  have t2:g2.get? s.heap.objs.size=some { cls:=.type "tuple",data:=.seq #[u,u'] }:=(sb2'.2 _ (ya1 hzs)).trans t1
  have k2:∀c o,c∉[z,TI,TO,i1,i2]->s.heap.get? c=some o->g2.get? c=some o:=fun c o hb q=>by
   have n1:c≠z:=fun z=>hb (by simp[z])
   exact(sb2'.2 c n1).trans (k1 c o n1 (fun z=>hb (by simp[z])) (fun z=>hb (by simp[z])) (fun z=>hb (by simp[z])) q)
  have I2:Inv X pins σ (upd H s.heap.objs.size (.tup [x,y])) { s with heap:=g2,toks:=s.toks }:=I.turnedNew k2 hf (ye _) (tup2 t2 ru ru')
  have hn:H s.heap.objs.size=none:=I.hok.fresh (ye _)
  refine⟨.ref s.heap.objs.size,_,I2,rfl,⟨_,x,y,hn,rfl,fun ys hy'=>by rw[I.list_inj hy' hq];exact hx,fun ys hy'=>by rw[I.list_inj hy' hq'];exact hy,rfl⟩,
   ⟨z2,(sb2'.2 TI A.TIz).trans (k1 TI _ A.TIz A.TITO A.TIi1 A.TIi2 hTI),⟨_,_,(sb2'.2 TO A.TOz).trans to1⟩,j1.at fun o q=>(sb2'.2 i1 A.i1z).trans q,j2.at fun o q=>(sb2'.2 i2 A.i2z).trans q⟩,fun c hb=>?_⟩
  have hbs:c≠s.heap.objs.size:=by
   simp only[yz,yas,or_false]at hb
   obtain⟨o1,e1,_⟩:=h1
   obtain⟨o2,e2,_⟩:=h2
   rcases hb with rfl | rfl | rfl | rfl | rfl
   ·exact hzs
   ·exact yr (Heap.lt_size hTI)
   ·exact yr (Heap.lt_size hTO)
   ·exact yr (Heap.lt_size e1)
   ·exact yr (Heap.lt_size e2)
  rw[zag hbs]
  exact(hf c hb).1
 done:=by
  intro X hP hw hK hc i pins s σ H E I hf st hg
  subst hP hw hK
  obtain⟨hz,hTI,⟨x0,y0,hTO⟩,h1,h2⟩:=st
  obtain⟨xs,ys,hq,hq',hx⟩:=hg
  obtain⟨its,rv,p,hsz⟩:=I.list hq
  obtain⟨jts,rv',p',hsz'⟩:=I.list hq'
  have hl:=rv.length
  have hl':=rv'.length
  have A:=ziY hz hTI hTO h1 h2 p.isList p'.isList nT ni
  refine wpAny_pyNext_zip_end (I.ok.hd hc) A hz hTI hTO h1 h2 p.isList p'.isList ?_ fun g1 k1=>⟨rfl,I.turnedL (t':=s.toks) (fp:=[z,TI,TO,i1,i2]) (fun c o hb q=>k1 c o (fun z=>hb (by simp[z])) (fun z=>hb (by simp[z])) (fun z=>hb (by simp[z])) (fun z=>hb (by simp[z])) q) hf⟩
  rcases hx with q | q
  ·exact .inl (by simp;omega)
  ·exact .inr (by simp;omega)
 self:=fun _ _ _ _ _ st h=>wpAny_pyIter_zip st.1 h
section
variable {X:Cx}{es:List Expr}{kx:Nat}{tp:Pos}
def zkV(K:Fg)(R:It->Hp->Prop)(vs:List V)(H:Hp):Prop:=∃a,vs=[.ref a]/\(∃xs,SqL K H a xs)/\R (Itn K a) H
def zm6(K:Fg)(R:It->Hp->Prop)(vs:List V)(H:Hp):Prop:=∃a b,vs=[.ref a,.ref b]/\(∃xs,SqL K H a xs)/\(∃ys,SqL K H b ys)/\R (Itz K a b) H
abbrev zcd(K:Fg)(ta:TA):TI:=fun σ H R=>ta σ H (zkV K R)
abbrev zna(K:Fg)(ta:TA):TI:=fun σ H R=>ta σ H (zm6 K R)
theorem zbc{a:Expr}{ta:TA}{p pos:Pos}(hg:Gl X "enumerate")(hm:X.mg "enumerate" = none)(ha:PA X [a] ta)(hs:autoParam (starEach [a] X.env=[(false,eval a X.env)]) Internal.aut2._auto_1):PI X (.Tuple es kx tp) (.Call (.Name "enumerate" p) [a] [] pos) (zcd X.K ta):=by
 intro pins s σ H R I h
 refine Call_ (zcC I hg hm boot_enumerate (yae (thn (ha pos pins s σ H _ I h) fun us s1 ⟨vs,H1,I1,r1,q1⟩=>?_) hs rfl))
 obtain⟨l,e,⟨xs,hq⟩,q⟩:=q1
 subst e
 obtain⟨u,rfl,r⟩:=vals1 r1
 cases r
 obtain⟨its,rv,pl,hz⟩:=I1.list hq
 refine call_enumerate_list pl.isList fun h1 e1 i1 sz1 k1=>?_
 refine wpAny_pyIter_enum e1 ?_
 have I2:Inv X pins σ H1 { s1 with heap:=h1,toks:=s1.toks }:=I1.kept k1
 refine⟨s1.heap.objs.size+1,[s1.heap.objs.size+1,s1.heap.objs.size],_,_,H1,rfl,I2,zlV l _ _ (Nat.succ_ne_self _),⟨⟨_,e1⟩,i1⟩,fun b hb=>?_,q⟩
 have hb':s1.heap.objs.size<=b:=by
  simp only[yz,yas,or_false]at hb
  rcases hb with rfl | rfl<;>omega
 exact I1.fpOk hb' (I1.hok.fresh hb')
theorem zl2{a b:Expr}{ta:TA}{p pos:Pos}(hg:Gl X "zip")(hm:X.mg "zip" = none)(ha:PA X [a,b] ta)(hs:autoParam (starEach [a,b] X.env=[(false,eval a X.env),(false,eval b X.env)]) Internal.aut2._auto_1)(hs2:autoParam (starEach [b] X.env=[(false,eval b X.env)]) Internal.aut2._auto_1) :
  PI X (.Tuple es kx tp) (.Call (.Name "zip" p) [a,b] [] pos) (zna X.K ta):=by
 intro pins s σ H R I h
 refine Call_ (zcC I hg hm boot_zip (yae (thn (ha pos pins s σ H _ I h) fun us s1 ⟨vs,H1,I1,r1,q1⟩=>?_) (by rw[hs,hs2]) (by rw[hs2];rfl)))
 obtain⟨l,m,e,⟨xs,hq⟩,⟨ys,hq'⟩,q⟩:=q1
 subst e
 obtain⟨u,u',rfl,r,r'⟩:=vals2 r1
 cases r
 cases r'
 obtain⟨its,rv,pl,hz⟩:=I1.list hq
 obtain⟨jts,rv',pl',hz'⟩:=I1.list hq'
 refine call_zip_2 pl.isList pl'.isList fun h1 z1 ti to i1 i2 sz1 k1=>?_
 refine wpAny_pyIter_zip z1 ?_
 have I2:Inv X pins σ H1 { s1 with heap:=h1,toks:=s1.toks }:=I1.kept k1
 refine⟨s1.heap.objs.size+4,[s1.heap.objs.size+4,s1.heap.objs.size+2,s1.heap.objs.size+3,s1.heap.objs.size,s1.heap.objs.size+1],_,_,H1,rfl,I2,znE l m _ _ _ _ _ (yr (yaG _)) (yr (yaG _)),⟨z1,ti,⟨_,_,to⟩,i1,i2⟩,fun b hb=>?_,q⟩
 have hb':s1.heap.objs.size<=b:=by
  simp only[yz,yas,or_false]at hb
  rcases hb with rfl | rfl | rfl | rfl | rfl<;>omega
 exact I1.fpOk hb' (I1.hok.fresh hb')
end
section
variable {X:Cx}
theorem Inv.walk{pins:List (Addr × Obj)}{σ:St}{H:Hp}{s:Shared}{a:Addr}{xs:List V}(I:Inv X pins σ H s)(hq:SqL X.K H a xs):∃its:List Value,Vals xs its/\s.heap.IsList a its.toArray/\its.length=xs.length/\a<s.heap.objs.size:=by
 obtain⟨its,rv,pl,hz⟩:=I.list hq
 obtain⟨o,e,_⟩:=id pl.isList
 exact⟨its,rv,pl.isList,rv.length.symm,Heap.lt_size e⟩
def zaH(ns:List Int):Int:=ns.foldl (·+·) 0
theorem zhk(ns:List Int)(n:Int):zaH (ns++[n])=zaH ns+n:=by unfold zaH;rw[yaD];rfl
theorem zfE(ns:List Int):∀j,j<=ns.length->preSum (fun i=>ns.getD i 0) j=zaH (ns.take j)
 | 0,_=>rfl
 | j+1,h=>by
  have hj:j<ns.length:=by omega
  rw[preSum,zfE ns j (by omega),ybg hj,zhk]
  simp[List.getD,hj]
def zfY(K:Fg):List V->Hp->VK->Prop:=fun xs H Q=>∃a ns,xs=[.ref a]/\SqL K H a (List.map V.int ns)/\Q (.int (zaH ns)) H
theorem ziQ{ns:List Int}{its:List Value}{i:Nat}{v:Value}(rv:Vals (ns.map V.int) its)(h:its.toArray[i]?=some v):∃t,v=.int (ns.getD i 0) t:=by
 have hl:=rv.length
 rw[yc]at hl
 have hi:i<ns.length:=by
  have:=(Array.getElem?_eq_some_iff.mp h).1
  simp at this;omega
 obtain⟨u,hu,r⟩:=rv.get (show(ns.map V.int)[i]?=some (.int (ns.getD i 0)) by simp[List.getD,hi])
 have:v=u:=by
  have h':its[i]?=some v:=by simpa using h
  rw[hu]at h';exact(yp h').symm
 obtain⟨t,rfl⟩:=r
 exact⟨t,this⟩
theorem zd3(hc:X.calm=true):CallR X (.builtin "sum") (zfY X.K):=by
 intro pins s σ H xs us Q I r h
 obtain⟨a,ns,rfl,hq,q⟩:=h
 obtain⟨u,rfl,r1⟩:=vals1 r
 cases r1
 obtain⟨its,rv,pl,hl,hlt⟩:=I.walk hq
 refine call_sum_walkAnyS (wpAny_pyIter_list pl ?_)
 have hne:a≠s.heap.objs.size:=yr hlt
 refine⟨_,_,_,_,_,_,_,fun i=>ns.getD i 0,rfl,(Walks.list (prog:=X.prog) (w:=X.w) (A:=X.A.in1) (I.ok.hd hc) s.heap.objs.size a hne its.toArray).toS,⟨⟨_,Heap.get?_push_size _ rfl,rfl,rfl⟩,pl.at fun o e=>Heap.get?_push_of_some _ e⟩,fun b hb=>?_,fun i v hv=>ziQ rv hv,fun s' t' hm=>?_⟩
 ·rw[Heap.size_push]
  simp only[yz,yas,or_false]at hb
  rcases hb with rfl | rfl
  ·exact yaG _
  ·exact ybb hlt
 ·have hn:(its.toArray).size=ns.length:=by rw[yc]at hl;simpa using hl
  rw[hn,zfE ns _ (ye _),yF]
  have hg:s'.gens=s.gens:=by have:=hm.gens;first | exact this | exact this.symm
  have hd:=hm.drawn
  have ho:=hm.os
  have I1:Inv X pins σ H { s with heap:=s'.heap,toks:=s'.toks }:=I.kept fun b o e=>hm.heap b o (fun z=>by
   simp only[yz,yas,or_false]at z
   subst z
   exact absurd (Heap.lt_size e) (yQ _)) (Heap.get?_push_of_some _ e)
  have e:({ s with heap:=s'.heap,toks:=s'.toks }:Shared)=s':=by
   cases s';cases s
   simp only at hg hd ho
   subst hg hd ho;rfl
  rw[e]at I1
  exact⟨.int (zaH ns),H,I1,⟨t',rfl⟩,q⟩
end
def zra(er:Addr)(s:Shared):Prop:=∃o,s.heap.objs[er]?=some o/\o.dict=none
set_option genInjectivity false in
set_option genSizeOf false in
structure Fly(P:Program)(w:World)(outer:List Env)(H:Hp)(s:Shared)(H':Hp)(er C t:Addr)(B:Heap)(s':Shared):Prop where
 os:s'.os=s.os
 bare:AllBare s'.gens
 un:Un (frs outer) [] H H' s.heap s'.heap
 hok:HOk P w H' s'.heap
 fly:Heap.FlyingW B outer er (.ref C) (.ref t) s'.heap
 old:∀b o,s.heap.get? b=some o->H b=none->b∉frs outer->B.get? b=some o
 has:∀b o,s.heap.get? b=some o->b∉frs outer->∃u,B.get? b=some u
 trk:∀b o u,H' b=some o->s'.heap.get? b=some u->B.get? b=some u
 nod:zra er s'
def CXF(P:Program)(w:World):CXT:=fun outer H s E e s'=>∃er C t B H',e=.ref er/\Fly P w outer H s H' er C t B s'/\E (.ref C) none H'
theorem zt{P:Program}{w:World}:NoX (CXF P w):=fun _ _ _ _ _ ⟨_,_,_,_,_,_,_,h⟩=>h
section
variable {P:Program}{w:World}{outer:List Env}{H H':Hp}{s s':Shared}{er C t:Addr}{B h:Heap}
def zk4(er C:Addr)(h:Heap):Prop:=∃oe:Obj,PySem.W.InstAt h er oe C none
def zqT(er C:Addr):HO:=.ext (zk4 er C)
end
def bmV:List Value:=[.type "ValueError",.type "Exception",.type "BaseException",.type "object"]
theorem zmy{prog:Program}{w:World}{A:Around}{E:Value->Shared->Prop}{s:Shared}{K:Fg}{er C:Addr}{oe:Obj}{Q:Option Value->Shared->Prop}
  (ga:PySem.W.findIn K (.ref C) "__getattribute__" = some (some (.builtin "BaseException.__getattribute__"))) (gn:PySem.W.findIn K (.ref C) "__getattr__" = some none)
  (hf:PySem.W.findObj K C none "__class__" = some (.bind (.builtin "getset_descriptor.__get__") (.builtin "object.__class__"))) (mo:PySem.W.mroIn K C (.type "object")=some true) (be:PySem.W.mroIn K C (.type "BaseException")=some true)
  (X:K.In s.heap) (i:PySem.W.InstAt s.heap er oe C none) (q:Q (some (.ref C)) { s with toks:=s.toks+1 }):wpAny (model prog w) A (getAttr? (.ref er) "__class__") Q E s:=by
 obtain⟨hh,g,d,t,os⟩:=s
 have L0:=i.type (M:=model prog w)
 have L1:=PySem.W.looks_findIn (M:=model prog w) X ga
 have Internal':=PySem.W.looks_findIn (M:=model prog w) X gn
 have L3:=PySem.W.looks_find (M:=model prog w) X i hf
 have L4:=PySem.W.looks_mroIn (M:=model prog w) X be
 have f3:=PySem.F.attr_ValueError.ga.bind (.ref er)
 unfold getAttr? getAttrBy? getAttrBy
 refine wpAny_bind (wpAny_mkText (wpAny_bind (wpAny_attempt (wpAny_holding (wpAny_bind (L0.at (wpAny_bind (L1.at ?_))))))))
 show wpAny _ _ (getAttrByItsOwn _ _ _ _ _ _) _ _ _
 unfold getAttrByItsOwn hookBefore
 refine wpAny_bind (Internal'.at ?_)
 refine wpAny_bind (wpAny_attempt (wpAny_holding ?_))
 show wpAny _ _ (boundAndCalled _ _ _) _ _ _
 unfold boundAndCalled
 rw[f3]
 refine wpAny_bind (wpAny_pure ?_)
 refine wpAny_call (codeAny_call_builtin PySem.F.attr_ValueError.ga.plain PySem.F.entry_bexc_ga ?_)
 have hk:builtinKind "BaseException.__getattribute__" = some .slot:=by decide +kernel
 have hsp:splitId "BaseException.__getattribute__" = some ("BaseException", "__getattribute__"):=by decide +kernel
 simp only[checkBuiltinCall,hk,hsp]
 unfold isInstance
 refine wpAny_bind (wpAny_bind (L0.at (L4.at ?_)))
 simp only[Bool.not_true,ybq,if_false]
 have ha:=PySem.F.args_bexc_ga (.ref er) (.str "__class__" t)
 unfold argsOk at ha
 refine wpAny_of_eq (a:=()) ha ?_
 show wpAny _ _ (Builtin.«object.__getattribute__» _) _ _ _
 unfold Builtin.«object.__getattribute__»
 refine wpAny_bind (wpAny_pure ?_)
 refine wpAny_bind (wpAny_pure ?_)
 refine wpAny_bind (L0.at ?_)
 refine wpAny_bind (L3.at ?_)
 show wpAny _ _ (Builtin.ObjectAttr.bindTo _ _ _ _) _ _ _
 unfold Builtin.ObjectAttr.bindTo
 refine wpAny_bind (wpAny_holding (wpAny_call (PySem.W.class_get X i mo ?_)))
 exact wpAny_pure (PySem.W.handed_on rfl (wpAny_pure q))
def zeH(K:Fg)(C:Addr):Bool:=PySem.W.excIn K C bmV "ValueError.__new__" && (PySem.W.findIn K (.ref C) "__getattribute__" == some (some (.builtin "BaseException.__getattribute__")))&&(PySem.W.findIn K (.ref C) "__getattr__" == some none)&&(PySem.W.mroIn K C (.type "BaseException") == some true)&&(PySem.W.clsIn K C).isSome&&(PySem.W.findIn K (.ref C) "__class__" == some (some (.builtin "object.__class__"))) &&
 (PySem.W.specialIn K (.builtin "object.__class__") "__get__" == some (some (.builtin "getset_descriptor.__get__")))&&(PySem.W.takesIn K (.builtin "object.__class__") == some true)&&(PySem.W.mroIn K C (.type "object") == some true)
theorem znv{K:Fg}{er C:Addr}(h:zeH K C=true):PySem.W.KitX K (.ref er) (.ref C) (zk4 er C):=by
 unfold zeH at h
 simp only[y3,beq_iff_eq]at h
 obtain⟨⟨⟨⟨⟨⟨⟨⟨_,ga⟩,gn⟩,be⟩,cl⟩,fa⟩,sn⟩,tk⟩,mo⟩:=h
 obtain⟨cd,hc⟩:=ya9.mp cl
 have there:∃o:Obj,K.lookup C=some o/\o.data=.cls cd:=by
  unfold PySem.W.clsIn at hc
  split at hc
  ·rename_i lk;cases hc;exact⟨_,lk,rfl⟩
  ·cases hc
 obtain⟨o,lk,dt⟩:=there
 refine⟨fun M h _ ⟨oe,i⟩=>i.type,fun M h X _ A Q E s k q=>?_,fun h tp dd its n sl X e=>?_,fun {prog w A E Q s} X ⟨oe,i⟩ q=>?_⟩
 ·have g:=k _ _ (X _ _ lk)
  obtain⟨oc,od,oda,osl⟩:=o
  simp only at dt
  subst dt
  unfold isType loadHead
  exact wpAny_bind (wpAny_loadPart g (wpAny_pure q))
 ·rw[Bool.eq_false_iff]
  intro z
  have ec:C=tp:=Value.ref.inj (beq_iff_eq.mp z)
  subst ec
  have g:=X _ _ lk
  rw[e]at g;cases g;cases dt
 ·have hf:PySem.W.findObj K C none "__class__" = some (.bind (.builtin "getset_descriptor.__get__") (.builtin "object.__class__")):=by
   unfold PySem.W.findObj
   rw[hc,Option.bind_some,fa,Option.bind_some]
   simp[sn,tk]
  exact zmy ga gn hf mo be X i q
abbrev Cx.inH(X:Cx)(er:Addr):Cx:={ X with A:=X.A.mark (some (.ref er)),calm:=false,xe:=fun _ _=>False }
section
variable {X:Cx}{pins:List (Addr × Obj)}{σ:St}{H H':Hp}{s s':Shared}
def Ends.gone(D:Ends)(i:Nat):Ends:=⟨fun σ H=>D.nx (σ.set i none) H,D.rt,fun σ H=>D.bk (σ.set i none) H,fun σ H=>D.ct (σ.set i none) H⟩
end
def zcX(K:Fg):List V->Hp->VK->Prop:=fun xs H Q=>(∃er C c cv b,xs=[.ref er,c]/\RelV c cv/\H er=some (zqT er C)/\zeH K C=true/\PySem.W.kitOne K (.ref C) cv=some b/\Q (.bl b) H)\/zeA K xs H Q
theorem zdq{X:Cx}:CallR X (.builtin "isinstance") (zcX X.K):=by
 refine CallR.or ?_ zjQ
 intro pins s σ H xs us Q I r h
 obtain⟨er,C,c,cv,b,rfl,rc,he,ok,hk,q⟩:=h
 obtain⟨u,w',rfl,r1,r2⟩:=vals2 r
 obtain rfl:u=Value.ref er:=r1
 have ie:zk4 er C s.heap:=(I.hok er _ he).1
 have ec:w'=cv:=by
  cases c with
  | ty n=>exact(show w'=_ from r2).trans (show cv=_ from rc).symm
  | ref a=>exact(show w'=_ from r2).trans (show cv=_ from rc).symm
  | non=>exact(show w'=_ from r2).trans (show cv=_ from rc).symm
  | bl b=>exact(show w'=_ from r2).trans (show cv=_ from rc).symm
  | _=>obtain⟨_,rfl⟩:=rc;simp[PySem.W.kitOne,PySem.W.kitCls]at hk
 subst ec
 exact yZ (znv ok) I.kIn ie hk (by intro z;cases z) fun tk=>⟨.bl b,H,I.tok tk,rfl,q⟩
theorem zh8{K:Fg}{xs:List V}{H:Hp}{Q:VK}(q:zeA K xs H Q):zcX K xs H Q:=.inr q
theorem ziw{K:Fg}{D:Addr}(h:PySem.W.hasDictIn K D=true):(PySem.W.clsIn K D).isSome=true:=by
 obtain⟨cd,e,_⟩:=PySem.W.any_some h
 rw[e];rfl
theorem zjo{K:Fg}{C:Addr}(x:PySem.W.excIn K C [.type "ValueError",.type "Exception",.type "BaseException",.type "object"] "ValueError.__new__" = true)(ga:PySem.W.findIn K (.ref C) "__getattribute__" = some (some (.builtin "BaseException.__getattribute__")))(gn:PySem.W.findIn K (.ref C) "__getattr__" = some none)(be:PySem.W.mroIn K C (.type "BaseException")=some true)(hd:PySem.W.hasDictIn K C=true)
  (fa:PySem.W.findIn K (.ref C) "__class__" = some (some (.builtin "object.__class__"))) (sn:PySem.W.specialIn K (.builtin "object.__class__") "__get__" = some (some (.builtin "getset_descriptor.__get__"))) (tk:PySem.W.takesIn K (.builtin "object.__class__")=some true)
  (mo:PySem.W.mroIn K C (.type "object")=some true):zeH K C=true:=by
 unfold zeH bmV
 rw[x,ga,gn,be,ziw hd,fa,sn,tk,mo];simp
theorem zk2{K:Fg}{t:Value}{D:Addr}{b:Bool}(hd:PySem.W.hasDictIn K D=true)(ht:PySem.W.typeIn K (.ref D)=some (.type "type"))(hs:PySem.W.subIn K t (.ref D)=some b):PySem.W.kitCls K t (.ref D)=some b:=by
 unfold PySem.W.kitCls
 simp only
 rw[ziw hd,ht,if_pos (by simp)];exact hs
theorem zl6{K:Fg}{C D:Addr}{b:Bool}(h:C≠D)(hd:PySem.W.hasDictIn K D=true)(ht:PySem.W.typeIn K (.ref D)=some (.type "type"))(hs:PySem.W.subIn K (.ref C) (.ref D)=some b):PySem.W.kitOne K (.ref C) (.ref D)=some b:=by
 unfold PySem.W.kitOne
 rw[if_neg (by intro z;exact h (Value.ref.inj (beq_iff_eq.mp z)))]
 exact zk2 hd ht hs
theorem zji{K:Fg}{C:Addr}:PySem.W.kitOne K (.ref C) (.ref C)=some true:=by
 unfold PySem.W.kitOne
 rw[if_pos (by simp)]
section
variable {X:Cx}
theorem zfk:zjn X (zet X.K):=by
 intro pins s σ H x y v u Q I rx ry h
 obtain⟨p,xs,i,z,rfl,rfl,hq,he,q⟩:=h
 cases rx
 obtain⟨t,rfl⟩:=ry
 obtain⟨its,r,pl,hz⟩:=I.list hq
 obtain⟨j,h1,h2,h3,h4,h5⟩:=zfm he
 obtain⟨w,ew,rw'⟩:=r.get h2
 have hl:=r.length
 have hn:=line63
 have fin:EP X pins σ Q w s:=⟨z,H,I,rw',q⟩
 by_cases h0:0<=i
 ·have hj:i.toNat=j:=by
   rw[seqIndex_of h0 h5]at h1
   exact yp h1
  exact wpAny_getItem_list pl.isList h0 (by omega) (by rw[hj];simpa using ew) fin
 ·have hj:(i+(its.toArray.size:Int)).toNat=j:=by
   rw[seqIndex_neg (by omega) h4]at h1
   rw[yn,<- hl]
   exact yp h1
  exact wpAny_getItem_list_neg pl.isList (by omega) (by rw[yn]<;>omega) (by omega) (by rw[hj];simpa using ew) fin
end
def Src(J:It)(P:Hp->Prop)(n:Nat)(Y:Nat->V->Hp->Prop):Prop:=
 (∀i H,P H->i<n->J.go i H)/\(∀H,P H->J.stop n H)/\∀i H x H',P H->i<n->J.yld i H x H'->Same H H'/\Y i x H'
theorem zC{α:Type}{xs:List α}{i:Nat}(h:i<xs.length):∃x,xs[i]?=some x:=⟨xs[i],by simp[h]⟩
theorem zaq{K:Fg}{a:Addr}{xs:List V}:Src (Itl K a) (fun H=>SqL K H a xs) xs.length (fun i x _=>xs[i]?=some x):=
 ⟨fun i H h hi=>by obtain⟨x,hx⟩:=zC hi;exact⟨xs,x,h,hx⟩,fun H h=>⟨xs,h,ye _⟩,fun i H x H' h hi ⟨q,r⟩=>by subst q;exact⟨Same.refl _,r xs h⟩⟩
theorem zbS{lo:Int}{n:Nat}:Src (Itr lo n) (fun _=>True) n (fun i x _=>x=.int (lo+i)):=
 ⟨fun i H e hi=>hi,fun H e=>ye _,fun i H x H' e hi ⟨q,r⟩=>by subst q;exact⟨Same.refl _,r⟩⟩
theorem zaV{K:Fg}{a:Addr}{xs:List V}:Src (Itn K a) (fun H=>SqL K H a xs) xs.length (fun i x H=>∃p v,x=.ref p/\xs[i]?=some v/\H p=some (.tup [.int i,v])):=
 ⟨fun i H h hi=>by obtain⟨x,hx⟩:=zC hi;exact⟨xs,x,h,hx⟩,fun H h=>⟨xs,h,ye _⟩,fun i H x H' h hi ⟨p,v,hp,q,r,z⟩=>by subst z;exact⟨Same.new hp _,p,v,q,r xs h,zaj⟩⟩
theorem zka{K:Fg}{a b:Addr}{xs ys:List V}:Src (Itz K a b) (fun H=>SqL K H a xs/\SqL K H b ys) (min xs.length ys.length) (fun i x H=>∃p v w,x=.ref p/\xs[i]?=some v/\ys[i]?=some w/\H p=some (.tup [v,w])):=
 ⟨fun i H h hi=>by
  obtain⟨x,hx⟩:=zC (show i<xs.length by omega)
  obtain⟨y,hy⟩:=zC (show i<ys.length by omega)
  exact⟨xs,ys,x,y,h.1,h.2,hx,hy⟩,fun H h=>⟨xs,ys,h.1,h.2,by omega⟩,fun i H x H' h hi ⟨p,v,w,hp,q,r,r',z⟩=>by subst z;exact⟨Same.new hp _,p,v,w,q,r xs h.1,r' ys h.2,zaj⟩⟩
section
variable {σ:St}{H:Hp}{Q:VK}{D:Ends}{ta tb tc te to ti:TE}{t u:TS}{K:Fg}
theorem zdQ{J:It}{P:Hp->Prop}{n:Nat}{Y:Nat->V->Hp->Prop}{g:TG}{tb:TS}(S:Src J P n Y)(Pv:Nat->St->Hp->Prop)(h0:Pv 0 σ H)(hk:∀i σ H,Pv i σ H->P H)
  (hs:∀i x σ H H',i<n->Pv i σ H->Same H H'->Y i x H'->g x σ H' fun σ2 H2=>tb { D with nx:=Pv (i+1),ct:=Pv (i+1),bk:=D.nx } σ2 H2) (hd:∀σ H,Pv n σ H->D.nx σ H):zkP J g tb D σ H:=by
 refine⟨fun i m σ H=>m=n-i/\i<=n/\Pv i σ H,⟨n,by simp,yD _,h0⟩,?_⟩
 rintro i m σ H ⟨rfl,hi,p⟩
 by_cases hlt:i<n
 ·refine .inr ⟨S.1 i H (hk i σ H p) hlt,Pv (i+1),fun σ' H' q=>⟨n-(i+1),by omega,rfl,hlt,q⟩,fun x H' y=>?_⟩
  obtain⟨e,y'⟩:=S.2.2 i H x H' (hk i σ H p) hlt y
  exact hs i x σ H H' hlt p e y'
 ·have:i=n:=by omega
  subst this
  exact .inl ⟨S.2.1 H (hk i σ H p),hd σ H p⟩
def zft(J:It)(caps:List (Option Nat))(g:TG)(tf:TT)(te:TE)(σ:St)(Q:VK)(H1:Hp):Prop:=∀D,H1 D=none ->
 ∃W:Nat->Nat->St->Hp->Prop,(∃m,W 0 m (zcZ caps σ) (upd H1 D (.lst [])))/\∀i m σ' H',W i m σ' H' ->
  (J.stop i H'/\Q (.ref D) H')\/(J.go i H'/\∃N:St->Hp->Prop,(∀σ2 H2,N σ2 H2->∃m',m'<m/\W (i+1) m' σ2 H2) /\
   ∀x H2,J.yld i H' x H2->g x σ' H2 fun σ1 H3=>tf σ1 H3 fun b H4=>if b=true then te σ1 H4 fun v H5=>zb9 (.ref D) [v] H5 fun _ H6=>N σ1 H6 else N σ1 H4)
theorem zp0{wi:TI}{caps:List (Option Nat)}{g:TG}{tf:TT}{te:TE}(q:wi σ H fun J H1=>zft J caps g tf te σ Q H1):zif wi caps g tf te σ H Q:=q
theorem zq3{T:Bool->Hp->Prop}(q:T true H):zkA σ H T:=q
def CompN(H:Hp)(Sv:St->Prop)(Pv:Nat->List V->Hp->Prop)(D:Addr)(i:Nat)(σ':St)(H':Hp):Prop:=Sv σ'/\Same H H'/\∃vs,H' D=some (.lst vs)/\vs.length<=i/\Pv i vs H'
theorem zkf{J:It}{P:Hp->Prop}{n:Nat}{Y:Nat->V->Hp->Prop}{caps:List (Option Nat)}{g:TG}{tf:TT}{te:TE}(S:Src J P n Y)(e0:∀H',Same H H'->P H')(Sv:St->Prop)(Pv:Nat->List V->Hp->Prop)(hc:Sv (zcZ caps σ))(h0:∀H',Same H H'->Pv 0 [] H')
  (hs:∀i x D vs σ' H' H2,i<n->H D=none->Sv σ'->Same H H'->H' D=some (.lst vs)->vs.length<=i->Pv i vs H'->Same H' H2->Y i x H2->g x σ' H2 fun σ1 H3=>tf σ1 H3 fun b H4=>if b=true then te σ1 H4 fun v H5=>zb9 (.ref D) [v] H5 fun _ H6=>CompN H Sv Pv D (i+1) σ1 H6 else CompN H Sv Pv D (i+1) σ1 H4)
  (hq:∀D H' vs,H D=none->Same H H'->H' D=some (.lst vs)->vs.length<=n->Pv n vs H'->Q (.ref D) H'):zft J caps g tf te σ Q H:=by
 intro D hD
 refine⟨fun i m σ' H'=>m=n-i/\i<=n/\CompN H Sv Pv D i σ' H',⟨n,by simp,yD _,hc,Same.new hD _,[],zaj,ye _,h0 _ (Same.new hD _)⟩,?_⟩
 rintro i m σ' H' ⟨rfl,hi,sv,e,vs,hv,hl,p⟩
 by_cases hlt:i<n
 ·refine .inr ⟨S.1 i H' (e0 _ e) hlt,CompN H Sv Pv D (i+1),fun σ2 H2 q=>⟨n-(i+1),by omega,rfl,hlt,q⟩,fun x H2 y=>?_⟩
  obtain⟨e',y'⟩:=S.2.2 i H' x H2 (e0 _ e) hlt y
  exact hs i x D vs σ' H' H2 hlt hD sv e hv hl p e' y'
 ·have:i=n:=by omega
  subst this
  exact .inl ⟨S.2.1 H' (e0 _ e),hq D H' vs hD e hv hl p⟩
theorem zR{J:It}{P:Hp->Prop}{n:Nat}{Y:Nat->V->Hp->Prop}{caps:List (Option Nat)}{g:TG}{tf:TT}{te:TE}{rest:St}(S:Src J P n Y)(e0:∀H',Same H H'->P H')(hc:zcZ caps σ=none :: rest)(Pv:Nat->List V->Hp->Prop)(h0:∀H',Same H H'->Pv 0 [] H')
  (hs:∀i x D vs o H' H2,i<n->H D=none->Same H H'->H' D=some (.lst vs)->vs.length<=i->Pv i vs H'->Same H' H2->Y i x H2->g x (o :: rest) H2 fun σ1 H3=>tf σ1 H3 fun b H4=>if b=true then te σ1 H4 fun v H5=>zb9 (.ref D) [v] H5 fun _ H6=>CompN H (fun σ'=>∃o,σ'=o :: rest) Pv D (i+1) σ1 H6 else CompN H (fun σ'=>∃o,σ'=o :: rest) Pv D (i+1) σ1 H4)
  (hq:∀D H' vs,H D=none->Same H H'->H' D=some (.lst vs)->vs.length<=n->Pv n vs H'->Q (.ref D) H'):zft J caps g tf te σ Q H:=
 zkf S e0 (fun σ'=>∃o,σ'=o :: rest) Pv ⟨_,hc⟩ h0 (fun i x D vs σ' H' H2 a1 a2 ⟨o,a3⟩ a4 a5 a6 a7 a8 a9=>by subst a3;exact hs i x D vs o H' H2 a1 a2 a4 a5 a6 a7 a8 a9) hq
theorem zbC{J:It}{P:Hp->Prop}{n:Nat}{Y:Nat->V->Hp->Prop}{caps:List (Option Nat)}{g:TG}{tf:TT}{te:TE}{rest:St}(S:Src J P n Y)(e0:∀H',Same H H'->P H')(hc:zcZ caps σ=none :: none :: rest)(Pv:Nat->List V->Hp->Prop)(h0:∀H',Same H H'->Pv 0 [] H')
  (hs:∀i x D vs o o' H' H2,i<n->H D=none->Same H H'->H' D=some (.lst vs)->vs.length<=i->Pv i vs H'->Same H' H2->Y i x H2->g x (o :: o' :: rest) H2 fun σ1 H3=>tf σ1 H3 fun b H4=>if b=true then te σ1 H4 fun v H5=>zb9 (.ref D) [v] H5 fun _ H6=>CompN H (fun σ'=>∃o o',σ'=o :: o' :: rest) Pv D (i+1) σ1 H6 else CompN H (fun σ'=>∃o o',σ'=o :: o' :: rest) Pv D (i+1) σ1 H4)
  (hq:∀D H' vs,H D=none->Same H H'->H' D=some (.lst vs)->vs.length<=n->Pv n vs H'->Q (.ref D) H'):zft J caps g tf te σ Q H:=
 zkf S e0 (fun σ'=>∃o o',σ'=o :: o' :: rest) Pv ⟨_,_,hc⟩ h0 (fun i x D vs σ' H' H2 a1 a2 ⟨o,o',a3⟩ a4 a5 a6 a7 a8 a9=>by subst a3;exact hs i x D vs o o' H' H2 a1 a2 a4 a5 a6 a7 a8 a9) hq
theorem zoo{R:It->Hp->Prop}{a:Addr}{xs:List V}(h:SqL K H a xs)(q:R (Itn K a) H):zkV K R [.ref a] H:=⟨a,rfl,⟨xs,h⟩,q⟩
theorem zp4{R:It->Hp->Prop}{a b:Addr}{xs ys:List V}(h:SqL K H a xs)(h':SqL K H b ys)(q:R (Itz K a b) H):zm6 K R [.ref a,.ref b] H:=⟨a,b,rfl,⟨xs,h⟩,⟨ys,h'⟩,q⟩
theorem zqm{a:Addr}{xs:List V}{n:Nat}{t:TGs}{R:St->Hp->Prop}(h:H a=some (.tup xs))(hn:xs.length=n)(q:t xs σ H R):zbr K n t (.ref a) σ H R:=⟨a,xs,rfl,SqT.of h,hn,q⟩
theorem zou{v:V}{r:List V}{t:TG}{u:TGs}{R:St->Hp->Prop}(q:t v σ H fun σ' H'=>u r σ' H' R):zn9 t u (v :: r) σ H R:=⟨v,r,rfl,q⟩
theorem zqv{R:St->Hp->Prop}(q:R σ H):zpV [] σ H R:=⟨rfl,q⟩
theorem zqA{i:Nat}{x:V}{tip:TIp}(e:σ[i]?=some (some x))(q:te σ H fun y H1=>tip x y H1 fun z H2=>D.nx (σ.set i (some z)) H2):zm4 i te tip D σ H:=⟨x,e,q⟩
theorem zrb{f:Int->Int->Int}{i j:Int}(q:Q (.int (f i j)) H):ipI f (.int i) (.int j) H Q:=⟨i,j,rfl,rfl,q⟩
theorem zps{tget:V->V->Hp->VK->Prop}{tip:TIp}{tset:zgO}(q:to σ H fun o H1=>ti σ H1 fun i H2=>tget o i H2 fun x H3=>te σ H3 fun y H4=>tip x y H4 fun z H5=>tset o i z H5 fun H6=>D.nx σ H6):zok to ti te tget tip tset D σ H:=q
theorem zlk{a:Addr}{xs:List V}{i:Int}{v:V}(h:SqL K H a xs)(e:atI xs i=some v)(q:Q v H):zet K (.ref a) (.int i) H Q:=⟨a,xs,i,v,rfl,rfl,h,e,q⟩
theorem ziM{l:Addr}{x:V}{k:Int}(h:H l=some (.lst [x]))(h0:0<=k)(h1:k<=100000)(q:∀p H',H p=none->Same H H'->H' p=some (.lst (List.replicate k.toNat x))->Q (.ref p) H'):zd2 (.ref l) (.int k) H Q:=
 .inr ⟨l,k,[x],rfl,rfl,h,by omega,by omega,by have:=zcG (n:=k.toNat) (by omega);simpa using this,fun p hp=>by
  have e:(List.replicate k.toNat [x]).flatten=List.replicate k.toNat x:=by
   generalize k.toNat=n
   induction n with
   | zero=>rfl
   | succ n ih=>rw[yap,yaT,ih,yap];rfl
  rw[e]
  exact q p _ hp (Same.new hp _) zaj⟩
theorem zp9{l b:Addr}{xs zs:List V}(h:H l=some (.lst xs))(h':H b=some (.lst zs))(hz:xs.length+zs.length<=100000)(q:∀p H',H p=none->Same H H'->H' p=some (.lst (xs++zs))->Q (.ref p) H'):zak K (.ref l) (.ref b) H Q:=
 .inr (.inl ⟨l,b,xs,zs,rfl,rfl,h,h',zcG hz,fun p hp=>q p _ hp (Same.new hp _) zaj⟩)
theorem zgi{a:Addr}{ns:List Int}(h:SqL K H a (ns.map V.int))(q:Q (.int (zaH ns)) H):zfY K [.ref a] H Q:=⟨a,ns,rfl,h,q⟩
end
theorem zqn{p:Prop}[Decidable p]{A B:Prop}(h:p)(a:A):if decide p=true then A else B:=by rw[decide_eq_true h];exact zgn a
theorem zqf{p:Prop}[Decidable p]{A B:Prop}(h:¬p)(b:B):if decide p=true then A else B:=by rw[decide_eq_false h];exact zik b
section
variable {α:Type}{f:α->List V}
def IsTs(f:α->List V)(H:Hp):List V->List α->Prop
 | [],[]=>True
 | v :: vs,x :: xs=>(∃a,v=.ref a/\H a=some (.tup (f x)))/\IsTs f H vs xs
 | _,_=>False
def znN(H H':Hp):Prop:=∀a xs,H a=some (.tup xs)->H' a=some (.tup xs)
theorem Same.tups{H H':Hp}(e:Same H H'):znN H H':=fun a xs h=>e a _ h
theorem LBut.tups{l:Addr}{H H':Hp}(e:LBut l H H'):znN H H':=fun a xs h=>e.tup h
theorem IsTs.keep{H H':Hp}(e:znN H H'):∀{vs:List V} {xs:List α},IsTs f H vs xs->IsTs f H' vs xs
 | [],[],_=>trivial
 | _ :: _,_ :: _,⟨⟨a,q,h⟩,r⟩=>⟨⟨a,q,e a _ h⟩,r.keep e⟩
theorem IsTs.same{H H':Hp}{vs:List V}{xs:List α}(h:IsTs f H vs xs)(e:Same H H'):IsTs f H' vs xs:=h.keep e.tups
theorem IsTs.but{l:Addr}{H H':Hp}{vs:List V}{xs:List α}(h:IsTs f H vs xs)(e:LBut l H H'):IsTs f H' vs xs:=h.keep e.tups
theorem Same.isTs{H H':Hp}{vs:List V}{xs:List α}(e:Same H H')(h:IsTs f H vs xs):IsTs f H' vs xs:=h.keep e.tups
theorem LBut.isTs{l:Addr}{H H':Hp}{vs:List V}{xs:List α}(e:LBut l H H')(h:IsTs f H vs xs):IsTs f H' vs xs:=h.keep e.tups
theorem IsTs.length{H:Hp}:∀{vs:List V} {xs:List α},IsTs f H vs xs->vs.length=xs.length
 | [],[],_=>rfl
 | _ :: _,_ :: _,⟨_,r⟩=>by rw[yax,yax,r.length]
theorem IsTs.app{H:Hp}{a:Addr}{x:α}(h:H a=some (.tup (f x))):∀{vs:List V} {xs:List α},IsTs f H vs xs->IsTs f H (vs++[.ref a]) (xs++[x])
 | [],[],_=>⟨⟨a,rfl,h⟩,trivial⟩
 | _ :: _,_ :: _,⟨q,r⟩=>⟨q,r.app h⟩
theorem IsTs.get{H:Hp}:∀{vs:List V} {xs:List α} {i:Nat} {v:V},IsTs f H vs xs->vs[i]?=some v->∃a x,v=.ref a/\xs[i]?=some x/\H a=some (.tup (f x))
 | _ :: _,x :: _,0,_,⟨⟨a,q,h⟩,_⟩,e=>by cases e;exact⟨a,x,q,rfl,h⟩
 | _ :: _,_ :: _,i+1,_,⟨_,r⟩,e=>by obtain⟨a,x,q,e',h⟩:=r.get (i:=i) e;exact⟨a,x,q,e',h⟩
theorem IsTs.getI{H:Hp}{vs:List V}{xs:List α}{i:Nat}{x:α}(h:IsTs f H vs xs)(e:xs[i]?=some x):∃a,vs[i]?=some (.ref a)/\H a=some (.tup (f x)):=by
 have hi:i<vs.length:=by rw[h.length];exact(yj.mp e).1
 obtain⟨v,hv⟩:=zC hi
 obtain⟨a,y,q,e',h'⟩:=h.get hv
 rw[e]at e';cases e'
 exact⟨a,by rw[hv,q],h'⟩
theorem IsTs.rep{K:Fg}{H:Hp}{d:α->List PyData}(hd:∀x,RepAll K H (f x) (d x)):∀{vs:List V} {xs:List α},IsTs f H vs xs->RepAll K H vs (xs.map fun x=>.tuple (d x))
 | [],[],_=>.nil
 | _ :: _,_ :: _,⟨⟨a,q,h⟩,r⟩=>by subst q;exact .cons (.tup (.of h) (hd _)) (r.rep hd)
end
def vec(n:Nat)(f:Nat->Int):List Int:=(List.range n).map f
theorem zaa{n:Nat}{f:Nat->Int}:(vec n f).length=n:=by simp[vec]
theorem zay{n i:Nat}{f:Nat->Int}(h:i<n):(vec n f)[i]?=some (f i):=by simp[vec,h]
theorem zck{n:Nat}{f g:Nat->Int}(h:∀i,i<n->f i=g i):vec n f=vec n g:=by
 unfold vec;exact yx fun i hi=>h i (yN.mp hi)
theorem zoX{n j:Nat}{f:Nat->Int}{v:Int}:(vec n f).set j v=vec n (fun i=>if i=j then v else f i):=by
 refine y8 fun i=>?_
 rw[yaw]
 by_cases hi:i<n
 ·rw[zay hi,zay hi,zaa]
  by_cases e:j=i
  ·subst e;simp[hi]
  ·rw[if_neg e,if_neg (ya1 e)]
 ·have h1:(vec n f)[i]?=none:=by rw[yau,zaa];omega
  have h2:∀g,(vec n g)[i]?=none:=fun g=>by rw[yau,zaa];omega
  rw[h1,h2,zaa]
  by_cases e:j=i
  ·subst e;simp[hi]
  ·rw[if_neg e]
theorem zcg{n:Nat}{f:Nat->Int}:vec (n+1) f=vec n f++[f n]:=by unfold vec;rw[yG,yl];rfl
theorem zoO{n:Nat}{c:Int}:List.replicate n (V.int c)=(vec n fun _=>c).map V.int:=by
 refine y8 fun i=>?_
 rw[yaI,yf]
 by_cases hi:i<n
 ·rw[zay hi,if_pos hi];rfl
 ·have h2:(vec n fun _=>c)[i]?=none:=by rw[yau,zaa];omega
  rw[h2,if_neg hi];rfl
theorem zgF{ns:List Int}{k:Int}{v:Int}(h0:0<=k)(h:ns[k.toNat]?=some v):atI (ns.map V.int) k=some (.int v):=zau h0 (by rw[yf,h];rfl)
theorem zli{n:Nat}{f:Nat->Int}{k:Int}(h0:0<=k)(h:k<n):atI ((vec n f).map V.int) k=some (.int (f k.toNat)):=zgF h0 (zay (by omega))
theorem zni{ns:List Int}{j:Nat}{v:Int}:(ns.map V.int).set j (.int v)=(ns.set j v).map V.int:=by rw[ybC]
theorem zo3{n j:Nat}{f:Nat->Int}{v:Int}:((vec n f).map V.int).set j (.int v)=(vec n (fun i=>if i=j then v else f i)).map V.int:=by rw[zni,zoX]
theorem zoy{n:Nat}{f:Nat->Int}{k:Int}(h0:0<=k)(h:k<n):ixN ((vec n f).map V.int).length k=some k.toNat:=by
 rw[yc,zaa];exact zdx h0 h
theorem zce{K:Fg}{H:Hp}:∀ns:List Int,RepAll K H (ns.map V.int) (ns.map PyData.int)
 | []=>.nil
 | n :: ns=>.cons (.int n) (zce ns)
theorem zcs:∀ns:List Int,PyData.depthAll (ns.map PyData.int)=0
 | []=>by simp[PyData.depthAll]
 | n :: ns=>by rw[yaf,PyData.depthAll,zcs ns];simp[PyData.depth]
theorem ziO:∀ns:List Int,PyData.canLayAll0 (ns.map PyData.int)=true
 | []=>by simp[PyData.canLayAll0]
 | n :: ns=>by rw[yaf,PyData.canLayAll0,ziO ns];simp[PyData.canLay0]
theorem zco{ds:List PyData}:(PyData.list ds).depth=PyData.depthAll ds+1:=by simp[PyData.depth];try omega
section
variable {H:Hp}{Q:VK}{K:Fg}
theorem zhE{ns ms:List Int}(h:ns=ms):PyData.eqv (.list (ns.map PyData.int)) (.list (ms.map PyData.int))=true:=by
 subst h;exact PySem.SeqAt.eqv_refl _ (by rw[PyData.canLay0];exact ziO ns)
theorem zjA{a b:Addr}{ns ms:List Int}(h1:SqL K H a (ns.map V.int))(h2:SqL K H b (ms.map V.int))(e:ns=ms)(q:Q (.bl true) H):zaE K (.ref a) (.ref b) H Q:=
 zku (.lst h1 (zce ns)) (.lst h2 (zce ms)) (by rw[zco,zcs];omega) (by rw[zhE e];exact q)
theorem zgc{a b:Addr}{ns ms:List Int}(h1:SqL K H a (ns.map V.int))(h2:SqL K H b (ms.map V.int))(e:ns=ms)(q:Q (.bl false) H):zbM K (.ref a) (.ref b) H Q:=
 zh9 (.lst h1 (zce ns)) (.lst h2 (zce ms)) (by rw[zco,zcs];omega) (by rw[zhE e];exact q)
end
section
variable {σ:St}{H:Hp}{Q:VK}{D:Ends}{K:Fg}
theorem zmJ{l:Addr}{n:Nat}{f:Nat->Int}{k:Int}(h:H l=some (.lst ((vec n f).map V.int)))(h0:0<=k)(h1:k<n)(q:Q (.int (f k.toNat)) H):zet K (.ref l) (.int k) H Q:=zlk (.of h) (zli h0 h1) q
theorem zj5{l:Addr}{n:Nat}{f:Nat->Int}{k:Int}(h:H l=some (.lst ((vec n f).map V.int)))(h0:0<=k)(h1:k<n)(q:Q (.int (f k.toNat)) H):rIx K (.ref l) (.int k) H Q:=zgf h (zli h0 h1) q
theorem zmW{l:Addr}{n:Nat}{f:Nat->Int}{k v:Int}{R:Hp->Prop}(h:H l=some (.lst ((vec n f).map V.int)))(h0:0<=k)(h1:k<n)
  (q:∀H',LBut l H H'->H' l=some (.lst ((vec n fun i=>if i=k.toNat then v else f i).map V.int))->R H'):zgv (.ref l) (.int k) (.int v) H R:=by
 refine zdn h (zoy h0 h1) fun H' b e=>q H' b ?_
 rw[e,zo3]
theorem zl9{a:Addr}{xs:List V}{i:Int}{v:V}(h:H a=some (.tup xs))(e:atI xs i=some v)(q:Q v H):rIx K (.ref a) (.int i) H Q:=zqV (.of h) e q
theorem znP{l:Addr}{c k:Int}(h:H l=some (.lst [.int c]))(h0:0<=k)(h1:k<=100000)(q:∀p H',H p=none->Same H H'->H' p=some (.lst ((vec k.toNat fun _=>c).map V.int))->Q (.ref p) H'):zd2 (.ref l) (.int k) H Q:=
 ziM h h0 h1 fun p H' a b c=>q p H' a b (by rw[c,zoO])
theorem CompN.int{Sv:St->Prop}{D:Addr}{i:Nat}{σ':St}{H6:Hp}{f:Nat->Int}{v:Int}(sv:Sv σ')(e:Same H H6)(h:H6 D=some (.lst ((vec i f).map V.int++[.int v])))(hv:v=f i):CompN H Sv (fun i vs _=>vs=(vec i f).map V.int) D (i+1) σ' H6:=
 ⟨sv,e,_,h,by simp[zaa],by show _++[V.int v]=List.map V.int (vec (i+1) f);rw[hv,zcg,yl];rfl⟩
end
theorem zoM{H:Hp}{Q:VK}{σ:St}{lo:Int}{n:Nat}{caps:List (Option Nat)}{c:Int}{rest:St}(hc:zcZ caps σ=none :: rest)(hn:n<=100000)(q:∀p H',H p=none->Same H H'->H' p=some (.lst ((vec n fun _=>c).map V.int))->Q (.ref p) H'):zft (Itr lo n) caps (zfs 0) zkA (tC (.int c)) σ Q H:=by
 refine zR zbS (fun _ _=>trivial) hc (fun i vs _=>vs=(vec i fun _=>c).map V.int) (fun _ _=>rfl) ?_ ?_
 ·rintro i x D vs o H' H2 hi hD e hv hvl rfl e2 rfl
  refine zox (zq3 (zgn (x_c (zmm (e2.at hv) (by omega) fun H6 b h6=>?_))))
  exact CompN.int ⟨_,rfl⟩ (b.same (e.trans e2) hD) h6 rfl
 ·rintro D H' vs hD e hv hvl rfl
  exact q D H' hD e hv
def zrl(H:Hp)(Q:VK)(ns:List Int):Prop:=∀p H',H p=none->Same H H'->H' p=some (.lst (ns.map V.int))->Q (.ref p) H'
set_option genInjectivity false in
set_option genSizeOf false in
structure Due where
 p:Int
 q:Int
 r:Int
 a:Int
def zdz(d:Due):List V:=[.int d.p,.int d.q,.int d.r,.int d.a]
def zgX(d:Due):List PyData:=[.int d.p,.int d.q,.int d.r,.int d.a]
def zA(n:Int)(d:Due):Prop:=0<=d.p/\d.p<n/\0<=d.q/\d.q<n/\d.p≠d.q/\0<=d.r/\d.r<3/\0<=d.a/\d.a<=100000000000000
def IsSh(K:Fg)(H:Hp)(a:Addr)(ds:List Due):Prop:=∃vs,SqL K H a vs/\IsTs zdz H vs ds
theorem IsSh.same{K:Fg}{H H':Hp}{a:Addr}{ds:List Due}(h:IsSh K H a ds)(e:Same H H'):IsSh K H' a ds:=by
 obtain⟨vs,h1,h2⟩:=h;exact⟨vs,e.seq h1,h2.same e⟩
theorem Same.isSh{K:Fg}{H H':Hp}{a:Addr}{ds:List Due}(e:Same H H')(h:IsSh K H a ds):IsSh K H' a ds:=h.same e
theorem IsSh.of{K:Fg}{H:Hp}{a:Addr}{vs:List V}{ds:List Due}(h:H a=some (.lst vs))(t:IsTs zdz H vs ds):IsSh K H a ds:=⟨vs,.of h,t⟩
def zre(H:Hp)(Q:VK)(ds:List Due):Prop:=∀p H' vs,H p=none->Same H H'->H' p=some (.lst vs)->IsTs zdz H' vs ds->Q (.ref p) H'
theorem zjc{K:Fg}{H:Hp}{vs:List V}{ds:List Due}(h:IsTs zdz H vs ds):RepAll K H vs (ds.map fun d=>.tuple (zgX d)):=
 h.rep fun d=>.cons (.int _) (.cons (.int _) (.cons (.int _) (.cons (.int _) .nil)))
theorem zlB(d:Due):(PyData.tuple (zgX d)).depth=1:=by simp[zgX,PyData.depth,PyData.depthAll]
theorem zgk:∀ds:List Due,PyData.depthAll (ds.map fun d=>.tuple (zgX d))<=1
 | []=>by simp[PyData.depthAll]
 | d :: ds=>by
  have:=zgk ds
  rw[yaf,PyData.depthAll,zlB]
  omega
theorem zii:∀ds:List Due,PyData.canLayAll0 (ds.map fun d=>.tuple (zgX d))=true
 | []=>by simp[PyData.canLayAll0]
 | d :: ds=>by rw[yaf,PyData.canLayAll0,zii ds];simp[zgX,PyData.canLay0,PyData.canLayAll0]
theorem zqh{K:Fg}{H:Hp}{Q:VK}{a b:Addr}{ds es:List Due}(h1:IsSh K H a ds)(h2:IsSh K H b es)(e:ds=es)(q:Q (.bl false) H):zbM K (.ref a) (.ref b) H Q:=by
 subst e
 obtain⟨vs,s1,t1⟩:=h1
 obtain⟨ws,s2,t2⟩:=h2
 refine zh9 (.lst s1 (zjc t1)) (.lst s2 (zjc t2)) (by have:=zgk ds;rw[zco];omega) ?_
 rw[PySem.SeqAt.eqv_refl _ (by rw[PyData.canLay0];exact zii ds)]
 exact q
def zdj(ds:List Due)(m:Nat):Int:=ds.foldl (fun(s:Int) (d:Due)=>if d.p=(m:Int)then s+d.a else s) 0
def zb8(ds:List Due)(m:Nat):Int:=ds.foldl (fun(s:Int) (d:Due)=>if d.q=(m:Int)then s+d.a else s) 0
def za1(ds:List Due)(m:Nat):Int:=zb8 ds m-zdj ds m
theorem zct(ds:List Due)(d:Due)(m:Nat):zdj (ds++[d]) m=if d.p=(m:Int)then zdj ds m+d.a else zdj ds m:=by unfold zdj;rw[yaD];rfl
theorem zbN(ds:List Due)(d:Due)(m:Nat):zb8 (ds++[d]) m=if d.q=(m:Int)then zb8 ds m+d.a else zb8 ds m:=by unfold zb8;rw[yaD];rfl
theorem zam{α:Type}{xs:List α}{i:Nat}{x:α}(h:xs[i]?=some x):xs.take (i+1)=xs.take i++[x]:=by
 obtain⟨hi,rfl⟩:=yj.mp h
 exact ybg hi
section
variable {K:Fg}{H:Hp}{Q:VK}{E:XK}{n:Int}{a:Addr}{ds:List Due}
end
def Rows(H:Hp)(as:List Addr)(k:Nat)(F:Nat->Nat->Int):Prop:=as.Nodup/\∀i a,as[i]?=some a->H a=some (.lst ((vec k (F i)).map V.int))
section
variable {H H':Hp}{as bs:List Addr}{k:Nat}{F G:Nat->Nat->Int}{K:Fg}{Q:VK}
theorem Rows.same(h:Rows H as k F)(e:Same H H'):Rows H' as k F:=⟨h.1,fun i a q=>e _ _ (h.2 i a q)⟩
theorem Rows.mem(h:Rows H as k F){a:Addr}(m:a∈as):∃i,i<as.length/\as[i]?=some a/\H a=some (.lst ((vec k (F i)).map V.int)):=by
 obtain⟨i,hi,e⟩:=yI m
 have:as[i]?=some a:=by rw[yj];exact⟨hi,e⟩
 exact⟨i,hi,this,h.2 i a this⟩
theorem Rows.but{l:Addr}(h:Rows H as k F)(g:LBut l H H')(n:l∉as):Rows H' as k F:=
 ⟨h.1,fun i a q=>g.lst (h.2 i a q) fun z=>n (z▸yb q)⟩
theorem zbQ{i j:Nat}{a:Addr}(n:as.Nodup)(h:as[i]?=some a)(h':as[j]?=some a):i=j:=by
 obtain⟨hi,e⟩:=yj.mp h
 obtain⟨hj,e'⟩:=yj.mp h'
 exact(yby n).mp (e.trans e'.symm)
theorem Rows.set{j:Nat}{a:Addr}{f:Nat->Int}(h:Rows H as k F)(g:LBut a H H')(ha:as[j]?=some a)(q:H' a=some (.lst ((vec k f).map V.int))):Rows H' as k (fun i=>if i=j then f else F i):=by
 refine⟨h.1,fun i b hb=>?_⟩
 by_cases e:i=j
 ·subst e
  rw[ha]at hb;cases hb
  show H' a=some (.lst ((vec k (if i=i then f else F i)).map V.int))
  rw[if_pos rfl];exact q
 ·show H' b=some (.lst ((vec k (if i=j then f else F i)).map V.int))
  rw[if_neg e]
  refine g.lst (h.2 i b hb) fun z=>e ?_
  subst z
  exact zbQ h.1 hb ha
theorem Rows.congr(h:Rows H as k F)(e:∀i,i<as.length->∀j,j<k->F i j=G i j):Rows H as k G:=by
 refine⟨h.1,fun i a q=>?_⟩
 have hi:i<as.length:=(yj.mp q).1
 rw[h.2 i a q,zck fun j hj=>e i hi j hj]
theorem Rows.app{p:Addr}(h:Rows H as k F)(n:p∉as)(hp:H p=some (.lst ((vec k (F as.length)).map V.int))):Rows H (as++[p]) k F:=by
 refine⟨ybc.mpr ⟨h.1,by simp,fun a ha b hb e=>n (by rw[yv]at hb;subst hb;subst e;exact ha)⟩,fun i a q=>?_⟩
 rw[yaY]at q
 split at q
 ·exact h.2 i a q
 ·rename_i hi
  have hi':i-as.length=0:=by
   cases e:i-as.length with
   | zero=>rfl
   | succ m=>rw[e]at q;cases q
  rw[hi']at q;cases q
  have:i=as.length:=by omega
  subst this;exact hp
theorem Rows.ne{D:Addr}(h:Rows H as k F)(hk:0<k)(hD:H D=some (.lst (as.map V.ref))):D∉as:=fun m=>by
 obtain⟨i,hi,q,e⟩:=h.mem m
 rw[hD]at e
 have e':as.map V.ref=(vec k (F i)).map V.int:=by simpa using e
 cases as with
 | nil=>cases m
 | cons x xs=>
  cases k with
  | zero=>omega
  | succ k=>
   have:=congrArg (·[0]?) e'
   simp[vec]at this
theorem Rows.fresh{p:Addr}(h:Rows H as k F)(hp:H p=none):p∉as:=fun m=>by
 obtain⟨i,_,_,e⟩:=h.mem m
 rw[hp]at e;cases e
theorem zoK{l a:Addr}{p:Int}(h:H l=some (.lst (as.map V.ref)))(h0:0<=p)(e:as[p.toNat]?=some a)(q:Q (.ref a) H):rIx K (.ref l) (.int p) H Q:=zgf h (zau h0 (by rw[yf,e];rfl)) q
end
def zH(ds:List Due)(m r:Nat):Int:=ds.foldl (fun(s:Int) (d:Due)=>if d.p=(m:Int)/\d.r=(r:Int)then s+d.a else s) 0
theorem zcl(ds:List Due)(d:Due)(m r:Nat):zH (ds++[d]) m r=if d.p=(m:Int)/\d.r=(r:Int)then zH ds m r+d.a else zH ds m r:=by unfold zH;rw[yaD];rfl
theorem zhq{ds:List Due}{d:Due}(p0:0<=d.p)(r0:0<=d.r)(m r:Nat):(if m=d.p.toNat then fun i=>if i=d.r.toNat then zH ds d.p.toNat d.r.toNat+d.a else zH ds d.p.toNat i else zH ds m) r=zH (ds++[d]) m r:=by
 rw[zcl]
 by_cases e:m=d.p.toNat
 ·rw[if_pos e]
  by_cases e':r=d.r.toNat
  ·rw[if_pos (show d.p=(m:Int)/\d.r=(r:Int) by omega)]
   show(if r=d.r.toNat then _ else _)=_
   rw[if_pos e',e,e']
  ·rw[if_neg (show ¬(d.p=(m:Int)/\d.r=(r:Int)) by omega)]
   show(if r=d.r.toNat then _ else _)=_
   rw[if_neg e',e]
 ·rw[if_neg e,if_neg (show ¬(d.p=(m:Int)/\d.r=(r:Int)) by omega)]
def zfL(K:Fg):Sp:=fun vs H Q _=>∃n a ds,vs=[.int n,.ref a]/\IsSh K H a ds/\0<=n/\n<=1000/\(∀d∈ds,zA n d) /\
 ∀l H' as,H l=none->Same H H'->H' l=some (.lst (List.map V.ref as))->as.length=n.toNat->Rows H' as 3 (zH ds)->(∀b∈as,H b=none)->Q (.ref l) H'
def zkD:=fun {K:Fg} {n:Int} {a:Addr} {ds:List Due} {H:Hp} {Q:VK} {E:XK} h h0 h1 hd q=>@id (zfL K [.int n,.ref a] H Q E) ⟨n,a,ds,rfl,h,h0,h1,hd,q⟩
def zea(K:Fg):Sp:=fun vs H Q _=>∃a ds,vs=[.ref a]/\IsSh K H a ds/\ds.length<=1000/\zrl H Q (ds.map Due.a)
def zh3:=fun {K:Fg} {a:Addr} {ds:List Due} {H:Hp} {Q:VK} {E:XK} h h1 q=>@id (zea K [.ref a] H Q E) ⟨a,ds,rfl,h,h1,q⟩
def zr(ds:List Due)(m:Nat->Int):List Due:=ds.mapIdx fun i d=>⟨d.p,d.q,d.r,m i⟩
theorem zab{ds:List Due}{m:Nat->Int}:(zr ds m).length=ds.length:=by simp[zr]
theorem zba{ds:List Due}{m:Nat->Int}{i:Nat}{d:Due}(h:ds[i]?=some d):(zr ds m)[i]?=some ⟨d.p,d.q,d.r,m i⟩:=by simp[zr,h]
theorem za9{ds:List Due}{m:Nat->Int}{i:Nat}{d:Due}(h:ds[i]?=some d):(zr ds m).take (i+1)=(zr ds m).take i++[⟨d.p,d.q,d.r,m i⟩]:=zam (zba h)
def ziv(K:Fg):Sp:=fun vs H Q _=>∃(a b:Addr) (ds:List Due) (ms:List Int),vs=[.ref a,.ref b]/\IsSh K H a ds/\SqL K H b (List.map V.int ms)/\ds.length<=ms.length/\ds.length<=1000/\zre H Q (zr ds fun i=>ms.getD i 0)
def znn:=fun {K:Fg} {a b:Addr} {ds:List Due} {ms:List Int} {H:Hp} {Q:VK} {E:XK} h h' hl h1 q=>@id (ziv K [.ref a,.ref b] H Q E) ⟨a,b,ds,ms,rfl,h,h',hl,h1,q⟩
theorem zeM{ms:List Int}{i:Nat}(h:i<ms.length):ms[i]?=some (ms.getD i 0):=by rw[yg,yi h];rfl
end Internal
namespace My
section
variable (ch:Nat->Bool)(x:Nat->Int)(L:Int)
def rest:Nat->Int
 | 0=>L
 | i+1=>if ch i=true/\rest i>0 then rest i-1 else rest i
def more(i:Nat):Int:=if ch i=true/\rest ch L i>0 then x i+1 else x i
def cnt:Nat->Int
 | 0=>0
 | i+1=>if ch i=true then cnt i+1 else cnt i
variable {ch x L}
end
end My
namespace Internal
open PySem PySem.Spec PyProof.Rows
theorem zlg{k m:Int}(h0:0<=k)(h:k<=m):k*k<=m*m:=Int.mul_le_mul h h h0 (by omega)
def big:Int:=1000000000000000000000000000000000000000000000000000000000000
def bls(n:Nat)(ch:Nat->Bool):List V:=(List.range n).map fun i=>V.bl (ch i)
theorem znt{n:Nat}{ch:Nat->Bool}:bls (n+1) ch=bls n ch++[.bl (ch n)]:=by unfold bls;rw[yG,yl];rfl
theorem zkj{n:Nat}{ch:Nat->Bool}:(bls n ch).length=n:=by simp[bls]
theorem zg7{n i:Nat}{ch:Nat->Bool}(h:i<n):(bls n ch)[i]?=some (.bl (ch i)):=by simp[bls,h]
theorem zpX(ms:List Int):ms=vec ms.length fun i=>ms.getD i 0:=by
 refine y8 fun i=>?_
 by_cases h:i<ms.length
 ·rw[zay h];exact zeM h
 ·rw[yE (by omega),yE (by rw[zaa];omega)]
theorem zlo{ns:List Int}{c:Int}:ns.map V.int++[.int c]=(ns++[c]).map V.int:=by rw[yl];rfl
abbrev TEr:=St->Hp->VK->(Addr->Hp->Prop)->Prop
abbrev TTr:=Ends->(Addr->St->Hp->Prop)->St->Hp->Prop
section
variable {X:Cx}{pos:Pos}
abbrev zry(te:TEr):TTr:=fun D Eh σ H=>te σ H (fun _ H2=>D.nx σ H2) fun C H2=>Eh C σ H2
abbrev zrH(c:TT)(t u:TTr):TTr:=fun D Eh σ H=>c σ H fun b H1=>if b=true then t D Eh σ H1 else u D Eh σ H1
abbrev zrF:TTr:=fun D _ σ H=>D.nx σ H
end
section
variable {σ:St}{H:Hp}{Q:VK}{D:Ends}{K:Fg}{Eh:Addr->Hp->Prop}{Eg:Addr->St->Hp->Prop}
end
open PySem PySem.W PySem.Calls PyProof.Rows
theorem zgl{n:Nat}:∀(ns:List Int),WData.weightAll (ns.map WData.int)<=n->∀i∈ns,sz i<=n
 | [],_,_,h=>nomatch h
 | j :: r,h,i,hi=>by
  rw[yaf,WData.weightAll]at h
  rcases yz.mp hi with rfl | hi
  ·have:WData.weight (.int i)=sz i:=by rw[WData.weight];rfl
   omega
  ·exact zgl r (by omega) i hi
def Light(ns:List Int):Prop:=∀i∈ns,sz i<=1048576
theorem zmV{ns:List Int}(h:WData.layableAll [WData.list (ns.map WData.int)]=true):Light ns:=by
 unfold WData.layableAll at h
 rw[ybw,List.all_nil,Bool.and_true]at h
 unfold WData.layable at h
 rw[y3,decide_eq_true_eq]at h
 have h2:=h.2
 rw[WData.weight]at h2
 exact zgl ns (yh h2 (by decide))
theorem zin{l:OpenLaw}{n:Nat}{q:Program}{loose:List Str}{XP:(Str->Option Value)->Heap->Prop}{YP:World->Heap->Prop}{d:DefRec}
  (hn:l.most=some n) (hdf:d.params.defaults=[])
  (call:∀(w:World) (s₀ s₁:Shared) (mg mb:Str->Option Value) (fa:Addr) (a:Addr) (vs:List Value) (ns:List Int),
   Ground q loose [] XP w s₀ mg mb s₁.heap->YP w s₁.heap->mg d.name=some (.ref fa) ->
   s₁.heap.get? a=some { cls:=.type "list",data:=.seq vs.toArray }->IntsAre vs ns->ns.length<=n->Light ns->s₁.gens=#[] ->
   codeAny (model l.prog w) callerA (.call (.ref fa) ⟨[.ref a],[]⟩) (fun r s'=>r=.ok (.ret (.bool true))/\OldK s₁.heap s'.heap/\s'.os=s₁.os/\AllBare s'.gens) s₁) :
  WalkO q loose XP YP l.row.toRowW d [] (fun f vs=>PySem.call f vs):=by
 intro w s₀ s₁ mg mb G Y fa o pm cd doc dV kV ho hd hcd hD hmg hg args vals as hpre hlay hrd hwl hlo
 obtain⟨a,vs,ns,rfl,rfl,hobj,hints,hlen⟩:=Att.script_of hn hpre hwl
 refine enter_call (codeAny_mono (call w s₀ s₁ mg mb fa a vs ns G Y hmg hobj hints hlen (zmV hlay) hg) fun r s' hq=>?_)
 obtain⟨rfl,h2,h3,h4⟩:=hq
 exact⟨.inl ⟨.bool true,.bool true,[],rfl,fun _=>rfl,.bool true,Att.post_true l _,fun _=>⟨List.Pairwise.nil,fun _ hm=>(nomatch hm)⟩⟩,h2,h3,h4⟩
open PySem PySem.Spec PyProof.Rows
theorem walk_ofZ{l:PySem.W.OpenLaw}{n k:Nat}{q:Program}{loose:List Str}{XP:(Str->Option Value)->Heap->Prop}{YP:World->Heap->Prop}{d:DefRec}{K:Params->Fg}{CX:World->CXT}{sp:World->Sp}{x:Str}
  (hn:l.most=some n) (hn2:n<=sizeLine) (hdf:d.params.defaults=[]) (hr:Room k callerA)
  (hY:∀(w:World) (h:Heap),YP w h->(K w.params).In h)
  (F:∀(w:World) (mg:Str->Option Value) (fa:Addr) (h:Heap),(K w.params).In h->h.Ns mainGlobals mg->mg d.name=some (.ref fa) ->
   ∃fd:FuncData,(∀(s:Shared) (u:Value),BindsTo s fd ⟨[u],[]⟩ [(x,u)]) /\
    ∀base:Heap,(K w.params).In base->base.Ns mainGlobals mg->FnOk l.prog w (K w.params) mg base (CX w) k fa fd [x] (sp w))
  (hsp:∀(w:World) (H:Hp) (a:Addr) (ns:List Int),ns.length<=n->Light ns->zmQ H->SqL (K w.params) H a (ns.map V.int)->sp w [.ref a] H (fun v _=>v=.bl true) fun _ _ _=>False)
  (hCX:∀(w:World) (H:Hp) (s:Shared) (e:Value) (s':Shared),CX w [] H s (fun _ _ _=>False) e s'->False) :
  PySem.W.WalkO q loose XP YP l.row.toRowW d [] (fun f vs=>PySem.call f vs):=by
 refine zin hn hdf fun w s₀ s₁ mg mb fa a vs ns G Y hmg hobj hints hlen hz hg=>?_
 have KX:=hY w _ Y
 obtain⟨fd,hb,hF⟩:=F w mg fa _ KX G.T.g hmg
 exact znD KX G.T.g G.T.b G.T.builtins G.T.nolimit hg hobj hints (yh hlen hn2) hr hF hb (fun H hO hS=>hsp w H a ns hlen hz hO hS) fun H e s'=>hCX w H s₁ e s'
theorem Light.cell{ns:List Int}(h:Light ns)(k:Int):sz (cell ns k)<=1048576:=by
 unfold Internal.cell
 rw[yg]
 cases e:ns[k.toNat]? with
 | none=>show sz 0<=_;exact yD _
 | some i=>exact h i (yb e)
theorem zpy{c k:Int}(h:sz c<=1048576)(h0:0<=k)(h1:k<=1000):sz (c*48271+7919*k*k+11)<=1048594:=by
 have hk:=zlg h0 h1
 have hk':=ybo h0 h0
 have a1:sz (c*48271)<=1048592:=zdT (n:=1048576) (m:=16) h (zbJ (by decide))
 have a2:sz (7919*k*k)<=1048592:=yh (sz200 (by rw[yaC];omega) (by rw[yaC];omega)) (by decide)
 exact zjb (zjb a1 a2) (yh (sz200 (i:=11) (by decide) (by decide)) (by decide))
def zrs(c k:Int):Int:=c*48271+7919*k*k+11
def zq1(ns:List Int)(k p m:Int):Int:=zrs (cell ns k) k%p%m
def zgH(K:Fg):Sp:=fun vs H Q _=>∃(a:Addr) (ns:List Int) (k p m:Int),vs=[.ref a,.int k,.int p,.int m]/\SqL K H a (ns.map V.int)/\Light ns/\0<=k/\k<=1000/\1<=p/\1<=m/\∀x,x=zq1 ns k p m->0<=x->x<m->Q (.int x) H
def zly:=fun {K:Fg} {a:Addr} {ns:List Int} {k p m:Int} {H:Hp} {Q:VK} {E:XK} hS hz h0 h1 p0 m0 q=>@id (zgH K [.ref a,.int k,.int p,.int m] H Q E) ⟨a,ns,k,p,m,rfl,hS,hz,h0,h1,p0,m0,q⟩
def Within(m:Int)(k:Nat)(f:Nat->Int):Prop:=∀j,j<k->-m<=f j/\f j<=m
theorem Rows.snoc{H:Hp}{as:List Addr}{k:Nat}{F:Nat->Nat->Int}{p:Addr}{f:Nat->Int}(h:Rows H as k F)(n:p∉as)(hp:H p=some (.lst ((vec k f).map V.int))):Rows H (as++[p]) k (fun i=>if i=as.length then f else F i):=by
 refine Rows.app (h.congr fun i hi j _=>?_) n (by show H p=some (HO.lst ((vec k (if as.length=as.length then f else F as.length)).map V.int));rw[if_pos rfl];exact hp)
 show F i j=(if i=as.length then f else F i) j
 rw[if_neg (by omega)]
theorem BT.range:bootBuiltins "range" = some (.type "range"):=by decide +kernel
section
variable {X:Cx}
theorem zd4:∀ns:List Int,(ns.map V.int).all zdD=true
 | []=>rfl
 | n :: ns=>by rw[yaf,ybw,zd4 ns];rfl
def zmh:V->List V->Hp->VK->Prop:=fun x vs H Q=>∃(l:Addr) (ns:List Int) (k:Int) (j:Nat),x=.ref l/\vs=[.int k]/\H l=some (.lst (ns.map V.int))/\ns[j]?=some k/\(∀m,m<j->ns[m]?≠some k)/\ns.length<=100000/\Q (.int j) H
theorem zn3:MtM X "list.index" zmh:=by
 intro pins s σ H x vs v us Q I rx rv h
 obtain⟨l,ns,k,j,rfl,rfl,hH,hj,hno,hz,q⟩:=h
 cases rx
 obtain⟨u,rfl,ru⟩:=rv.one
 obtain⟨z,its,n,r,hl,e⟩:=I.lstM hH
 have hjl:j<ns.length:=(yj.mp hj).1
 have hil:its.length=ns.length:=by have:=r.length;rw[yc]at this;exact this.symm
 have at':∀m (hm:m<its.length),eqU (.int k) its[m]=(ns[m]'(by omega) == k):=fun m hm=>by
  obtain⟨w,hw,rw'⟩:=r.get (show(ns.map V.int)[m]?=some (.int (ns[m]'(by omega))) by simp[show m<ns.length by omega])
  have:its[m]=w:=by
   rw[yi hm]at hw;exact yp hw
  rw[this,ziX rw' rfl];rfl
 refine call_meets F.slot_list_index ⟨_,e,rfl⟩ F.entry_list_index (F.args_list_index_2 _ _) (SeqAt.list_indexAt l its.toArray n none #[] u (eqU (.int k)) j (by simp;omega) (by omega) ?_ (fun m hm hlt=>?_)) ⟨e,fun y hy=>zdg ru rfl r (zd4 ns) y (by simpa using hy),⟨.int j,H,I.tok _,⟨_,rfl⟩,q⟩⟩
 ·have:=at' j (by omega)
  simp only[List.getElem_toArray]
  rw[this]
  have e':ns[j]=k:=by rw[yi hjl]at hj;exact yp hj
  rw[e'];simp
 ·have hm':m<its.length:=by simpa using hm
  simp only[List.getElem_toArray]
  rw[at' m hm']
  have:ns[m]'(by omega)≠k:=fun z=>hno m hlt (by rw[yi (by omega),z])
  simp[this]
def zgd:List V->Hp->VK->Prop:=fun vs H Q=>∃j:Int,vs=[.int j]/\∀p,H p=none->Q (.ref p) (upd H p (.rng 0 j))
theorem zjI:CallR X (.type "range") zgd:=by
 intro pins s σ H xs us Q I r h
 obtain⟨j,rfl,q⟩:=h
 obtain⟨u,rfl,t,rfl⟩:=vals1 r
 refine call_range_1 ?_
 have J:Inv X pins σ (upd H s.heap.objs.size (.rng 0 j)) { s with heap:=s.heap.push { cls:=.type "range",data:=.fields #[.int 0 s.toks,.int j t,.int 1 (s.toks+1)] },toks:=s.toks+1+1 }:=I.laid (fun b o e=>Heap.get?_push_of_some _ e) (ye _) ⟨_,_,_,Heap.get?_push_size _ rfl⟩
 exact⟨.ref s.heap.objs.size,_,J,rfl,q _ (I.hok.fresh (ye _))⟩
theorem znh{n:Nat}{f:Nat->Int}:vec (n+1) f=f 0 :: vec n fun i=>f (i+1):=by unfold vec;rw[ybe,yaf,List.map_map];rfl
theorem zj6:∀{us:List Value} {f:Nat->Int},(∀(i:Nat) (v:Value),us[i]?=some v->∃t,v=Value.int (f i) t)->Vals ((vec us.length f).map V.int) us
 | [],f,_=>.nil
 | u :: us,f,h=>by
  rw[yax,znh,yaf]
  exact .cons (h 0 u rfl) (zj6 fun i v e=>h (i+1) v e)
def zew:List V->Hp->VK->Prop:=fun vs H Q=>∃(p:Addr) (j:Int),vs=[.ref p]/\H p=some (.rng 0 j)/\0<=j/\j<=100000/\∀l,H l=none->Q (.ref l) (upd H l (.lst ((vec j.toNat fun i=>(i:Int)).map V.int)))
theorem zh1(hc:X.calm=true):CallR X (.type "list") zew:=by
 intro pins s σ H xs us Q I r h
 obtain⟨p,j,rfl,hp,j0,j1,q⟩:=h
 obtain⟨u,rfl,r1⟩:=vals1 r
 cases r1
 obtain⟨t,u,v,e⟩:=I.hok p _ hp
 refine call_list_range (n:=j.toNat) (I.ok.hd hc) (a:=0) (b:=j) (c:=1) (t:=t) (u:=u) (v:=v) e (small_one (by omega) (by omega) (by omega) (by omega)) (by rw[rangeSize_one];split<;>omega) (by omega) fun h' tk acc c' k e' it=>?_
 have hv:Vals ((vec j.toNat fun i=>(i:Int)).map V.int) acc.toList:=by
  have:=zj6 (us:=acc.toList) (f:=fun i=>(i:Int)) fun i v hv=>by
   obtain⟨t',h'⟩:=it.2 i v (by simpa using hv)
   exact⟨t',by rw[h'];congr 1;omega⟩
  rw[show acc.toList.length=j.toNat by simpa using it.1]at this
  exact this
 have J:Inv X pins σ (upd H s.heap.objs.size (.lst ((vec j.toNat fun i=>(i:Int)).map V.int))) { s with heap:=h',toks:=tk }:=I.laid k (ye _) ⟨by rw[yc,zaa];exact zcG (by omega),acc.toList,c',hv,e'⟩
 exact⟨.ref s.heap.objs.size,_,J,rfl,q _ (I.hok.fresh (ye _))⟩
end
section
variable {H:Hp}{Q:VK}{K:Fg}
theorem zfl{i:Int}:∀ns:List Int,inV (.int i) (ns.map V.int)=decide (i∈ns)
 | []=>by simp[inV]
 | n :: ns=>by
  have ih:=zfl (i:=i) ns
  unfold inV at ih ⊢
  rw[yaf,List.any_cons,ih]
  show((n == i) || _)=_
  by_cases h:n=i
  ·subst h;simp
  ·have:¬i=n:=fun z=>h z.symm
   simp[h,this]
theorem zrd{a:Addr}{ns:List Int}{i:Int}(h:SqL K H a (ns.map V.int))(q:Q (.bl (decide (i∈ns))) H):rIn K false (.int i) (.ref a) H Q:=
 ⟨a,_,rfl,.inl h,rfl,zd4 ns,by rw[if_neg yo,zfl];exact q⟩
theorem zpl{a:Addr}{ns:List Int}{i:Int}(h:SqL K H a (ns.map V.int))(q:Q (.bl (!decide (i∈ns))) H):rIn K true (.int i) (.ref a) H Q:=
 ⟨a,_,rfl,.inl h,rfl,zd4 ns,by rw[if_pos rfl,zfl];exact q⟩
theorem zpS{l b:Addr}{xs zs:List V}(h:H l=some (.lst xs))(h':H b=some (.lst zs))(hz:xs.length+zs.length<=100000)(q:∀H',LBut l H H'->H' l=some (.lst (xs++zs))->Q .non H'):zjY (.ref l) [.ref b] H Q:=
 ⟨l,b,xs,zs,rfl,rfl,h,h',zcG hz,q _ ⟨But.upd,xs,h⟩ zaj⟩
theorem zne{j:Int}(q:∀p H',H p=none->Same H H'->H' p=some (.rng 0 j)->Q (.ref p) H'):zgd [.int j] H Q:=⟨j,rfl,fun p hp=>q p _ hp (Same.new hp _) zaj⟩
theorem zmx{p:Addr}{j:Int}(h:H p=some (.rng 0 j))(j0:0<=j)(j1:j<=100000)(q:∀l H',H l=none->Same H H'->H' l=some (.lst ((vec j.toNat fun i=>(i:Int)).map V.int))->Q (.ref l) H'):zew [.ref p] H Q:=⟨p,j,rfl,h,j0,j1,fun l hl=>q l _ hl (Same.new hl _) zaj⟩
theorem zoJ{l:Addr}{ns:List Int}{k:Int}{j:Nat}(h:H l=some (.lst (ns.map V.int)))(hj:ns[j]?=some k)(hno:∀m,m<j->ns[m]?≠some k)(hz:ns.length<=100000)(q:Q (.int j) H):zmh (.ref l) [.int k] H Q:=⟨l,ns,k,j,rfl,rfl,h,hj,hno,hz,q⟩
end
def zaX:Option Nat->V
 | none=>.non
 | some i=>.int i
def zP(n:Nat)(w:Nat->Option Nat):List V:=(List.range n).map fun m=>zaX (w m)
theorem zbq{n:Nat}{w:Nat->Option Nat}:(zP n w).length=n:=by simp[zP]
theorem zas{n i:Nat}{w:Nat->Option Nat}(h:i<n):(zP n w)[i]?=some (zaX (w i)):=by simp[zP,h]
theorem zer{n:Nat}{w v:Nat->Option Nat}(h:∀i,i<n->w i=v i):zP n w=zP n v:=by
 unfold zP;exact yx fun i hi=>by rw[h i (yN.mp hi)]
theorem zmT{n j:Nat}{w:Nat->Option Nat}{o:Option Nat}:(zP n w).set j (zaX o)=zP n fun m=>if m=j then o else w m:=by
 refine y8 fun i=>?_
 rw[yaw]
 by_cases hi:i<n
 ·rw[zas hi,zas hi,zbq]
  by_cases e:j=i
  ·subst e;simp[hi]
  ·rw[if_neg e,if_neg (ya1 e)]
 ·have h2:∀v,(zP n v)[i]?=none:=fun v=>by rw[yau,zbq];omega
  rw[h2,h2,zbq]
  by_cases e:j=i
  ·subst e;simp[hi]
  ·rw[if_neg e]
theorem znu{n:Nat}:List.replicate n V.non=zP n fun _=>none:=by
 refine y8 fun i=>?_
 rw[yaI]
 by_cases hi:i<n
 ·rw[zas hi,if_pos hi];rfl
 ·rw[if_neg hi,yE (by rw[zbq];omega)]
theorem zor{n:Nat}{b:Bool}:List.replicate n (V.bl b)=bls n fun _=>b:=by
 refine y8 fun i=>?_
 rw[yaI]
 by_cases hi:i<n
 ·rw[zg7 hi,if_pos hi]
 ·rw[if_neg hi,yE (by rw[zkj];omega)]
def useful(g:Nat->Bool)(m:Nat)(d:Due):Prop:=d.p=(m:Int)/\0<d.a/\g d.p.toNat=true/\g d.q.toNat=true
instance {g:Nat->Bool} {m:Nat} {d:Due}:Decidable (useful g m d):=by unfold useful;infer_instance
def zaT(ds:List Due)(g:Nat->Bool):Nat->Nat->Option Nat
 | 0,_=>none
 | i+1,m=>match ds[i]? with
  | some d=>if useful g m d then some i else zaT ds g i m
  | none=>zaT ds g i m
theorem zlU{ds:List Due}{g:Nat->Bool}{i:Nat}{d:Due}(h:ds[i]?=some d)(m:Nat):zaT ds g (i+1) m=if useful g m d then some i else zaT ds g i m:=by rw[zaT,h]
theorem zdw{ds:List Due}{g:Nat->Bool}{m j:Nat}:∀{i:Nat},zaT ds g i m=some j->∃d,ds[j]?=some d/\useful g m d
 | 0,h=>nomatch h
 | i+1,h=>by
  rw[zaT]at h
  cases e:ds[i]? with
  | none=>rw[e]at h;exact zdw h
  | some d=>
   rw[e]at h
   simp only at h
   split at h
   ·rename_i u;cases h;exact⟨d,e,u⟩
   ·exact zdw h
theorem ze5{ds:List Due}{g:Nat->Bool}{m:Nat}:∀{i:Nat},zaT ds g i m=none->∀k d,k<i->ds[k]?=some d->¬useful g m d
 | 0,_,_,_,hk,_=>absurd hk (yaA _)
 | i+1,h,k,d,hk,hd=>by
  rw[zaT]at h
  by_cases e:k=i
  ·subst e
   rw[hd]at h
   simp only at h
   split at h
   ·cases h
   ·assumption
  ·cases e':ds[i]? with
   | none=>rw[e']at h;exact ze5 h k d (by omega) hd
   | some d'=>
    rw[e']at h
    simp only at h
    split at h
    ·cases h
    ·exact ze5 h k d (by omega) hd
theorem znX{H:Hp}{Q:VK}{l:Addr}{k:Int}(h:H l=some (.lst [.non]))(h0:0<=k)(h1:k<=100000)(q:∀p H',H p=none->Same H H'->H' p=some (.lst (zP k.toNat fun _=>none))->Q (.ref p) H'):zd2 (.ref l) (.int k) H Q:=
 ziM h h0 h1 fun p H' a b c=>q p H' a b (by rw[c,znu])
theorem zpc{H:Hp}{Q:VK}{l:Addr}{k:Int}{c:Bool}(h:H l=some (.lst [.bl c]))(h0:0<=k)(h1:k<=100000)(q:∀p H',H p=none->Same H H'->H' p=some (.lst (bls k.toNat fun _=>c))->Q (.ref p) H'):zd2 (.ref l) (.int k) H Q:=
 ziM h h0 h1 fun p H' a b c=>q p H' a b (by rw[c,zor])
def zhh(K:Fg):Sp:=fun vs H Q _=>∃(a b:Addr) (ds:List Due) (n:Nat) (g:Nat->Bool),vs=[.ref a,.ref b]/\IsSh K H a ds/\SqL K H b (bls n g)/\n<=100/\ds.length<=1000/\(∀d∈ds,zA n d)/\∀p H',H p=none->Same H H'->H' p=some (.lst (zP n (zaT ds g ds.length)))->Q (.ref p) H'
def zlD:=fun {K:Fg} {a b:Addr} {ds:List Due} {n:Nat} {g:Nat->Bool} {H:Hp} {Q:VK} {E:XK} h h' hn hl hd q=>@id (zhh K [.ref a,.ref b] H Q E) ⟨a,b,ds,n,g,rfl,h,h',hn,hl,hd,q⟩
theorem znC{A:Prop}(q:A):V.non=V.non/\A:=⟨rfl,q⟩
theorem zbW{o:Option Nat}:decide (zaX o=V.non)=o.isNone:=by cases o with | none=>rfl | some i=>simp[zaX]
def goF(ds:List Due):Nat->Nat->Bool
 | 0,_=>true
 | t+1,m=>(zaT ds (goF ds t) ds.length m).isSome
def zY(ds:List Due):Nat->Nat->Option Nat
 | 0,_=>none
 | t+1,m=>zaT ds (goF ds t) ds.length m
def zjm(K:Fg):Sp:=fun vs H Q _=>∃(n:Int) (a:Addr) (ds:List Due),vs=[.int n,.ref a]/\IsSh K H a ds/\1<=n/\n<=100/\ds.length<=1000/\(∀d∈ds,zA n d)/\∀p H',H p=none->Same H H'->H' p=some (.lst (zP n.toNat (zY ds n.toNat)))->Q (.ref p) H'
def zm8:=fun {K:Fg} {n:Int} {a:Addr} {ds:List Due} {H:Hp} {Q:VK} {E:XK} h h0 h1 hl hd q=>@id (zjm K [.int n,.ref a] H Q E) ⟨n,a,ds,rfl,h,h0,h1,hl,hd,q⟩
theorem zeC:∀(n:Nat) (L:List Nat),L.Nodup->(∀x∈L,x<n)->L.length<=n
 | 0,L,_,h=>by
  cases L with
  | nil=>exact ye _
  | cons x xs=>exact absurd (h x (by simp)) (yaA _)
 | n+1,L,nd,h=>by
  have h1:(L.erase n).length<=n:=zeC n (L.erase n) (nd.erase n) fun x hx=>by
   have hm:=nd.mem_erase_iff.mp hx
   have:=h x hm.2
   have:=hm.1
   omega
  have h2:=List.length_erase (a:=n) (l:=L)
  split at h2<;>omega
set_option genInjectivity false in
set_option genSizeOf false in
structure Lined(n:Nat)(ds:List Due)(ls:List Int):Prop where
 nd:ls.Nodup
 lt:∀x∈ls,0<=x/\x<n
 up:∀d∈ds,0<d.a->∀j:Nat,ls[j]?=some d.q->∃i:Nat,i<j/\ls[i]?=some d.p
theorem zm0{K:Fg}{H:Hp}{Q:VK}{a b:Addr}{ns:List Int}(h1:SqL K H a (ns.map V.int))(h2:SqL K H b [])(hne:ns≠[])(q:Q (.bl false) H):zaE K (.ref a) (.ref b) H Q:=by
 refine zku (.lst h1 (zce ns)) (.lst h2 .nil) (by rw[zco,zcs];omega) ?_
 cases ns with
 | nil=>exact absurd rfl hne
 | cons n ns=>
  have:PyData.eqv (.list ((n :: ns).map PyData.int)) (.list [])=false:=by simp[PyData.eqv,PyData.eqvAll]
  rw[this];exact q
theorem znU{ls:List Int}{x:Int}{j:Nat}(nd:ls.Nodup)(h:ls[j]?=some x):∀m,m<j->ls[m]?≠some x:=fun m hm e=>by
 obtain⟨hj,ej⟩:=yj.mp h
 obtain⟨hm',em⟩:=yj.mp e
 have:=(yby nd).mp (em.trans ej.symm)
 omega
def Itd(lo:Int)(n:Nat):It:=⟨fun i _=>i<n,fun i H x H'=>H'=H/\x=.int (lo-i),fun i _=>n<=i⟩
theorem zjO{P:Program}{w:World}{K:Fg}{tg:Expr}(it:Addr)(lo:Int)(n:Nat):Turn P w K tg (Itd lo n) [it] it (fun i h=>IsRangeIter h it (lo+(i:Nat)*(-1)) ((n:Int)-(i:Nat)) (-1)) where
 mem:=by simp
 obj:=fun i h st b hb=>by
  have e:b=it:=by simpa using hb
  subst e
  exact⟨_,st,fun v z=>by
   have z':Data.fields _=Data.cell v:=z
   cases z'⟩
 keep:=fun i h h' st k=>k it (by simp) _ st
 item:=by
  intro X hP hw hK hc i pins s σ H E I hf st hg
  subst hP hw hK
  obtain⟨f0,f1,f2,f3,f4,f5⟩:=hf it (by simp)
  have W:=Walks.range (prog:=X.prog) (w:=X.w) (I.ok.hd hc) it lo (-1) n
  refine W.item i s _ _ hg st fun v h' tk hv st' kk=>?_
  obtain⟨t,rfl⟩:=hv
  have I1:Inv X pins σ H { s with heap:=h',toks:=tk }:=I.turned (fun b o hb e=>kk b o (by simpa using hb) e) f0 f1 f3 f4 f5
  refine⟨_,rfl,zlf (s:={ s with heap:=h',toks:=tk }) (n := "range_iterator") st' rfl rfl (by decide) ⟨.int (lo-i),H,I1,⟨t,?_⟩,⟨rfl,rfl⟩,st',fun b hb=>(hf b hb).1⟩⟩
  rw[show lo+(i:Int)*(-1)=lo-(i:Int) by omega]
 done:=by
  intro X hP hw hK hc i pins s σ H E I hf st hg
  subst hP hw hK
  obtain⟨f0,f1,f2,f3,f4,f5⟩:=hf it (by simp)
  exact wpAny_pyNext_range_end (I.ok.hd hc) st (by have:n<=i:=hg;omega) fun h' eb=>⟨rfl,I.turned (t':=s.toks) (fun b o hb e=>eb b o hb e) f0 f1 f3 f4 f5⟩
 self:=fun _ _ _ _ _ st h=>wpAny_pyIter_rangeiter st h
theorem zeg(a b:Int):Builtin.Range.rangeSize a b (-1)=if b<a then a-b else 0:=by
 unfold Builtin.Range.rangeSize
 rw[if_neg (by decide)]
 show(if b<a then(a-b-1)/1+1 else 0)=_
 rw[Int.ediv_one]
 split<;>omega
theorem zkr{a b:Int}(ha:-(2 ^ 62)<=a)(ha':a<2 ^ 62)(hb:-(2 ^ 62)<=b)(hb':b<2 ^ 62):Builtin.Range.small a b (-1)=true:=by
 unfold Builtin.Range.small
 rw[zeg]
 simp only[Builtin.Range.rangeFitsLong,y3,ybI,decide_eq_true_eq,beq_iff_eq,show ¬((-1:Int)>0) by decide,if_false]
 split<;>omega
section
variable {X:Cx}{tg:Expr}
theorem zl0{pins:List (Addr × Obj)}{σ:St}{H:Hp}{s:Shared}{R:It->Hp->Prop}{E:Value->Shared->Prop}{lo hi:Int}{t u v:Tok}{tk:Nat}(I:Inv X pins σ H s)(h1:-(2 ^ 62)<=hi)(h2:hi<2 ^ 62)(h3:-(2 ^ 62)<=lo)(h4:lo<2 ^ 62)
  (q:R (Itd hi (hi-lo).toNat) H):wpAny (model X.prog X.w) X.A (pyIter (.ref s.heap.objs.size)) (PIE X pins σ tg R) E { s with heap:=s.heap.push { cls:=.type "range",data:=.fields #[.int hi t,.int lo u,.int (-1) v] },toks:=tk }:=by
 refine wpAny_pyIter_range (IsRange.new ..) (zkr h1 h2 h3 h4) ?_
 have I1:Inv X pins σ H { s with heap:=s.heap.push { cls:=.type "range",data:=.fields #[.int hi t,.int lo u,.int (-1) v] },toks:=tk }:=I.kept fun b o e=>Heap.get?_push_of_some _ e
 refine⟨(s.heap.push { cls:=.type "range",data:=.fields #[.int hi t,.int lo u,.int (-1) v] }).objs.size,[(s.heap.push { cls:=.type "range",data:=.fields #[.int hi t,.int lo u,.int (-1) v] }).objs.size],_,_,H,rfl,
  I1.kept (t':=tk) fun b o e=>Heap.get?_push_of_some _ e,zjO _ hi (hi-lo).toNat,?_,fun b hb=>?_,q⟩
 ·have e1:hi+((0:Nat):Int)*(-1)=hi:=by simp
  have e2:(((hi-lo).toNat:Nat):Int)-((0:Nat):Int)=Builtin.Range.rangeSize hi lo (-1):=by rw[zeg];split<;>omega
  show IsRangeIter _ _ (hi+((0:Nat):Int)*(-1)) ((((hi-lo).toNat:Nat):Int)-((0:Nat):Int)) (-1)
  rw[e1,e2]
  exact Heap.get?_push_size _ rfl
 ·have e:b=(s.heap.push { cls:=.type "range",data:=.fields #[.int hi t,.int lo u,.int (-1) v] }).objs.size:=by simpa using hb
  subst e
  exact I1.fpOk (ye _) (I1.hok.fresh (ye _))
def zog(ta:TA):TI:=fun σ H R=>ta σ H fun vs H1=>∃i j:Int,vs=[.int i,.int j,.int (-1)]/\(-1000000<=i/\i<1000000/\-1000000<=j/\j<1000000)/\R (Itd i (i-j).toNat) H1
theorem zmf{a b c:Expr}{ta:TA}{p pos:Pos}(hg:Gl X "range")(hm:X.mg "range" = none)(ha:PA X [a,b,c] ta)(hs:autoParam (starEach [a,b,c] X.env=[(false,eval a X.env),(false,eval b X.env),(false,eval c X.env)]) Internal.aut2._auto_1)(hs2:autoParam (starEach [b,c] X.env=[(false,eval b X.env),(false,eval c X.env)]) Internal.aut2._auto_1) :
  PI X tg (.Call (.Name "range" p) [a,b,c] [] pos) (zog ta):=by
 intro pins s σ H R I h
 refine Call_ (zcC I hg hm boot_range (yae (thn (ha pos pins s σ H _ I h) fun us s1 ⟨vs,H1,I1,r1,q1⟩=>?_) (by rw[hs,hs2]) (by rw[hs2];rfl)))
 obtain⟨i,j,e,⟨q1,q2,q3,q4⟩,q⟩:=q1
 subst e
 cases r1 with
 | cons r rr=>
  cases rr with
  | cons r' rr=>
   cases rr with
   | cons r'' rr=>
    cases rr
    obtain⟨t,rfl⟩:=r
    obtain⟨t',rfl⟩:=r'
    obtain⟨t'',rfl⟩:=r''
    exact PySem.call_range_3 (by decide) (zl0 I1 (by omega) (by omega) (by omega) (by omega) q) (Or.inl (PyProof.noPylong_small (by omega)))
end
def zks(R:It->Hp->Prop)(vs:List V)(H:Hp):Prop:=∃i j:Int,vs=[.int i,.int j,.int (-1)]/\(-1000000<=i/\i<1000000/\-1000000<=j/\j<1000000)/\R (Itd i (i-j).toNat) H
theorem zqp{σ:St}{H:Hp}{tr:TA}{R:It->Hp->Prop}(q:tr σ H (zks R)):zog tr σ H R:=q
theorem zo7{H:Hp}{R:It->Hp->Prop}{i j:Int}(h0:-1000000<=i)(h0':i<1000000)(h1:-1000000<=j)(h2:j<1000000)(q:R (Itd i (i-j).toNat) H):zks R [.int i,.int j,.int (-1)] H:=⟨i,j,rfl,⟨h0,h0',h1,h2⟩,q⟩
theorem znj{lo:Int}{n:Nat}:Src (Itd lo n) (fun _=>True) n (fun i x _=>x=.int (lo-i)):=
 ⟨fun i H e hi=>hi,fun H e=>ye _,fun i H x H' e hi ⟨q,r⟩=>by subst q;exact⟨Same.refl _,r⟩⟩
theorem zqo{K:Fg}{H:Hp}{Q:VK}{a:Addr}{i j k:Int}(h:H a=some (.tup [.int j,.int k]))(q:Q (.bl (decide (i∈[j,k]))) H):rIn K false (.int i) (.ref a) H Q:=
 ⟨a,[.int j,.int k],rfl,.inr (.of h),rfl,rfl,by rw[if_neg yo,show inV (.int i) [.int j,.int k]=inV (.int i) ([j,k].map V.int)from rfl,zfl];exact q⟩
def zfM(K:Fg):Sp:=fun vs H Q _=>∃(a:Addr) (ns:List Int) (k m:Int),vs=[.ref a,.int k,.int m]/\SqL K H a (ns.map V.int)/\Light ns/\0<=k/\k<=1000/\0<=m/\∀x,0<=x->x<=m->Q (.int x) H
def zkT:=fun {K:Fg} {a:Addr} {ns:List Int} {k m:Int} {H:Hp} {Q:VK} {E:XK} hS hz h0 h1 m0 q=>@id (zfM K [.ref a,.int k,.int m] H Q E) ⟨a,ns,k,m,rfl,hS,hz,h0,h1,m0,q⟩
def zgQ(K:Fg):Sp:=fun vs H Q _=>∃(a:Addr) (ns:List Int),vs=[.ref a]/\SqL K H a (ns.map V.int)/\Light ns/\∀x,1<=x->x<=9->Q (.int x) H
def zmu:=fun {K:Fg} {a:Addr} {ns:List Int} {H:Hp} {Q:VK} {E:XK} hS hz q=>@id (zgQ K [.ref a] H Q E) ⟨a,ns,rfl,hS,hz,q⟩
def zf6(K:Fg):Sp:=fun vs H Q _=>∃(a:Addr) (ns:List Int) (n:Int),vs=[.ref a,.int n]/\SqL K H a (ns.map V.int)/\Light ns/\1<=n/\n<=9/\∀x,0<=x->x<=57->(n=1->x=0)->Q (.int x) H
def zk1:=fun {K:Fg} {a:Addr} {ns:List Int} {n:Int} {H:Hp} {Q:VK} {E:XK} hS hz n0 n1 q=>@id (zf6 K [.ref a,.int n] H Q E) ⟨a,ns,n,rfl,hS,hz,n0,n1,q⟩
def zgV(K:Fg):Sp:=fun vs H Q _=>∃n a ds,vs=[.ref a,.int n]/\IsSh K H a ds/\0<=n/\n<=1000/\(∀d∈ds,zA n d) /\
 ∀l H' as,H l=none->Same H H'->H' l=some (.lst (List.map V.ref as))->as.length=n.toNat->Rows H' as 3 (zH ds)->(∀b∈as,H b=none)->Q (.ref l) H'
def zl3:=fun {K:Fg} {n:Int} {a:Addr} {ds:List Due} {H:Hp} {Q:VK} {E:XK} h h0 h1 hd q=>@id (zgV K [.ref a,.int n] H Q E) ⟨n,a,ds,rfl,h,h0,h1,hd,q⟩
def zio:Sp:=fun vs H Q _=>∃a b:Int,vs=[.int a,.int b]/\0<=a/\0<=b/\Q (.int (My.gc a b)) H
theorem znH{a b:Int}{H:Hp}{Q:VK}{E:XK}(h0:0<=a)(h1:0<=b)(q:Q (.int (My.gc a b)) H):zio [.int a,.int b] H Q E:=⟨a,b,rfl,h0,h1,q⟩
theorem zes{m r:Nat}:∀(ds:List Due),(∀d∈ds,0<=d.a/\d.a<=1000000000000)->0<=zH ds m r/\zH ds m r<=1000000000000*(ds.length:Int):=by
 intro ds
 suffices h:∀t,t<=ds.length->(∀d∈ds,0<=d.a/\d.a<=1000000000000)->0<=zH (ds.take t) m r/\zH (ds.take t) m r<=1000000000000*(t:Int) by
  intro hd
  have:=h ds.length (ye _) hd
  rwa [yF]at this
 intro t
 induction t with
 | zero=>intro _ _;exact⟨yaS 0,yaS 0⟩
 | succ t ih=>
  intro ht hd
  obtain⟨d,hdt⟩:=zC (show t<ds.length by omega)
  have h1:=ih (by omega) hd
  have h2:=hd d (yb hdt)
  rw[zam hdt,zcl]
  split<;>omega
def zbF(f:Nat->Int):Nat->Int
 | 0=>0
 | r+1=>zbF f r+f r
def zaG(f:Nat->Int)(q:Rat)(r:Nat):Prop:=q.num<zbF f (r+1)*(q.den:Int)
instance (f:Nat->Int) (q:Rat) (r:Nat):Decidable (zaG f q r):=inferInstanceAs (Decidable (_<_))
def zae(f:Nat->Int)(q:Rat):Nat->Option Nat
 | 0=>none
 | k+1=>match zae f q k with
  | some r=>some r
  | none=>if zaG f q k then some k else none
theorem zgh{f:Nat->Int}{q:Rat}{k r:Nat}(h:zae f q k=some r):∀j,zae f q (k+j)=some r
 | 0=>h
 | j+1=>by show(match zae f q (k+j)with | some r=>some r | none=>_)=_;rw[zgh h j]
def za0(f:Nat->Int)(q:Rat):Nat->Option Nat
 | 0=>none
 | t+1=>if zaG f q (2-t)then some (2-t)else za0 f q t
theorem zfn{f:Nat->Int}(hf:∀j,j<3->0<=f j/\f j<=100000000000000):∀i,i<=3->0<=zbF f i/\zbF f i<=100000000000000*(i:Int)
 | 0,_=>⟨yaS 0,yaS 0⟩
 | i+1,h=>by
  have h1:=zfn hf i (by omega)
  have h2:=hf i (by omega)
  show 0<=zbF f i+f i/\zbF f i+f i<=_
  omega
theorem zdI(f:Nat->Int):∀n,zaH (vec n f)=zbF f n
 | 0=>rfl
 | n+1=>by rw[zcg,zhk,zdI f n];rfl
theorem zfb{n:Nat}{w:Nat->Option Nat}:zP (n+1) w=zP n w++[zaX (w n)]:=by unfold zP;rw[yG,yl];rfl
theorem zoB{i:Int}(h0:-1000000000000000<=i)(h1:i<=1000000000000000):SzQ ((i:Int):Rat) 60000 60000:=
 ⟨yh (sz200 (by show _<i;omega) (by show i<_;omega)) (by decide),yh (sz200 (i:=1) (by decide) (by decide)) (by decide)⟩
theorem ziL{p t n:Int}(p0:0<=p)(p1:p<n)(t0:0<=t)(t1:t<n-1):0<=(p+1+t)%n/\(p+1+t)%n<n/\p≠(p+1+t)%n:=by
 refine⟨ya6 _ (by omega),yaN _ (by omega),?_⟩
 by_cases h:p+1+t<n
 ·rw[Int.emod_eq_of_lt (by omega) h];omega
 ·rw[<- Int.sub_emod_right,Int.emod_eq_of_lt (by omega) (by omega)];omega
theorem zkO(f:Nat->Int)(q:Rat):za0 f q 3=zae f q 3:=by
 unfold za0 za0 za0 za0 zae zae zae zae
 by_cases h0:zaG f q 0
 ·simp[h0]
 ·by_cases h1:zaG f q 1
  ·simp[h0,h1]
  ·simp[h0,h1]
theorem under_int{f:Nat->Int}{q:Rat}{r:Nat}:q<((zbF f (r+1):Int):Rat)↔zaG f q r:=by
 rw[Rat.lt_iff]
 show q.num*1<_↔_
 rw[Int.mul_one]
 exact Iff.rfl
def zf5(K:Fg):Sp:=fun vs H Q _=>∃(l y:Addr) (f:Nat->Int) (q:Rat),vs=[.ref l,.ref y]/\H l=some (.lst ((vec 3 f).map V.int))/\(∀j,j<3->0<=f j/\f j<=100000000000000)/\IsQ H y q/\SzQ q 60000 60000/\∀H',Same H H'->Q (zaX (zae f q 3)) H'
def zkX:=fun {K:Fg} {l y:Addr} {f:Nat->Int} {q:Rat} {H:Hp} {Q:VK} {E:XK} hl hf hy hs k=>@id (zf5 K [.ref l,.ref y] H Q E) ⟨l,y,f,q,rfl,hl,hf,hy,hs,k⟩
abbrev zl5(ds:List Due)(qs:List Rat):List V:=zP qs.length fun m=>zae (zH ds m) (qs.getD m 0) 3
def zfA(K:Fg):Sp:=fun vs H Q _=>∃(a y:Addr) (ds:List Due) (ws:List V) (qs:List Rat),vs=[.ref a,.ref y]/\IsSh K H a ds/\(∀d∈ds,zA qs.length d/\d.a<=1000000000000)/\ds.length<=64/\H y=some (.lst ws)/\IsQs H ws qs/\qs.length<=9/\(∀q∈qs,SzQ q 60000 60000)/\∀p H',H p=none->Same H H'->H' p=some (.lst (zl5 ds qs))->Q (.ref p) H'
def ze8:=fun {K:Fg} {a y:Addr} {ds:List Due} {ws:List V} {qs:List Rat} {H:Hp} {Q:VK} {E:XK} h hy hq hd hl h9 hs k=>@id (zfA K [.ref a,.ref y] H Q E) ⟨a,y,ds,ws,qs,rfl,h,hd,hl,hy,hq,h9,hs,k⟩
def zd9(f:Nat->Int)(q:Rat):Nat->Rat
 | 0=>q
 | r+1=>zd9 f q r-(if((f r:Int):Rat)<zd9 f q r then((f r:Int):Rat)else zd9 f q r)
def zdk(f:Nat->Int)(q:Rat)(r:Nat):Rat:=if((f r:Int):Rat)<zd9 f q r then((f r:Int):Rat)else zd9 f q r
def zee(f:Nat->Int)(q:Rat)(r:Nat):Rat:=if 0<f r then zdk f q r/((f r:Int):Rat)else 0
theorem zk7(f:Nat->Int)(q:Rat)(r:Nat):zd9 f q (r+1)=zd9 f q r-zdk f q r:=rfl
section
variable {f:Nat->Int}{q:Rat}
theorem zbd{i:Int}(h:0<=i):(0:Rat)<=(i:Rat):=by exact_mod_cast h
theorem zeZ{i:Int}(h:0<i):(0:Rat)<(i:Rat):=by exact_mod_cast h
end
theorem zqg(p:Rat):((p.num:Int):Rat)=p*((p.den:Int):Rat):=by
 have h:p=((p.num:Int):Rat)/((p.den:Int):Rat):=by
  rw[<- yaV,yba]
 have:((p.den:Int):Rat)≠0:=by
  intro z
  have:(p.den:Int)=0:=by exact_mod_cast z
  have:=p.den_nz
  omega
 grind
theorem zmw{i j:Int}(h:(i:Rat)=(j:Rat)):i=j:=by exact_mod_cast h
def zmX(ds:List Due)(qs:List Rat)(d:Due):Rat:=((d.a:Int):Rat)*zee (zH ds d.p.toNat) (qs.getD d.p.toNat 0) d.r.toNat
def zg1:Sp:=fun vs H Q _=>∃(a b:Addr) (q r:Rat),vs=[.ref a,.ref b]/\IsQ H a q/\IsQ H b r/\OkQ q/\SzQ r 8999 8999/\r.num≠0/\NewQ H Q (q/r)
def zl4:=fun {a b:Addr} {q r:Rat} {H:Hp} {Q:VK} {E:XK} h1 h2 s1 s2 h0 k=>@id (zg1 [.ref a,.ref b] H Q E) ⟨a,b,q,r,rfl,h1,h2,s1,s2,h0,k⟩
theorem zo9(q:Rat):My.gc (if q.num<0 then -q.num else q.num) (q.den:Int)=1:=by
 have h:=My.gc_abs q.num (q.den:Int)
 rw[if_neg (show ¬((q.den:Int)<0) by omega)]at h
 rw[h]
 have:=q.reduced
 unfold My.gc
 show((Nat.gcd q.num.natAbs (q.den:Int).natAbs:Nat):Int)=1
 rw[yaM]
 exact congrArg _ this
def zeU:Sp:=fun vs H Q _=>∃(a:Addr) (q:Rat),vs=[.ref a]/\IsQ H a q/\Q (.bl true) H
theorem zjG{a:Addr}{q:Rat}{H:Hp}{Q:VK}{E:XK}(h:IsQ H a q)(k:Q (.bl true) H):zeU [.ref a] H Q E:=⟨a,q,rfl,h,k⟩
def zgb(K:Fg):Sp:=fun vs H Q _=>∃(a:Addr) (ws:List V) (qs:List Rat) (n:Int),vs=[.ref a,.int n]/\H a=some (.lst ws)/\IsQs H ws qs/\(qs.length:Int)=n/\Q (.bl true) H
def zkZ:=fun {K:Fg} {a:Addr} {ws:List V} {qs:List Rat} {n:Int} {H:Hp} {Q:VK} {E:XK} h hq hn k=>@id (zgb K [.ref a,.int n] H Q E) ⟨a,ws,qs,n,rfl,h,hq,hn,k⟩
set_option genInjectivity false in
set_option genSizeOf false in
structure PayOk(ds:List Due)(g:Due->Rat):Prop where
 nn:∀d∈ds,0<=g d
 le:∀d∈ds,g d<=((d.a:Int):Rat)
 sz:∀d∈ds,SzQ (g d) 1000 1000
 am:∀d∈ds,0<=d.a/\d.a<=100000000000000
section
variable {ds:List Due}{qs:List Rat}
end
section
variable {f:Nat->Int}{q:Rat}
end
def zig(ds:List Due)(g:Due->Rat)(m:Nat):List Rat:=(ds.filter fun d=>decide (d.q=(m:Int))).map g
theorem zkR(ds:List Due)(d:Due)(g:Due->Rat)(m:Nat):zig (ds++[d]) g m=zig ds g m++if d.q=(m:Int) then[g d] else[]:=by
 unfold zig
 rw[yat,yl]
 congr 1
 by_cases e:d.q=(m:Int)
 ·rw[if_pos e,yaJ (p:=fun d:Due=>decide (d.q=(m:Int))) (by simpa using e)];rfl
 ·rw[if_neg e,yaK (p:=fun d:Due=>decide (d.q=(m:Int))) (by simpa using e)];rfl
def za5(ds:List Due)(g:Due->Rat)(m:Nat):Rat:=zk6 (zig ds g m)
theorem zdr(ds:List Due)(d:Due)(g:Due->Rat)(m:Nat):za5 (ds++[d]) g m=za5 ds g m+if d.q=(m:Int)then g d else 0:=by
 unfold za5
 rw[zkR]
 split
 ·rw[zlq]
 ·rw[yan];grind
def PRows(H:Hp)(as:List Addr)(F:Nat->List Rat):Prop:=as.Nodup/\∀(m:Nat) (a:Addr),as[m]?=some a->∃vs,H a=some (.lst vs)/\IsQs H vs (F m)
section
variable {H H':Hp}{as:List Addr}{F:Nat->List Rat}
theorem PRows.same(h:PRows H as F)(e:Same H H'):PRows H' as F:=⟨h.1,fun m a q=>by obtain⟨vs,h1,h2⟩:=h.2 m a q;exact⟨vs,e.at h1,h2.same e⟩⟩
theorem PRows.but{l:Addr}(h:PRows H as F)(g:LBut l H H')(n:l∉as):PRows H' as F:=
 ⟨h.1,fun m a q=>by
  obtain⟨vs,h1,h2⟩:=h.2 m a q
  exact⟨vs,g.lst h1 fun z=>n (z▸yb q),LBut.isQs g h2⟩⟩
theorem PRows.fresh{p:Addr}(h:PRows H as F)(hp:H p=none):p∉as:=fun m=>by
 obtain⟨i,hi,e⟩:=yI m
 obtain⟨vs,h1,_⟩:=h.2 i p (by rw[yi hi,e])
 rw[hp]at h1;cases h1
end
def zky(ds:List Due)(m:Nat):Rat:=((zaH (vec 3 (zH ds m)):Int):Rat)
theorem zdc{i j:Int}(h:i<=j):((i:Int):Rat)<=((j:Int):Rat):=by exact_mod_cast h
def Dv(D:Nat)(x:Rat):Prop:=∃t:Int,x*((D:Int):Rat)=(t:Rat)
section
variable {D E:Nat}{x y:Rat}
theorem Dv.den(hD:0<D)(h:Dv D x):x.den∣D:=by
 obtain⟨t,e⟩:=h
 have e1:x.num*(D:Int)=t*(x.den:Int):=by
  apply zmw
  rw[yP,yP,zqg x,<- e]
  grind
 have e2:x.den∣x.num.natAbs*D:=by
  have:(x.den:Int)∣x.num*(D:Int):=⟨t,by rw[e1,yaz]⟩
  have:=Int.natAbs_dvd_natAbs.mpr this
  rwa [yaM,ybm,yaM]at this
 exact Nat.Coprime.dvd_of_dvd_mul_left (Nat.Coprime.symm x.reduced) e2
end
def DvB(D:Nat)(x:Rat):Prop:=0<=x/\x<=((100000000000000000:Int):Rat)/\Dv D x
section
variable {f:Nat->Int}{q q':Rat}{D:Nat}
def rkN(t:Int):Nat:=if 0<t then t.toNat else 1
end
def zom(F:Due->Int):List Due->Nat
 | []=>1
 | d :: ds=>rkN (F d)*zom F ds
def rkD(ds:List Due)(d:Due):Int:=zH ds d.p.toNat d.r.toNat
def zpF(ds:List Due):Nat:=zom (rkD ds) ds
set_option genInjectivity false in
set_option genSizeOf false in
structure Deep(ds:List Due)(qs:List Rat)(D:Nat):Prop where
 pos:0<D
 lay:∀q∈qs,DvB D q
 zs:sz ((D*zpF ds:Nat):Int)<=3000
def zoc(ds:List Due)(ps:List Int)(qs:List Rat)(m:Nat):Rat:=
 if((ps.getD m 0:Int):Rat)+za5 ds (zmX ds qs) m<zky ds m then((ps.getD m 0:Int):Rat)+za5 ds (zmX ds qs) m else zky ds m
theorem zmb{m r:Nat}{A:Int}:∀(ds:List Due),(∀d∈ds,0<=d.a/\d.a<=A)->0<=A->0<=zH ds m r/\zH ds m r<=A*(ds.length:Int):=by
 intro ds h hA
 have key:∀t,t<=ds.length->0<=zH (ds.take t) m r/\zH (ds.take t) m r<=A*(t:Int):=by
  intro t
  induction t with
  | zero=>intro _;rw[List.take_zero];exact⟨yaS _,by show(0:Int)<=A*0;omega⟩
  | succ t ih=>
   intro ht
   obtain⟨d,hd⟩:=zC (show t<ds.length by omega)
   have h1:=ih (by omega)
   have h2:=h d (yb hd)
   have e:A*((t+1:Nat):Int)=A*(t:Int)+A:=by push_cast;rw[Int.mul_add,Int.mul_one]
   rw[zam hd,zcl,e]
   split<;>omega
 have:=key ds.length (ye _)
 rwa [yF]at this
def Drawn(ds:List Due)(c m:Int):Prop:=(m=0->∀d∈ds,d.a<=12)/\(m≠0->c<17)/\ds.length=c.toNat
def zfz(ps:List Int):Prop:=∀p∈ps,0<=p/\p<=100000000000000
def zfQ(K:Fg):Sp:=fun vs H Q _=>∃(a:Addr) (ns:List Int) (k y m:Int),vs=[.ref a,.int k,.int y,.int m]/\SqL K H a (ns.map V.int)/\Light ns/\0<=k/\k<=900/\0<=m/\m<=1000000000000/\∀x,0<=x->x<=100000000000000->Q (.int x) H
def zkK:=fun {K:Fg} {a:Addr} {ns:List Int} {k y m:Int} {H:Hp} {Q:VK} {E:XK} hS hz h0 h1 m0 m1 q=>@id (zfQ K [.ref a,.int k,.int y,.int m] H Q E) ⟨a,ns,k,y,m,rfl,hS,hz,h0,h1,m0,m1,q⟩
def zff(K:Fg):Sp:=fun vs H Q _=>∃(a:Addr) (ns:List Int) (n m:Int),vs=[.ref a,.int n,.int m]/\SqL K H a (ns.map V.int)/\Light ns/\0<=n/\n<=9/\0<=m/\m<=1000000000000/\∀l H' ps,H l=none->Same H H'->H' l=some (.lst (ps.map V.int))->ps.length=n.toNat->zfz ps->Q (.ref l) H'
def zjH:=fun {K:Fg} {a:Addr} {ns:List Int} {n m:Int} {H:Hp} {Q:VK} {E:XK} hS hz n0 n1 m0 m1 q=>@id (zff K [.ref a,.int n,.int m] H Q E) ⟨a,ns,n,m,rfl,hS,hz,n0,n1,m0,m1,q⟩
def zeV(K:Fg):Sp:=fun vs H Q _=>∃(a:Addr) (ns:List Int) (k m:Int),vs=[.ref a,.int k,.int m]/\SqL K H a (ns.map V.int)/\Light ns/\0<=k/\k<=1000/\0<=m/\m<=1000000000000/\∀x,0<=x->x<=1000000000000->(m=0->x<=12)->Q (.int x) H
def zjU:=fun {K:Fg} {a:Addr} {ns:List Int} {k m:Int} {H:Hp} {Q:VK} {E:XK} hS hz h0 h1 m0 m1 q=>@id (zeV K [.ref a,.int k,.int m] H Q E) ⟨a,ns,k,m,rfl,hS,hz,h0,h1,m0,m1,q⟩
def ziI(K:Fg):Sp:=fun vs H Q _=>∃(a:Addr) (ns:List Int) (k n m:Int),vs=[.ref a,.int k,.int n,.int m]/\SqL K H a (ns.map V.int)/\Light ns/\0<=k/\k<=900/\2<=n/\n<=9/\0<=m/\m<=1000000000000/\∀p H' d,H p=none->Same H H'->H' p=some (.tup (zdz d))->zA n d->d.a<=1000000000000->(m=0->d.a<=12)->Q (.ref p) H'
def zm5:=fun {K:Fg} {a:Addr} {ns:List Int} {k n m:Int} {H:Hp} {Q:VK} {E:XK} hS hz h0 h1 n0 n1 m0 m1 q=>@id (ziI K [.ref a,.int k,.int n,.int m] H Q E) ⟨a,ns,k,n,m,rfl,hS,hz,h0,h1,n0,n1,m0,m1,q⟩
def zfS(K:Fg):Sp:=fun vs H Q _=>∃(a:Addr) (ns:List Int) (n c m:Int),vs=[.ref a,.int n,.int c,.int m]/\SqL K H a (ns.map V.int)/\Light ns/\1<=n/\n<=9/\0<=c/\c<=64/\(n=1->c=0)/\0<=m/\m<=1000000000000/\∀l H' vs ds,H l=none->Same H H'->H' l=some (.lst vs)->IsTs zdz H' vs ds->(∀d∈ds,zA n d/\d.a<=1000000000000)->ds.length=c.toNat->(m=0->∀d∈ds,d.a<=12)->Q (.ref l) H'
def zkw:=fun {K:Fg} {a:Addr} {ns:List Int} {n c m:Int} {H:Hp} {Q:VK} {E:XK} hS hz n0 n1 c0 c1 nc m0 m1 q=>@id (zfS K [.ref a,.int n,.int c,.int m] H Q E) ⟨a,ns,n,c,m,rfl,hS,hz,n0,n1,c0,c1,nc,m0,m1,q⟩
theorem PRows.snoc{H:Hp}{as:List Addr}{F:Nat->List Rat}{p:Addr}{vs:List V}(h:PRows H as F)(n:p∉as)(hp:H p=some (.lst vs))(hv:IsQs H vs (F as.length)):PRows H (as++[p]) F:=by
 refine⟨ybc.mpr ⟨h.1,by simp,fun a ha b hb e=>n (by rw[yv]at hb;subst hb;subst e;exact ha)⟩,fun i a q=>?_⟩
 rw[yaY]at q
 split at q
 ·exact h.2 i a q
 ·rename_i hi
  have hi':i-as.length=0:=by
   cases e:i-as.length with
   | zero=>rfl
   | succ m=>rw[e]at q;cases q
  rw[hi']at q;cases q
  have:i=as.length:=by omega
  subst this
  exact⟨vs,hp,hv⟩
theorem PRows.nil{H:Hp}{F:Nat->List Rat}:PRows H [] F:=⟨yaF,fun _ _ h=>nomatch h⟩
theorem PRows.ne{H:Hp}{as:List Addr}{F:Nat->List Rat}{D:Addr}(h:PRows H as F)(hD:H D=some (.lst (as.map V.ref))):D∉as:=fun z=>by
 obtain⟨i,hi,e⟩:=yI z
 have hb:as[i]?=some D:=by rw[yi hi,e]
 obtain⟨vs,h1,h2⟩:=h.2 i D hb
 rw[hD]at h1;cases h1
 obtain⟨c0,hc0⟩:=zC (show 0<as.length by omega)
 obtain⟨v,q,ev,_,hv⟩:=h2.get (show(as.map V.ref)[0]?=some (.ref c0) by rw[yf,hc0];rfl)
 obtain⟨ws,w1,_⟩:=h.2 0 c0 hc0
 cases ev
 have hv':H c0=some (.tup [.int q.num,.int (q.den:Int)]):=hv
 rw[w1]at hv';cases hv'
theorem PRows.congr{H:Hp}{as:List Addr}{F G:Nat->List Rat}(h:PRows H as F)(e:∀m,m<as.length->F m=G m):PRows H as G:=
 ⟨h.1,fun m a q=>by obtain⟨vs,h1,h2⟩:=h.2 m a q;exact⟨vs,h1,by rw[<- e m (yj.mp q).1];exact h2⟩⟩
end Internal
namespace Dt
def sm(n:Nat)(f:Nat->Rat):Rat:=match n with
 | 0=>0
 | n+1=>sm n f+f n
theorem sm_congr{f g:Nat->Rat}:∀{n:Nat},(∀i,i<n->f i=g i)->sm n f=sm n g
 | 0,_=>rfl
 | n+1,h=>by unfold sm;rw[sm_congr fun i hi=>h i (by omega),h n (by omega)]
theorem sm_zero:∀{n:Nat} {f:Nat->Rat},(∀i,i<n->f i=0)->sm n f=0
 | 0,_,_=>rfl
 | n+1,f,h=>by unfold sm;rw[sm_zero fun i hi=>h i (by omega),h n (by omega)];grind
theorem sm_add{f g:Nat->Rat}:∀n:Nat,sm n (fun i=>f i+g i)=sm n f+sm n g
 | 0=>by unfold sm;grind
 | n+1=>by unfold sm;rw[sm_add n];grind
theorem sm_mul{f:Nat->Rat}(a:Rat):∀n:Nat,sm n (fun i=>a*f i)=a*sm n f
 | 0=>by unfold sm;grind
 | n+1=>by unfold sm;rw[sm_mul a n];grind
theorem sm_neg{f:Nat->Rat}(n:Nat):sm n (fun i=>-f i)=-sm n f:=by
 have:=sm_mul (f:=f) (-1) n
 rw[sm_congr (g:=fun i=>-1*f i) (fun i _=>by grind),this];grind
theorem sm_lin{f g:Nat->Rat}(a b:Rat)(n:Nat):sm n (fun i=>a*f i+b*g i)=a*sm n f+b*sm n g:=by
 rw[sm_add,sm_mul,sm_mul]
theorem sm_swap{F:Nat->Nat->Rat}(m:Nat):∀n:Nat,sm n (fun i=>sm m (F i))=sm m (fun j=>sm n fun i=>F i j)
 | 0=>by
  show(0:Rat)=sm m fun _=>0
  rw[sm_zero fun _ _=>rfl]
 | n+1=>by
  show sm n (fun i=>sm m (F i))+sm m (F n)=sm m fun j=>sm n (fun i=>F i j)+F n j
  rw[sm_swap m n,sm_add]
theorem sm_one{n i:Nat}{f:Nat->Rat}(hi:i<n)(h:∀j,j<n->j≠i->f j=0):sm n f=f i:=by
 induction n with
 | zero=>omega
 | succ n ih=>
  unfold sm
  by_cases e:i=n
  ·subst e
   rw[sm_zero fun j hj=>h j (by omega) (by omega)];grind
  ·rw[ih (by omega) fun j hj hne=>h j (by omega) hne,h n (by omega) (fun z=>e z.symm)];grind
def skip(i:Nat)(f:Nat->Rat):Nat->Rat:=fun r=>if r<i then f r else f (r+1)
def up(i k:Nat):Nat:=if k<i then k else k+1
theorem zeh(i:Nat)(f:Nat->Rat)(k:Nat):skip i f k=f (up i k):=by unfold skip up;split<;>rfl
theorem zkS{h:Nat->Rat}{i:Nat}:∀{n:Nat},i<n+1->sm n (fun k=>h (up i k))=sm (n+1) (fun j=>if j=i then 0 else h j)
 | 0,hi=>by
  have:i=0:=by omega
  subst this
  unfold sm;unfold sm
  rw[if_pos rfl];grind
 | n+1,hi=>by
  by_cases e:i=n+1
  ·subst e
   rw[show sm (n+1+1) (fun j=>if j=n+1 then 0 else h j)=sm (n+1) (fun j=>if j=n+1 then 0 else h j)+(if n+1=n+1 then 0 else h (n+1))from rfl,if_pos rfl]
   rw[sm_congr (f:=fun k=>h (up (n+1) k)) (g:=fun j=>if j=n+1 then 0 else h j) fun k hk=>by
    show h (up (n+1) k)=if k=n+1 then 0 else h k
    rw[if_neg (by omega)]
    unfold up
    rw[if_pos (by omega)]]
   grind
  ·have ih:=zkS (h:=h) (i:=i) (n:=n) (by omega)
   rw[show sm (n+1) (fun k=>h (up i k))=sm n (fun k=>h (up i k))+h (up i n)from rfl,ih]
   rw[show sm (n+1+1) (fun j=>if j=i then 0 else h j)=sm (n+1) (fun j=>if j=i then 0 else h j)+(if n+1=i then 0 else h (n+1))from rfl,if_neg (fun z=>e z.symm)]
   unfold up
   rw[if_neg (by omega)]
def sgn:Nat->Rat
 | 0=>1
 | n+1=>-sgn n
def det:Nat->(Nat->Nat->Rat)->Rat
 | 0,_=>1
 | n+1,c=>sm (n+1) fun i=>sgn (n+i)*c n i*det n (fun j=>skip i (c j))
theorem det_congr:∀{n:Nat} {c c':Nat->Nat->Rat},(∀j r,j<n->r<n->c j r=c' j r)->det n c=det n c'
 | 0,_,_,_=>rfl
 | n+1,c,c',h=>by
  unfold det
  refine sm_congr fun i hi=>?_
  rw[h n i (by omega) hi,det_congr fun j r hj hr=>?_]
  unfold skip
  split
  ·exact h j r (by omega) (by omega)
  ·exact h j (r+1) (by omega) (by omega)
def setc(c:Nat->Nat->Rat)(m:Nat)(u:Nat->Rat):Nat->Nat->Rat:=fun j=>if j=m then u else c j
theorem ze7{c:Nat->Nat->Rat}{m:Nat}{u:Nat->Rat}{i:Nat}:(fun j=>skip i (setc c m u j))=setc (fun j=>skip i (c j)) m (skip i u):=by
 funext j
 unfold setc
 split<;>rfl
theorem zb6{m:Nat}(a b:Rat):∀{n:Nat} {c:Nat->Nat->Rat} {u v:Nat->Rat},m<n->det n (setc c m fun r=>a*u r+b*v r)=a*det n (setc c m u)+b*det n (setc c m v)
 | 0,_,_,_,h=>by omega
 | n+1,c,u,v,h=>by
  unfold det
  rw[<- sm_lin]
  refine sm_congr fun i hi=>?_
  by_cases e:m=n
  ·subst e
   have e1:∀w:Nat->Rat,setc c m w m=w:=fun w=>by unfold setc;rw[if_pos rfl]
   have e2:∀w:Nat->Rat,det m (fun j=>skip i (setc c m w j))=det m (fun j=>skip i (c j)):=fun w=>det_congr fun j r hj hr=>by
    unfold setc;rw[if_neg (by omega)]
   rw[e1,e1,e1,e2,e2,e2]
   grind
  ·have e1:∀w:Nat->Rat,setc c m w n=c n:=fun w=>by unfold setc;rw[if_neg (fun z=>e z.symm)]
   rw[e1,e1,e1,ze7,ze7,ze7]
   have e3:skip i (fun r=>a*u r+b*v r)=fun r=>a*skip i u r+b*skip i v r:=by
    funext r;unfold skip;split<;>rfl
   rw[e3,zb6 a b (by omega)]
   grind
theorem zdp{c:Nat->Nat->Rat}{m:Nat}:setc c m (c m)=c:=by
 funext j;unfold setc;split
 ·rename_i h;rw[h]
 ·rfl
def zia(n:Nat)(c:Nat->Nat->Rat)(p q:Nat):Prop:=∀r,r<n->c p r=c q r
def swapc(c:Nat->Nat->Rat)(p q:Nat):Nat->Nat->Rat:=fun j=>if j=p then c q else if j=q then c p else c j
theorem zjS{n p q:Nat}(hz:∀c:Nat->Nat->Rat,zia n c p q->det n c=0)(hp:p<n)(hq:q<n)(hpq:p≠q)(c:Nat->Nat->Rat):det n (swapc c p q)=-det n c:=by
 have two:∀u v:Nat->Rat,det n (setc (setc c p u) q v)=-det n (setc (setc c p v) q u):=fun u v=>by
  have z0:=hz (setc (setc c p fun r=>1*u r+1*v r) q fun r=>1*u r+1*v r) fun r _=>by
   unfold setc;rw[if_neg hpq,if_pos rfl,if_pos rfl]
  have zu:=hz (setc (setc c p u) q u) fun r _=>by unfold setc;rw[if_neg hpq,if_pos rfl,if_pos rfl]
  have zv:=hz (setc (setc c p v) q v) fun r _=>by unfold setc;rw[if_neg hpq,if_pos rfl,if_pos rfl]
  have comm:∀a b:Nat->Rat,setc (setc c p a) q b=setc (setc c q b) p a:=fun a b=>by
   funext j;unfold setc
   by_cases h1:j=q
   ·rw[if_pos h1,if_neg (fun z=>hpq (z.symm.trans h1)),if_pos h1]
   ·rw[if_neg h1]
    by_cases h2:j=p
    ·rw[if_pos h2,if_pos h2]
    ·rw[if_neg h2,if_neg h2,if_neg h1]
  rw[zb6 1 1 hq,comm,zb6 1 1 hp,comm,zb6 1 1 hp,<- comm,<- comm,<- comm,<- comm]at z0
  grind
 have h:=two (c q) (c p)
 have e1:setc (setc c p (c q)) q (c p)=swapc c p q:=by
  funext j;unfold setc swapc
  by_cases h1:j=q
  ·rw[if_pos h1,if_neg (fun z=>hpq (z.symm.trans h1)),if_pos h1]
  ·rw[if_neg h1]
   by_cases h2:j=p
   ·rw[if_pos h2,if_pos h2]
   ·rw[if_neg h2,if_neg h2,if_neg h1]
 have e2:setc (setc c p (c p)) q (c q)=c:=by rw[zdp];exact zdp
 rw[e1,e2]at h
 exact h
theorem skip2{f:Nat->Rat}{i k r:Nat}(h:i<=k):skip k (skip i f) r=skip i (skip (k+1) f) r:=by
 unfold skip
 by_cases h1:r<i
 ·rw[if_pos (by omega),if_pos h1,if_pos h1,if_pos (by omega)]
 ·by_cases h2:r<k
  ·rw[if_pos h2,if_neg h1,if_neg h1,if_pos (by omega)]
  ·rw[if_neg h2,if_neg (by omega),if_neg h1,if_neg (by omega)]
theorem zjz{n:Nat}{c:Nat->Nat->Rat}(h:zia (n+2) c n (n+1)):det (n+2) c=0:=by
 -- what two rows i,j bring
 let M:Nat->Nat->Rat:=fun i k=>det n (fun j=>skip k (skip i (c j)))
 let G:Nat->Nat->Rat:=fun i j=>if j<i then sgn (n+1+i)*c (n+1) i*(sgn (n+j)*c (n+1) j*M i j)else sgn (n+1+i)*c (n+1) i*(sgn (n+(j-1))*c (n+1) j*M i (j-1))
 have e1:det (n+2) c=sm (n+2) fun i=>sm (n+2) fun j=>if j=i then 0 else G i j:=by
  show sm (n+2) (fun i=>sgn (n+1+i)*c (n+1) i*det (n+1) (fun j=>skip i (c j)))=_
  refine sm_congr fun i hi=>?_
  show sgn (n+1+i)*c (n+1) i*sm (n+1) (fun k=>sgn (n+k)*skip i (c n) k*det n (fun j=>skip k (skip i (c j))))=_
  rw[<- sm_mul,<- zkS (n:=n+1) hi]
  refine sm_congr fun k hk=>?_
  show sgn (n+1+i)*c (n+1) i*(sgn (n+k)*skip i (c n) k*M i k)=G i (up i k)
  show _=if up i k<i then sgn (n+1+i)*c (n+1) i*(sgn (n+up i k)*c (n+1) (up i k)*M i (up i k))else sgn (n+1+i)*c (n+1) i*(sgn (n+(up i k-1))*c (n+1) (up i k)*M i (up i k-1))
  rw[zeh]
  have hu:up i k<n+2:=by unfold up;split<;>omega
  rw[h _ hu]
  by_cases hk':k<i
  ·have:up i k=k:=by unfold up;rw[if_pos hk']
   rw[this,if_pos hk']
  ·have:up i k=k+1:=by unfold up;rw[if_neg hk']
   rw[this,if_neg (by omega),Nat.add_sub_cancel]
 have anti:∀i j,i<n+2->j<n+2->i<j->G i j=-G j i:=fun i j hi hj hij=>by
  show(if j<i then _ else _)=-(if i<j then _ else _)
  rw[if_neg (by omega),if_pos hij]
  have hM:M i (j-1)=M j i:=det_congr fun l r hl hr=>by
   have:=skip2 (f:=c l) (i:=i) (k:=j-1) (r:=r) (by omega)
   rw[show j-1+1=j by omega]at this
   exact this
  rw[hM]
  have s1:sgn (n+1+i)=-sgn (n+i):=by rw[show n+1+i=n+i+1 by omega];rfl
  have s2:sgn (n+1+j)=sgn (n+(j-1)):=by
   rw[show n+1+j=n+(j-1)+1+1 by omega]
   show - -sgn (n+(j-1))=_
   grind
  rw[s1,s2]
  grind
 have tot:sm (n+2) (fun i=>sm (n+2) fun j=>if j=i then 0 else G i j)=-sm (n+2) (fun i=>sm (n+2) fun j=>if j=i then 0 else G i j):=by
  rw[<- sm_neg]
  rw[sm_swap]
  refine sm_congr fun i hi=>?_
  rw[<- sm_neg]
  refine sm_congr fun j hj=>?_
  by_cases e:i=j
  ·rw[if_pos e,if_pos e.symm];grind
  ·rw[if_neg e,if_neg (fun z=>e z.symm)]
   by_cases hlt:i<j
   ·have:=anti i j hi hj hlt;grind
   ·have:=anti j i hj hi (by omega);grind
 rw[e1]
 grind
theorem zdZ:∀{n:Nat} {c:Nat->Nat->Rat} {p q:Nat},p<q->q<n->zia n c p q->det n c=0
 | 0,_,_,_,_,h,_=>by omega
 | n+1,c,p,q,hpq,hq,h=>by
  by_cases e:q=n
  ·subst e
   obtain⟨m,rfl⟩:∃m,q=m+1:=⟨q-1,by omega⟩
   by_cases ep:p=m
   ·subst ep;exact zjz h
   ·-- swap p and m among the first columns
    have sw:det (m+2) (swapc c p m)=-det (m+2) c:=by
     show sm (m+2) _=-sm (m+2) _
     rw[<- sm_neg]
     refine sm_congr fun i hi=>?_
     have e1:swapc c p m (m+1)=c (m+1):=by unfold swapc;rw[if_neg (by omega),if_neg (by omega)]
     have e2:(fun j=>skip i (swapc c p m j))=swapc (fun j=>skip i (c j)) p m:=by
      funext j;unfold swapc;split
      ·rfl
      ·split<;>rfl
     have e3:=zjS (n:=m+1) (p:=p) (q:=m) (fun c' h'=>zdZ (by omega) (by omega) h') (by omega) (by omega) ep (fun j=>skip i (c j))
     rw[e1,e2,e3]
     grind
    have z:det (m+2) (swapc c p m)=0:=zjz fun r hr=>by
     have:=h r hr
     unfold swapc
     rw[if_neg (fun z=>ep z.symm),if_pos rfl,if_neg (by omega),if_neg (by omega)]
     exact this
    grind
  ·unfold det
   refine sm_zero fun i hi=>?_
   rw[zdZ (n:=n) (p:=p) (q:=q) hpq (by omega) fun r hr=>?_]
   ·grind
   ·show skip i (c p) r=skip i (c q) r
    unfold skip
    split
    ·exact h r (by omega)
    ·exact h (r+1) (by omega)
theorem ziE{n:Nat}{c:Nat->Nat->Rat}{p q:Nat}(hp:p<n)(hq:q<n)(hne:p≠q)(h:zia n c p q):det n c=0:=by
 rcases ybs hne with z | z
 ·exact zdZ z hq h
 ·exact zdZ z hp fun r hr=>(h r hr).symm
theorem znw{n:Nat}{c:Nat->Nat->Rat}(h:∀r,r<n->c n r=0)(h1:c n n=1):det (n+1) c=det n c:=by
 show sm (n+1) (fun i=>sgn (n+i)*c n i*det n (fun j=>skip i (c j)))=_
 rw[sm_one (i:=n) (by omega) fun j hj hne=>by rw[h j (by omega)];grind,h1]
 have:det n (fun j=>skip n (c j))=det n c:=det_congr fun j r hj hr=>by unfold skip;rw[if_pos hr]
 rw[this]
 have s:∀k,sgn (k+k)=1:=fun k=>by
  induction k with
  | zero=>rfl
  | succ k ih=>
   rw[show k+1+(k+1)=k+k+1+1 by omega]
   show - -sgn (k+k)=1
   rw[ih];grind
 rw[s];grind
theorem zmz{f:Nat->Rat}{a:Nat}:∀{n:Nat},a+1<n->sm n (fun i=>if i=a then f (a+1)else if i=a+1 then f a else f i)=sm n f
 | 0,h=>by omega
 | n+1,h=>by
  by_cases e:a+1=n
  ·subst e
   show sm a _+_+_=sm a f+f a+f (a+1)
   dsimp only
   rw[if_pos rfl,if_neg (by omega),if_pos rfl,sm_congr (g:=f) fun i hi=>by rw[if_neg (by omega),if_neg (by omega)]]
   grind
  ·show sm n _+_=sm n f+f n
   rw[zmz (by omega)]
   dsimp only
   rw[if_neg (by omega),if_neg (by omega)]
def swapa(c:Nat->Nat->Rat)(a:Nat):Nat->Nat->Rat:=fun j i=>if i=a then c j (a+1)else if i=a+1 then c j a else c j i
theorem zd6:∀{n:Nat} {c:Nat->Nat->Rat} {a:Nat},a+1<n->det n (swapa c a)=-det n c
 | 0,_,_,h=>by omega
 | n+1,c,a,h=>by
  show sm (n+1) (fun i=>sgn (n+i)*swapa c a n i*det n (fun j=>skip i (swapa c a j)))=-sm (n+1) fun i=>sgn (n+i)*c n i*det n (fun j=>skip i (c j))
  rw[<- sm_neg,<- zmz (f:=fun i=>-(sgn (n+i)*c n i*det n (fun j=>skip i (c j)))) h]
  refine sm_congr fun i hi=>?_
  by_cases e1:i=a
  ·subst e1
   rw[if_pos rfl]
   have h1:swapa c i n i=c n (i+1):=by unfold swapa;rw[if_pos rfl]
   have h2:det n (fun j=>skip i (swapa c i j))=det n (fun j=>skip (i+1) (c j)):=det_congr fun j r hj hr=>by
    unfold swapa skip
    (dsimp only;(repeat' split)<;>first | rfl | (exfalso;omega) | (congr 1;omega))
   rw[h1,h2,show n+(i+1)=n+i+1 by omega]
   show _=-(-sgn (n+i)*_*_)
   grind
  ·rw[if_neg e1]
   by_cases e2:i=a+1
   ·subst e2
    rw[if_pos rfl]
    have h1:swapa c a n (a+1)=c n a:=by unfold swapa;rw[if_neg (by omega),if_pos rfl]
    have h2:det n (fun j=>skip (a+1) (swapa c a j))=det n (fun j=>skip a (c j)):=det_congr fun j r hj hr=>by
     unfold swapa skip
     (dsimp only;(repeat' split)<;>first | rfl | (exfalso;omega) | (congr 1;omega))
    rw[h1,h2,show n+(a+1)=n+a+1 by omega]
    show -sgn (n+a)*_*_=_
    grind
   ·rw[if_neg e2]
    have h1:swapa c a n i=c n i:=by unfold swapa;rw[if_neg e1,if_neg e2]
    rw[h1]
    by_cases lt:i<a
    ·obtain⟨b,rfl⟩:∃b,a=b+1:=⟨a-1,by omega⟩
     have h2:(det n fun j=>skip i (swapa c (b+1) j))=det n (swapa (fun j=>skip i (c j)) b):=det_congr fun j r hj hr=>by
      unfold swapa skip
      (dsimp only;(repeat' split)<;>first | rfl | (exfalso;omega) | (congr 1;omega))
     rw[h2,zd6 (by omega)]
     grind
    ·have h2:(det n fun j=>skip i (swapa c a j))=det n (swapa (fun j=>skip i (c j)) a):=det_congr fun j r hj hr=>by
      unfold swapa skip
      (dsimp only;(repeat' split)<;>first | rfl | (exfalso;omega) | (congr 1;omega))
     rw[h2,zd6 (by omega)]
     grind
theorem zfZ:∀(g:Nat) {n:Nat} {c:Nat->Nat->Rat} {p q:Nat},q=p+1+g->q<n->(∀j,j<n->c j p=c j q)->det n c=0
 | 0,n,c,p,q,e,hq,h=>by
  subst e
  have:=zd6 (n:=n) (c:=c) (a:=p) (by omega)
  have e2:det n (swapa c p)=det n c:=det_congr fun j r hj hr=>by
   unfold swapa
   by_cases h1:r=p
   ·rw[if_pos h1,h1];exact(h j hj).symm
   ·rw[if_neg h1]
    by_cases h2:r=p+1
    ·rw[if_pos h2,h2];exact h j hj
    ·rw[if_neg h2]
  grind
 | g+1,n,c,p,q,e,hq,h=>by
  have h1:=zd6 (n:=n) (c:=c) (a:=q-1) (by omega)
  have h2:=zfZ g (n:=n) (c:=swapa c (q-1)) (p:=p) (q:=q-1) (by omega) (by omega) fun j hj=>by
   unfold swapa
   rw[if_neg (by omega),if_neg (by omega),if_pos rfl,show q-1+1=q by omega]
   exact h j hj
  grind
theorem zeL{n:Nat}{c:Nat->Nat->Rat}{p q:Nat}(hp:p<n)(hq:q<n)(hne:p≠q)(h:∀j,j<n->c j p=c j q):det n c=0:=by
 rcases ybs hne with z | z
 ·exact zfZ (q-p-1) (by omega) hq h
 ·exact zfZ (p-q-1) (by omega) hp fun j hj=>(h j hj).symm
def setr(c:Nat->Nat->Rat)(r:Nat)(w:Nat->Rat):Nat->Nat->Rat:=fun j i=>if i=r then w j else c j i
theorem zdN(a b:Rat):∀{n:Nat} {c:Nat->Nat->Rat} {r:Nat} {u v:Nat->Rat},r<n->det n (setr c r fun j=>a*u j+b*v j)=a*det n (setr c r u)+b*det n (setr c r v)
 | 0,_,_,_,_,h=>by omega
 | n+1,c,r,u,v,h=>by
  unfold det
  rw[<- sm_lin]
  refine sm_congr fun i hi=>?_
  by_cases e:i=r
  ·subst e
   have e1:∀w:Nat->Rat,setr c i w n i=w n:=fun w=>by unfold setr;rw[if_pos rfl]
   have e2:∀w:Nat->Rat,det n (fun j=>skip i (setr c i w j))=det n (fun j=>skip i (c j)):=fun w=>det_congr fun j r hj hr=>by
    unfold setr skip
    (dsimp only;(repeat' split)<;>first | rfl | (exfalso;omega) | (congr 1;omega))
   rw[e1,e1,e1,e2,e2,e2]
   grind
  ·have e1:∀w:Nat->Rat,setr c r w n i=c n i:=fun w=>by unfold setr;rw[if_neg e]
   have e2:∀w:Nat->Rat,det n (fun j=>skip i (setr c r w j))=det n (setr (fun j=>skip i (c j)) (if r<i then r else r-1) w):=fun w=>det_congr fun j k hj hk=>by
    unfold setr skip
    (dsimp only;(repeat' split)<;>first | rfl | (exfalso;omega) | (congr 1;omega))
   rw[e1,e1,e1,e2,e2,e2,zdN a b (by split<;>omega)]
   grind
def IsI(x:Rat):Prop:=∃z:Int,x=(z:Rat)
theorem IsI.add{x y:Rat}(h:IsI x)(h':IsI y):IsI (x+y):=by
 obtain⟨a,rfl⟩:=h;obtain⟨b,rfl⟩:=h';exact⟨a+b,by rw[yav]⟩
theorem IsI.mul{x y:Rat}(h:IsI x)(h':IsI y):IsI (x*y):=by
 obtain⟨a,rfl⟩:=h;obtain⟨b,rfl⟩:=h';exact⟨a*b,by rw[yP]⟩
theorem IsI.sm{f:Nat->Rat}:∀{n:Nat},(∀i,i<n->IsI (f i))->IsI (sm n f)
 | 0,_=>⟨0,rfl⟩
 | n+1,h=>(IsI.sm fun i hi=>h i (by omega)).add (h n (by omega))
theorem IsI.sgn:∀n,IsI (sgn n)
 | 0=>⟨1,rfl⟩
 | n+1=>by
  obtain⟨z,e⟩:=IsI.sgn n
  exact⟨-z,by show -Dt.sgn n=_;rw[e,yaB]⟩
theorem IsI.det:∀{n:Nat} {c:Nat->Nat->Rat},(∀j r,j<n->r<n->IsI (c j r))->IsI (det n c)
 | 0,_,_=>⟨1,rfl⟩
 | n+1,c,h=>by
  refine IsI.sm fun i hi=>((IsI.sgn _).mul (h n i (by omega) hi)).mul (IsI.det fun j r hj hr=>?_)
  unfold skip
  split
  ·exact h j r (by omega) (by omega)
  ·exact h j (r+1) (by omega) (by omega)
end Dt
namespace Dt
theorem zfq{n i:Nat}{c:Nat->Nat->Rat}(hi:i<n){a:Nat->Rat}{u:Nat->Nat->Rat}:∀K:Nat,det n (setc c i fun r=>sm K fun m=>a m*u m r)=sm K fun m=>a m*det n (setc c i (u m))
 | 0=>by
  have:=zb6 (n:=n) (m:=i) (c:=c) (u:=fun _=>0) (v:=fun _=>0) 0 0 hi
  have e:(fun r:Nat=>(0:Rat)*0+0*0)=fun r=>sm 0 fun m=>a m*u m r:=by funext r;show _=(0:Rat);grind
  rw[e]at this
  rw[this]
  show _=(0:Rat)
  grind
 | K+1=>by
  have e:(fun r=>sm (K+1) fun m=>a m*u m r)=fun r=>1*(sm K fun m=>a m*u m r)+a K*u K r:=by
   funext r
   show sm K (fun m=>a m*u m r)+a K*u K r=_
   grind
  rw[e,zb6 1 (a K) hi,zfq hi K]
  show _=sm K (fun m=>a m*det n (setc c i (u m)))+a K*det n (setc c i (u K))
  grind
theorem zgs{n i:Nat}{c:Nat->Nat->Rat}(hi:i<n){a:Nat->Rat}:det n (setc c i fun r=>sm n fun m=>a m*c m r)=a i*det n c:=by
 rw[zfq hi,sm_one hi fun m hm hne=>?_]
 ·rw[zdp]
 ·rw[ziE hm hi hne fun r _=>?_]
  ·grind
  ·unfold setc;rw[if_neg hne,if_pos rfl]
def cl(A:Nat->Nat->Rat):Nat->Nat->Rat:=fun j r=>A r j
set_option genInjectivity false in
set_option genSizeOf false in
structure Bar(n k:Nat)(A T:Nat->Nat->Rat)(d:Rat):Prop where
 d0:d≠0
 dd:d=det k (cl A)
 id1:∀i m,i<k->m<k->T i m=if i=m then d else 0
 id2:∀i m,k<=i->i<n->m<k->T i m=0
 rel:∀l j,l<n->j<=n->d*A l j=sm k (fun m=>A l m*T m j)+(if k<=l then T l j else 0)
section
variable {n k:Nat}{A T:Nat->Nat->Rat}{d:Rat}
theorem bar_start:Bar n 0 A A 1:=⟨by decide,rfl,fun i m h=>by omega,fun i m _ _ h=>by omega,fun l j _ _=>by
 rw[if_pos (yD _)]
 show _=(0:Rat)+A l j
 grind⟩
theorem Bar.top(b:Bar n k A T d)(hk:k<=n){i j:Nat}(hi:i<k)(hj:j<=n):T i j=det k (setc (cl A) i fun r=>A r j):=by
 have h1:=zgs (n:=k) (i:=i) (c:=cl A) hi (a:=fun m=>T m j)
 have h2:det k (setc (cl A) i fun r=>sm k fun m=>T m j*cl A m r)=det k (setc (cl A) i fun r=>d*A r j+0*A r j):=det_congr fun q r hq hr=>by
  unfold setc
  split
  ·have:=b.rel r j (by omega) hj
   rw[if_neg (by omega)]at this
   have e:sm k (fun m=>T m j*cl A m r)=sm k (fun m=>A r m*T m j):=sm_congr fun m _=>by unfold cl;grind
   dsimp only
   rw[e];grind
  ·rfl
 rw[h1,<- b.dd,zb6 d 0 hi]at h2
 have:=b.d0
 grind
def bor(A:Nat->Nat->Rat)(k i j:Nat):Nat->Nat->Rat:=fun q r=>A (if r<k then r else i) (if q<k then q else j)
theorem Bar.bot(b:Bar n k A T d){i j:Nat}(hi:k<=i)(hin:i<n)(hj:j<=n):T i j=det (k+1) (bor A k i j):=by
 let C:=bor A k i j
 let e:Nat->Rat:=fun r=>if r=k then 1 else 0
 have hcol:∀r,r<k+1->d*C k r=(sm k fun m=>T m j*C m r)+T i j*e r:=fun r hr=>by
  show d*A (if r<k then r else i) (if k<k then k else j)=(sm k fun m=>T m j*A (if r<k then r else i) (if m<k then m else j))+T i j*(if r=k then 1 else 0)
  rw[if_neg (show ¬k<k by omega),sm_congr (g:=fun m=>A (if r<k then r else i) m*T m j) fun m hm=>by rw[if_pos hm];grind]
  by_cases h:r<k
  ·rw[if_pos h,if_neg (by omega)]
   have:=b.rel r j (by omega) hj
   rw[if_neg (by omega)]at this
   grind
  ·rw[if_neg h,if_pos (by omega)]
   have:=b.rel i j hin hj
   rw[if_pos hi]at this
   grind
 have h1:d*det (k+1) C=det (k+1) (setc C k fun r=>d*C k r+0*C k r):=by
  rw[zb6 d 0 (by omega),zdp];grind
 have h2:det (k+1) (setc C k fun r=>d*C k r+0*C k r)=det (k+1) (setc C k fun r=>1*(sm k fun m=>T m j*C m r)+T i j*e r):=det_congr fun q r hq hr=>by
  unfold setc
  split
  ·have:=hcol r hr
   grind
  ·rfl
 have h3:det (k+1) (setc C k fun r=>sm k fun m=>T m j*C m r)=0:=by
  rw[zfq (by omega)]
  refine sm_zero fun m hm=>?_
  rw[ziE (p:=m) (q:=k) (by omega) (by omega) (by omega) fun r _=>by unfold setc;rw[if_neg (by omega),if_pos rfl]]
  grind
 have h4:det (k+1) (setc C k e)=d:=by
  have u1:∀r,r<k->setc C k e k r=0:=fun r hr=>by unfold setc;rw[if_pos rfl];show(if r=k then(1:Rat)else 0)=0;rw[if_neg (by omega)]
  have u2:setc C k e k k=1:=by unfold setc;rw[if_pos rfl];show(if k=k then(1:Rat)else 0)=1;rw[if_pos rfl]
  rw[znw u1 u2,b.dd]
  refine det_congr fun q r hq hr=>?_
  unfold setc
  rw[if_neg (by omega)]
  show A (if r<k then r else i) (if q<k then q else j)=cl A q r
  rw[if_pos hr,if_pos hq];rfl
 rw[h2,zb6 1 (T i j) (by omega),h3,h4]at h1
 have:=b.d0
 show T i j=det (k+1) C
 grind
theorem Bar.whole(b:Bar n k A T d)(hk:k<=n)(hA:∀l j,l<n->j<=n->IsI (A l j)){i j:Nat}(hi:i<n)(hj:j<=n):IsI (T i j):=by
 by_cases h:i<k
 ·rw[b.top hk h hj]
  refine IsI.det fun q r hq hr=>?_
  unfold setc
  split
  ·exact hA r j (by omega) hj
  ·exact hA r q (by omega) (by omega)
 ·rw[b.bot (by omega) hi hj]
  refine IsI.det fun q r hq hr=>?_
  show IsI (A (if r<k then r else i) (if q<k then q else j))
  exact hA _ _ (by split<;>omega) (by split<;>omega)
def nxt(T:Nat->Nat->Rat)(k:Nat)(d:Rat):Nat->Nat->Rat:=fun i j=>if i=k then T k j else(T k k*T i j-T i k*T k j)/d
theorem Bar.step(b:Bar n k A T d)(hk:k<n)(hp:T k k≠0):Bar n (k+1) A (nxt T k d) (T k k):=by
 have hd:=b.d0
 refine⟨hp,?_,fun i m hi hm=>?_,fun i m hi hin hm=>?_,fun l j hl hj=>?_⟩
 ·rw[b.bot (ye k) hk (ya8 hk)]
  refine det_congr fun q r hq hr=>?_
  show A (if r<k then r else k) (if q<k then q else k)=A r q
  congr 1
  ·split<;>omega
  ·split<;>omega
 ·unfold nxt
  by_cases e:i=k
  ·rw[if_pos e]
   by_cases e2:m=k
   ·rw[e2,if_pos e]
   ·rw[if_neg (fun z=>e2 (z.symm.trans e)),b.id2 k m (ye _) hk (by omega)]
  ·rw[if_neg e]
   by_cases e2:m=k
   ·rw[e2,if_neg e];grind
   ·rw[b.id1 i m (by omega) (by omega),b.id2 k m (ye _) hk (by omega)]
    split<;>grind
 ·unfold nxt
  rw[if_neg (by omega)]
  by_cases e2:m=k
  ·rw[e2];grind
  ·rw[b.id2 i m (by omega) hin (by omega),b.id2 k m (ye _) hk (by omega)];grind
 ·have r1:=b.rel l j hl hj
  have r2:=b.rel l k hl (by omega)
  have e1:sm (k+1) (fun m=>A l m*nxt T k d m j)=sm k (fun m=>(T k k/d)*(A l m*T m j)+(-(T k j/d))*(A l m*T m k))+A l k*T k j:=by
   show sm k (fun m=>A l m*nxt T k d m j)+A l k*nxt T k d k j=_
   congr 1
   ·refine sm_congr fun m hm=>?_
    unfold nxt
    rw[if_neg (by omega)]
    grind
   ·unfold nxt;rw[if_pos rfl]
  rw[e1,sm_lin]
  by_cases hlk:l<k
  ·rw[if_neg (by omega)]at r1 r2 ⊢
   grind
  ·rw[if_pos (by omega)]at r1 r2
   by_cases e:l=k
   ·subst e
    rw[if_neg (by omega)]
    grind
   ·rw[if_pos (by omega)]
    unfold nxt
    rw[if_neg e]
    grind
def swp{α:Type}(T:Nat->α)(a b:Nat):Nat->α:=fun i=>if i=a then T b else if i=b then T a else T i
theorem Bar.swap(b:Bar n k A T d){p q:Nat}(hp:k<=p)(hq:k<=q)(hpn:p<n)(hqn:q<n):Bar n k (swp A p q) (swp T p q) d:=by
 have low:∀{α:Type} (F:Nat->α) i,i<k->swp F p q i=F i:=fun F i hi=>by unfold swp;rw[if_neg (by omega),if_neg (by omega)]
 have at':∀i,∃i',(i'<n↔i<n)/\(k<=i'↔k<=i)/\swp A p q i=A i'/\swp T p q i=T i':=fun i=>by
  by_cases e:i=p
  ·exact⟨q,by omega,by omega,by unfold swp;rw[if_pos e],by unfold swp;rw[if_pos e]⟩
  ·by_cases e2:i=q
   ·exact⟨p,by omega,by omega,by unfold swp;rw[if_neg e,if_pos e2],by unfold swp;rw[if_neg e,if_pos e2]⟩
   ·exact⟨i,Iff.rfl,Iff.rfl,by unfold swp;rw[if_neg e,if_neg e2],by unfold swp;rw[if_neg e,if_neg e2]⟩
 refine⟨b.d0,?_,fun i m hi hm=>?_,fun i m hi hin hm=>?_,fun l j hl hj=>?_⟩
 ·rw[b.dd]
  refine det_congr fun j r hj hr=>?_
  show A r j=swp A p q r j
  rw[low A r hr]
 ·rw[low T i hi];exact b.id1 i m hi hm
 ·obtain⟨i',h1,h2,_,h4⟩:=at' i
  rw[h4];exact b.id2 i' m (h2.mpr hi) (h1.mpr hin) hm
 ·obtain⟨l',h1,h2,h3,h4⟩:=at' l
  rw[h3,h4,b.rel l' j (h1.mpr hl) hj,sm_congr (g:=fun m=>A l' m*swp T p q m j) fun m hm=>by rw[low T m hm]]
  congr 1
  by_cases z:k<=l
  ·rw[if_pos z,if_pos (h2.mpr z)]
  ·rw[if_neg z,if_neg (fun y=>z (h2.mp y))]
theorem Bar.stuck(b:Bar n k A T d)(hk:k<n)(h:∀i,k<=i->i<n->T i k=0):det n (cl A)=0:=by
 have h1:d*det n (cl A)=det n (setc (cl A) k fun r=>d*cl A k r+0*cl A k r):=by
  rw[zb6 d 0 hk,zdp];grind
 have h2:det n (setc (cl A) k fun r=>d*cl A k r+0*cl A k r)=det n (setc (cl A) k fun r=>sm k fun m=>T m k*cl A m r):=det_congr fun q r hq hr=>by
  unfold setc
  split
  ·have:=b.rel r k hr (by omega)
   have e:(if k<=r then T r k else 0)=0:=by
    split
    ·rename_i z;exact h r z hr
    ·rfl
   rw[e]at this
   have e2:sm k (fun m=>T m k*cl A m r)=sm k (fun m=>A r m*T m k):=sm_congr fun m _=>by unfold cl;grind
   dsimp only
   rw[e2]
   show d*A r k+0*A r k=_
   grind
  ·rfl
 have h3:det n (setc (cl A) k fun r=>sm k fun m=>T m k*cl A m r)=0:=by
  rw[zfq hk]
  refine sm_zero fun m hm=>?_
  rw[ziE (p:=m) (q:=k) (by omega) hk (by omega) fun r _=>by unfold setc;rw[if_neg (by omega),if_pos rfl]]
  grind
 have:=b.d0
 rw[h2,h3]at h1
 grind
theorem Bar.meets(b:Bar n n A T d){l:Nat}(hl:l<n):sm n (fun m=>A l m*(T m n/d))=A l n:=by
 have h:=b.rel l n hl (ye _)
 rw[if_neg (by omega)]at h
 have hd:=b.d0
 have e:sm n (fun m=>A l m*(T m n/d))=(1/d)*sm n (fun m=>A l m*T m n):=by
  rw[<- sm_mul]
  exact sm_congr fun m _=>by grind
 rw[e]
 grind
end
theorem zlI{n p q:Nat}(hp:p<n)(hq:q<n)(hpq:p≠q)(A:Nat->Nat->Rat):det n (cl (swp A p q))=-det n (cl A):=by
 have two:∀u v:Nat->Rat,det n (setr (setr (cl A) p u) q v)=-det n (setr (setr (cl A) p v) q u):=fun u v=>by
  have z0:=zeL (c:=setr (setr (cl A) p fun r=>1*u r+1*v r) q fun r=>1*u r+1*v r) hp hq hpq fun j _=>by
   unfold setr;rw[if_neg hpq,if_pos rfl,if_pos rfl]
  have zu:=zeL (c:=setr (setr (cl A) p u) q u) hp hq hpq fun j _=>by unfold setr;rw[if_neg hpq,if_pos rfl,if_pos rfl]
  have zv:=zeL (c:=setr (setr (cl A) p v) q v) hp hq hpq fun j _=>by unfold setr;rw[if_neg hpq,if_pos rfl,if_pos rfl]
  have comm:∀a b:Nat->Rat,setr (setr (cl A) p a) q b=setr (setr (cl A) q b) p a:=fun a b=>by
   funext j i;unfold setr
   by_cases h1:i=q
   ·rw[if_pos h1,if_neg (fun z=>hpq (z.symm.trans h1)),if_pos h1]
   ·rw[if_neg h1]
    by_cases h2:i=p
    ·rw[if_pos h2,if_pos h2]
    ·rw[if_neg h2,if_neg h2,if_neg h1]
  rw[zdN 1 1 hq,comm,zdN 1 1 hp,comm,zdN 1 1 hp,<- comm,<- comm,<- comm,<- comm]at z0
  grind
 have h:=two (A q) (A p)
 have e1:setr (setr (cl A) p (A q)) q (A p)=cl (swp A p q):=by
  funext j i;unfold setr cl swp
  by_cases h1:i=q
  ·rw[if_pos h1,if_neg (fun z=>hpq (z.symm.trans h1)),if_pos h1]
  ·rw[if_neg h1]
   by_cases h2:i=p
   ·rw[if_pos h2,if_pos h2]
   ·rw[if_neg h2,if_neg h2,if_neg h1]
 have e2:setr (setr (cl A) p (A p)) q (A q)=cl A:=by
  funext j i;unfold setr cl
  by_cases h1:i=q
  ·rw[if_pos h1,h1]
  ·rw[if_neg h1]
   by_cases h2:i=p
   ·rw[if_pos h2,h2]
   ·rw[if_neg h2]
 rw[e1,e2]at h
 exact h
end Dt
namespace Dt
def Bd(b x:Rat):Prop:=-b<=x/\x<=b
theorem Bd.nn{b x:Rat}(h:Bd b x):0<=b:=by have:=h.1;have:=h.2;grind
theorem Bd.mul{a b x y:Rat}(h:Bd a x)(h':Bd b y):Bd (a*b) (x*y):=by
 have p1:0<=(a-x)*(b+y):=yu (by have:=h.2;grind) (by have:=h'.1;grind)
 have p2:0<=(a+x)*(b-y):=yu (by have:=h.1;grind) (by have:=h'.2;grind)
 have p3:0<=(a-x)*(b-y):=yu (by have:=h.2;grind) (by have:=h'.2;grind)
 have p4:0<=(a+x)*(b+y):=yu (by have:=h.1;grind) (by have:=h'.1;grind)
 constructor<;>grind
theorem Bd.add{a b x y:Rat}(h:Bd a x)(h':Bd b y):Bd (a+b) (x+y):=by
 have:=h.1;have:=h.2;have:=h'.1;have:=h'.2
 constructor<;>grind
theorem Bd.sm{b:Rat}{f:Nat->Rat}:∀{n:Nat},(∀i,i<n->Bd b (f i))->Bd ((n:Nat)*b) (sm n f)
 | 0,_=>by
  show Bd _ (0:Rat)
  have:((0:Nat):Rat)=0:=rfl
  rw[this]
  constructor<;>grind
 | n+1,h=>by
  have h1:=(Bd.sm (n:=n) fun i hi=>h i (by omega)).add (h n (by omega))
  have e:(((n+1:Nat):Rat))*b=(n:Nat)*b+b:=by
   have:((n+1:Nat):Rat)=(n:Nat)+1:=by push_cast;rfl
   rw[this];grind
  rw[e]
  exact h1
theorem Bd.sgn:∀n,Bd 1 (sgn n)
 | 0=>by unfold Dt.sgn;constructor<;>grind
 | n+1=>by
  have:=Bd.sgn n
  have:=this.1;have:=(Bd.sgn n).2
  unfold Dt.sgn;constructor<;>grind
def dN(M:Nat):Nat->Nat
 | 0=>1
 | n+1=>(n+1)*(M*dN M n)
theorem Bd.det{M:Nat}:∀{n:Nat} {c:Nat->Nat->Rat},(∀j r,j<n->r<n->Bd (M:Nat) (c j r))->Bd ((dN M n:Nat):Rat) (det n c)
 | 0,_,_=>by
  unfold Dt.det dN
  have:((1:Nat):Rat)=1:=rfl
  rw[this]
  constructor<;>grind
 | n+1,c,h=>by
  have key:Bd ((n+1:Nat)*((M:Nat)*((dN M n:Nat):Rat))) (Dt.det (n+1) c):=by
   unfold Dt.det
   refine Bd.sm fun i hi=>?_
   have h1:=((Bd.sgn (n+i)).mul (h n i (by omega) hi)).mul (Bd.det (M:=M) (n:=n) (c:=fun j=>skip i (c j)) fun j r hj hr=>?_)
   ·have e:1*(M:Rat)*((dN M n:Nat):Rat)=(M:Rat)*((dN M n:Nat):Rat):=by grind
    rw[e]at h1
    exact h1
   ·unfold skip
    split
    ·exact h j r (by omega) (by omega)
    ·exact h j (r+1) (by omega) (by omega)
  have e:((dN M (n+1):Nat):Rat)=(n+1:Nat)*((M:Nat)*((dN M n:Nat):Rat)):=by
   show(((n+1)*(M*dN M n):Nat):Rat)=_
   push_cast
   rfl
  rw[e]
  exact key
theorem zma{z:Nat}:∀n,n<=15->dN (2 ^ z) n<=2 ^ (n*(z+4))
 | 0,_=>by show 1<=2 ^ (0*(z+4));rw[Nat.zero_mul];exact ye _
 | n+1,h=>by
  have ih:=zma (z:=z) n (by omega)
  show(n+1)*(2 ^ z*dN (2 ^ z) n)<=_
  have h1:(n+1)<=2 ^ 4:=by omega
  have h2:2 ^ z*dN (2 ^ z) n<=2 ^ z*2 ^ (n*(z+4)):=Nat.mul_le_mul_left _ ih
  have h3:=yaX h1 h2
  have e:2 ^ 4*(2 ^ z*2 ^ (n*(z+4)))=2 ^ ((n+1)*(z+4)):=by
   rw[<- ya2,<- ya2]
   congr 1
   rw[Nat.add_mul];omega
  rw[e]at h3
  exact h3
theorem Bd.mono{a b:Nat}{x:Rat}(h:Bd (a:Nat) x)(hab:a<=b):Bd (b:Nat) x:=by
 have h1:((a:Nat):Rat)<=((b:Nat):Rat):=by exact_mod_cast hab
 have:=h.1;have:=h.2
 constructor<;>grind
theorem Bar.sz{n k z:Nat}{A T:Nat->Nat->Rat}{d:Rat}(b:Bar n k A T d)(hk:k<=n)(hn:n<=15)(hA:∀l j,l<n->j<=n->Bd ((2 ^ z:Nat):Rat) (A l j)){i j:Nat}(hi:i<n)(hj:j<=n):Bd ((2 ^ (n*(z+4)):Nat):Rat) (T i j):=by
 have up:∀s,s<=n->dN (2 ^ z) s<=2 ^ (n*(z+4)):=fun s hs=>yh (zma s (by omega)) (yaZ (by decide) (Nat.mul_le_mul_right _ hs))
 by_cases h:i<k
 ·rw[b.top hk h hj]
  refine(Bd.det fun q r hq hr=>?_).mono (up k hk)
  unfold setc
  split
  ·exact hA r j (by omega) hj
  ·exact hA r q (by omega) (by omega)
 ·rw[b.bot (by omega) hi hj]
  refine(Bd.det fun q r hq hr=>?_).mono (up (k+1) (by omega))
  show Bd _ (A (if r<k then r else i) (if q<k then q else j))
  exact hA _ _ (by split<;>omega) (by split<;>omega)
theorem Bar.congr{n k:Nat}{A T T':Nat->Nat->Rat}{d:Rat}(b:Bar n k A T d)(hk:k<=n)(h:∀i j,i<n->j<=n->T' i j=T i j):Bar n k A T' d:=
 ⟨b.d0,b.dd,fun i m hi hm=>by rw[h i m (by omega) (by omega)];exact b.id1 i m hi hm,fun i m hi hin hm=>by rw[h i m hin (by omega)];exact b.id2 i m hi hin hm,fun l j hl hj=>by
  rw[b.rel l j hl hj,sm_congr (g:=fun m=>A l m*T' m j) fun m hm=>by rw[h m j (by omega) hj]]
  congr 1
  split
  ·rw[h l j hl hj]
  ·rfl⟩
def castM(F:Nat->Nat->Int):Nat->Nat->Rat:=fun i j=>((F i j:Int):Rat)
def nxtI(T:Nat->Nat->Int)(k:Nat)(d:Int):Nat->Nat->Int:=fun i j=>if i=k then T k j else(T k k*T i j-T i k*T k j).fdiv d
theorem Bar.stepI{n k:Nat}{A T:Nat->Nat->Int}{d:Int}(b:Bar n k (castM A) (castM T) ((d:Int):Rat))(hk:k<n)(hp:T k k≠0):Bar n (k+1) (castM A) (castM (nxtI T k d)) ((T k k:Int):Rat)/\∀i j,i<n->j<=n->i≠k->nxtI T k d i j*d=T k k*T i j-T i k*T k j:=by
 have hp':castM T k k≠0:=fun z=>hp (by have:((T k k:Int):Rat)=((0:Int):Rat):=z;exact_mod_cast this)
 have s:=b.step hk hp'
 have hd0:d≠0:=fun z=>b.d0 (by rw[z];rfl)
 have ev:∀i j,i<n->j<=n->i≠k->nxtI T k d i j*d=T k k*T i j-T i k*T k j/\((nxtI T k d i j:Int):Rat)=nxt (castM T) k d i j:=fun i j hi hj hne=>by
  obtain⟨z,hz⟩:=s.whole (by omega) (fun l j _ _=>⟨A l j,rfl⟩) hi hj
  have e1:nxt (castM T) k ((d:Int):Rat) i j=(castM T k k*castM T i j-castM T i k*castM T k j)/((d:Int):Rat):=by unfold nxt;rw[if_neg hne]
  have e2:T k k*T i j-T i k*T k j=z*d:=by
   have h1:castM T k k*castM T i j-castM T i k*castM T k j=((z:Int):Rat)*((d:Int):Rat):=by
    rw[e1]at hz
    have:=b.d0
    grind
   have h2:((T k k*T i j-T i k*T k j:Int):Rat)=((z*d:Int):Rat):=by
    rw[Rat.intCast_sub,yP,yP,yP]
    exact h1
   exact_mod_cast h2
  have e3:nxtI T k d i j=z:=by
   unfold nxtI
   rw[if_neg hne,e2,Int.mul_fdiv_cancel _ hd0]
  exact⟨by rw[e3,e2],by rw[e3,hz]⟩
 refine⟨s.congr (by omega) fun i j hi hj=>?_,fun i j hi hj hne=>(ev i j hi hj hne).1⟩
 by_cases e:i=k
 ·show((nxtI T k d i j:Int):Rat)=_
  unfold nxtI nxt
  rw[if_pos e,if_pos e];rfl
 ·exact(ev i j hi hj e).2
set_option genInjectivity false in
set_option genSizeOf false in
structure Eqv(n:Nat)(A B:Nat->Nat->Rat):Prop where
 dt:det n (cl A)=0↔det n (cl B)=0
 an:∀x:Nat->Rat,(∀l,l<n->sm n (fun m=>A l m*x m)=A l n)↔∀l,l<n->sm n (fun m=>B l m*x m)=B l n
theorem Eqv.refl(n:Nat)(A:Nat->Nat->Rat):Eqv n A A:=⟨Iff.rfl,fun _=>Iff.rfl⟩
theorem Eqv.trans{n:Nat}{A B C:Nat->Nat->Rat}(h:Eqv n A B)(h':Eqv n B C):Eqv n A C:=⟨h.dt.trans h'.dt,fun x=>(h.an x).trans (h'.an x)⟩
theorem swp_at{α:Type}{n p q:Nat}(hp:p<n)(hq:q<n)(F:Nat->α)(l:Nat)(hl:l<n):∃l',l'<n/\swp F p q l=F l':=by
 unfold swp
 by_cases e:l=p
 ·exact⟨q,hq,by rw[if_pos e]⟩
 ·by_cases e2:l=q
  ·exact⟨p,hp,by rw[if_neg e,if_pos e2]⟩
  ·exact⟨l,hl,by rw[if_neg e,if_neg e2]⟩
theorem znl{α:Type}{n p q:Nat}(hp:p<n)(hq:q<n)(F:Nat->α)(l:Nat)(hl:l<n):∃l',l'<n/\swp F p q l'=F l:=by
 unfold swp
 by_cases e:l=p
 ·refine⟨q,hq,?_⟩
  by_cases e2:q=p
  ·rw[if_pos e2,e,e2]
  ·rw[if_neg e2,if_pos rfl,e]
 ·by_cases e2:l=q
  ·exact⟨p,hp,by rw[if_pos rfl,e2]⟩
  ·exact⟨l,hl,by rw[if_neg e,if_neg e2]⟩
theorem Eqv.swap{n p q:Nat}(hp:p<n)(hq:q<n)(A:Nat->Nat->Rat):Eqv n A (swp A p q):=by
 refine⟨?_,fun x=>⟨fun h l hl=>?_,fun h l hl=>?_⟩⟩
 ·by_cases e:p=q
  ·subst e
   have:swp A p p=A:=by
    funext i;unfold swp
    by_cases h:i=p
    ·rw[if_pos h,h]
    ·rw[if_neg h,if_neg h]
   rw[this]
  ·rw[zlI hp hq e A]
   constructor<;>intro h<;>grind
 ·obtain⟨l',h1,h2⟩:=swp_at hp hq A l hl
  rw[h2];exact h l' h1
 ·obtain⟨l',h1,h2⟩:=znl hp hq A l hl
  have:=h l' h1
  rw[h2]at this;exact this
theorem det_scale{n:Nat}{R:Nat->Nat->Rat}{L:Nat->Rat}(hL:∀l,l<n->L l≠0):det n (cl R)=0↔det n (cl fun l j=>L l*R l j)=0:=by
 have key:∀k,k<=n->(det n (cl R)=0↔det n (cl fun l j=>(if l<k then L l else 1)*R l j)=0):=by
  intro k
  induction k with
  | zero=>
   intro _
   have:det n (cl fun l j=>(if l<0 then L l else 1)*R l j)=det n (cl R):=det_congr fun j r _ _=>by
    show(if r<0 then L r else 1)*R r j=R r j
    rw[if_neg (by omega)];grind
   rw[this]
  | succ k ih=>
   intro hk
   rw[ih (by omega)]
   have e:det n (cl fun l j=>(if l<k+1 then L l else 1)*R l j)=det n (setr (cl fun l j=>(if l<k then L l else 1)*R l j) k fun j=>L k*(R k j)+0*R k j):=det_congr fun j r _ _=>by
    unfold setr
    show(if r<k+1 then L r else 1)*R r j=if r=k then _ else(if r<k then L r else 1)*R r j
    by_cases h:r=k
    ·rw[if_pos h,if_pos (by omega),h];grind
    ·rw[if_neg h]
     by_cases h2:r<k
     ·rw[if_pos h2,if_pos (by omega)]
     ·rw[if_neg h2,if_neg (by omega)]
   have e2:det n (setr (cl fun l j=>(if l<k then L l else 1)*R l j) k fun j=>R k j)=det n (cl fun l j=>(if l<k then L l else 1)*R l j):=det_congr fun j r _ _=>by
    unfold setr
    by_cases h:r=k
    ·rw[if_pos h]
     show R k j=(if r<k then L r else 1)*R r j
     rw[if_neg (by omega),h];grind
    ·rw[if_neg h]
   rw[e,zdN (L k) 0 (by omega),e2]
   have:=hL k (by omega)
   constructor<;>intro h<;>grind
 have h:=key n (ye _)
 have e:det n (cl fun l j=>(if l<n then L l else 1)*R l j)=det n (cl fun l j=>L l*R l j):=det_congr fun j r _ hr=>by
  show(if r<n then L r else 1)*R r j=L r*R r j
  rw[if_pos hr]
 rw[e]at h
 exact h
theorem meets_scale{n:Nat}{R:Nat->Nat->Rat}{L:Nat->Rat}(hL:∀l,l<n->L l≠0)(x:Nat->Rat):(∀l,l<n->sm n (fun m=>R l m*x m)=R l n)↔∀l,l<n->sm n (fun m=>(L l*R l m)*x m)=L l*R l n:=by
 constructor
 ·intro h l hl
  rw[<- h l hl,<- sm_mul]
  exact sm_congr fun m _=>by grind
 ·intro h l hl
  have h1:=h l hl
  have e:sm n (fun m=>L l*R l m*x m)=L l*sm n (fun m=>R l m*x m):=by rw[<- sm_mul];exact sm_congr fun m _=>by grind
  rw[e]at h1
  have:=hL l hl
  grind
end Dt
namespace Dt
theorem zmn{f:Nat->Rat}{k:Nat}:∀{n:Nat},k<=n->(∀m,k<=m->m<n->f m=0)->sm n f=sm k f
 | 0,h,_=>by rw[show k=0 by omega]
 | n+1,h,hz=>by
  rcases yL h with g | g
  ·show sm n f+f n=sm k f
   rw[zmn (n:=n) (by omega) fun m h1 h2=>hz m h1 (by omega),hz n (by omega) (by omega)];grind
  ·rw[g]
theorem zkJ{n k:Nat}{A T:Nat->Nat->Rat}{d:Rat}(b:Bar n k A T d)(hk:k<n)(h:∀i,k<=i->i<n->T i k=0):∃x:Nat->Rat,(∃m,m<n/\x m≠0)/\∀l,l<n->sm n (fun m=>A l m*x m)=0:=by
 refine⟨fun m=>if m<k then -T m k else if m=k then d else 0,⟨k,hk,by dsimp only;rw[if_neg (by omega),if_pos rfl];exact b.d0⟩,fun l hl=>?_⟩
 rw[zmn (k:=k+1) (by omega) fun m h1 h2=>by dsimp only;rw[if_neg (by omega),if_neg (by omega)];grind]
 show sm k (fun m=>A l m*if m<k then -T m k else if m=k then d else 0)+A l k*(if k<k then -T k k else if k=k then d else 0)=0
 rw[if_neg (yQ _),if_pos rfl]
 have e:sm k (fun m=>A l m*if m<k then -T m k else if m=k then d else 0)=-sm k (fun m=>A l m*T m k):=by
  rw[<- sm_neg]
  exact sm_congr fun m hm=>by rw[if_pos hm];grind
 have r:=b.rel l k hl (by omega)
 have z:(if k<=l then T l k else 0)=0:=by
  split
  ·rename_i g;exact h l g hl
  ·rfl
 rw[z]at r
 rw[e]
 grind
theorem null_of_det{n:Nat}{A:Nat->Nat->Rat}(h:det n (cl A)=0):∃x:Nat->Rat,(∃m,m<n/\x m≠0)/\∀l,l<n->sm n (fun m=>A l m*x m)=0:=by
 obtain⟨A0,hA0⟩:∃A0:Nat->Nat->Rat,A0=fun l j=>if j<n then A l j else 0:=⟨_,rfl⟩
 have hd:det n (cl A0)=0:=by
  rw[<- h]
  exact det_congr fun j r hj _=>by show A0 r j=A r j;rw[hA0];exact if_pos hj
 have hc:∀l,A0 l n=0:=fun l=>by rw[hA0];exact if_neg (yQ _)
 have hm:∀(x:Nat->Rat) (l:Nat),sm n (fun m=>A0 l m*x m)=sm n (fun m=>A l m*x m):=fun x l=>sm_congr fun m hm=>by
  rw[show A0 l m=A l m by rw[hA0];exact if_pos hm]
 have back:∀{B:Nat->Nat->Rat},Eqv n A0 B->(∀l,B l n=0)->(∃x:Nat->Rat,(∃m,m<n/\x m≠0)/\∀l,l<n->sm n (fun m=>B l m*x m)=0)->∃x:Nat->Rat,(∃m,m<n/\x m≠0)/\∀l,l<n->sm n (fun m=>A l m*x m)=0:=fun {B} hE hB ⟨x,hx,hl⟩=>⟨x,hx,fun l hl'=>by
  have:=(hE.an x).mpr (fun l hl'=>by rw[hl l hl',hB l]) l hl'
  rw[hc,hm]at this
  exact this⟩
 have go:∀k,k<=n->(∃x:Nat->Rat,(∃m,m<n/\x m≠0)/\∀l,l<n->sm n (fun m=>A l m*x m)=0)\/∃(B M:Nat->Nat->Rat) (d:Rat),Bar n k B M d/\Eqv n A0 B/\∀l,B l n=0:=by
  intro k
  induction k with
  | zero=>exact fun _=>.inr ⟨A0,A0,1,bar_start,Eqv.refl _ _,hc⟩
  | succ k ih=>
   intro hk
   rcases ih (by omega)with g | ⟨B,M,d,hb,hE,hB⟩
   ·exact .inl g
   rcases yag (∃i,k<=i/\i<n/\M i k≠0) with⟨i,h1,h2,h3⟩ | z
   ·have hb':=hb.swap (p:=k) (q:=i) (ye _) h1 (by omega) h2
    have hp:swp M k i k k≠0:=by unfold swp;rw[if_pos rfl];exact h3
    exact .inr ⟨_,_,_,hb'.step (by omega) hp,hE.trans (Eqv.swap (by omega) h2 B),fun l=>by
     unfold swp
     split
     ·exact hB i
     ·split
      ·exact hB k
      ·exact hB l⟩
   ·refine .inl (back hE hB (zkJ hb (by omega) fun i h1 h2=>?_))
    rcases yag (M i k=0)with q | q
    ·exact q
    ·exact absurd ⟨i,h1,h2,q⟩ z
 rcases go n (ye _)with g | ⟨B,M,d,hb,hE,_⟩
 ·exact g
 ·exact absurd (by rw[hb.dd];exact hE.dt.mp hd) hb.d0
theorem zlR{f:Nat->Rat}:∀{n:Nat},(∀i,i<n->f i<=0)->sm n f<=0
 | 0,_=>by show(0:Rat)<=0;decide
 | n+1,h=>by
  have h1:=zlR (n:=n) fun i hi=>h i (by omega)
  have h2:=h n (by omega)
  show sm n f+f n<=0
  grind
theorem zmt{f:Nat->Rat}{j:Nat}:∀{n:Nat},j<n->(∀i,i<n->f i<=0)->f j<0->sm n f<0
 | n+1,hj,h,hf=>by
  have h2:=h n (by omega)
  show sm n f+f n<0
  rcases yL (yW hj)with g | g
  ·have:=zmt (n:=n) g (fun i hi=>h i (by omega)) hf
   grind
  ·have:=zlR (n:=n) fun i hi=>h i (by omega)
   rw[g]at hf
   grind
theorem sm_ge0{f:Nat->Rat}:∀{n:Nat},(∀i,i<n->0<=f i)->0<=sm n f
 | 0,_=>by show(0:Rat)<=0;decide
 | n+1,h=>by
  have h1:=sm_ge0 (n:=n) fun i hi=>h i (by omega)
  have h2:=h n (by omega)
  show 0<=sm n f+f n
  grind
theorem sm_mono{f g:Nat->Rat}:∀{n:Nat},(∀i,i<n->f i<=g i)->sm n f<=sm n g
 | 0,_=>by show(0:Rat)<=0;decide
 | n+1,h=>by
  have h1:=sm_mono (n:=n) fun i hi=>h i (by omega)
  have h2:=h n (by omega)
  show sm n f+f n<=sm n g+g n
  grind
set_option genInjectivity false in
set_option genSizeOf false in
structure Leak(n:Nat)(f:Nat->Nat->Rat)(r:Nat->Rat):Prop where
 nn:∀j i,j<n->i<n->0<=f j i
 own:∀i,i<n->f i i=0
 le:∀j,j<n->sm n (f j)<=r j
 leak:∀S:Nat->Bool,(∃j,j<n/\S j=true)->∃j,j<n/\S j=true/\sm n (fun i=>if S i then f j i else 0)<r j
theorem Leak.nonneg{n:Nat}{f:Nat->Nat->Rat}{r s:Nat->Rat}(h:Leak n f r)(he:∀i,i<n->0<=r i*s i-sm n (fun j=>f j i*s j)):∀i,i<n->0<=s i:=by
 intro i0 hi0
 rcases yag (0<=s i0)with z | z
 ·exact z
 exfalso
 obtain⟨S,hS⟩:∃S:Nat->Bool,S=fun i=>decide (s i<0):=⟨_,rfl⟩
 have St:∀i,S i=true↔s i<0:=fun i=>by rw[hS];exact decide_eq_true_iff
 obtain⟨j0,hj0,hS0,hl0⟩:=h.leak S ⟨i0,hi0,(St i0).mpr (Rat.not_le.mp z)⟩
 obtain⟨c,hc⟩:∃c:Nat->Rat,c=fun j=>sm n (fun i=>if S i then f j i else 0):=⟨_,rfl⟩
 have c0:∀j,j<n->0<=c j:=fun j hj=>by
  rw[hc]
  refine sm_ge0 fun i hi=>?_
  split
  ·exact h.nn j i hj hi
  ·exact yK
 have c1:∀j,j<n->c j<=r j:=fun j hj=>by
  refine yM ?_ (h.le j hj)
  rw[hc]
  refine sm_mono fun i hi=>?_
  split
  ·exact yK
  ·exact h.nn j i hj hi
 have tot:sm n (fun j=>(if S j then r j*s j else 0)-c j*s j)=sm n (fun i=>if S i then r i*s i-sm n (fun j=>f j i*s j)else 0):=by
  have a1:sm n (fun j=>(if S j then r j*s j else 0)-c j*s j)=sm n (fun j=>1*(if S j then r j*s j else 0)+(-1)*(c j*s j)):=sm_congr fun j _=>by grind
  have a2:sm n (fun i=>if S i then r i*s i-sm n (fun j=>f j i*s j)else 0)=sm n (fun i=>1*(if S i then r i*s i else 0)+(-1)*(if S i then sm n (fun j=>f j i*s j)else 0)):=sm_congr fun i _=>by split<;>grind
  have a3:sm n (fun j=>c j*s j)=sm n (fun i=>if S i then sm n (fun j=>f j i*s j)else 0):=by
   have b1:sm n (fun j=>c j*s j)=sm n (fun j=>sm n fun i=>(if S i then f j i else 0)*s j):=sm_congr fun j _=>by
    rw[hc]
    dsimp only
    rw[show sm n (fun i=>if S i then f j i else 0)*s j=s j*sm n (fun i=>if S i then f j i else 0) by grind,<- sm_mul]
    exact sm_congr fun i _=>by grind
   rw[b1,sm_swap]
   refine sm_congr fun i _=>?_
   by_cases g:S i
   ·rw[if_pos g]
    exact sm_congr fun j _=>by rw[if_pos g]
   ·rw[if_neg g]
    exact sm_zero fun j _=>by rw[if_neg g];grind
  rw[a1,a2,sm_lin,sm_lin,a3]
 have ge:0<=sm n (fun i=>if S i then r i*s i-sm n (fun j=>f j i*s j)else 0):=sm_ge0 fun i hi=>by
  split
  ·exact he i hi
  ·exact yK
 have lt:sm n (fun j=>(if S j then r j*s j else 0)-c j*s j)<0:=by
  refine zmt hj0 (fun j hj=>?_) ?_
  ·have h0:=c0 j hj
   have h1:=c1 j hj
   by_cases g:S j
   ·rw[if_pos g]
    have hs:=(St j).mp g
    have h3:0<=(r j-c j)*(-s j):=yu (by grind) (by grind)
    grind
   ·rw[if_neg g]
    have hs:0<=s j:=Rat.not_lt.mp fun z=>g ((St j).mpr z)
    have h3:0<=c j*s j:=yu h0 hs
    grind
  ·rw[if_pos hS0]
   have hs:=(St j0).mp hS0
   have h2:c j0<r j0:=by rw[hc];exact hl0
   have h3:0<(r j0-c j0)*(-s j0):=ybp (by grind) (by grind)
   grind
 rw[tot]at lt
 exact absurd ge (Rat.not_le.mpr lt)
def bal(f:Nat->Nat->Rat)(r:Nat->Rat):Nat->Nat->Rat:=fun i j=>if i=j then r i else -f j i
theorem bal_row{n:Nat}{f:Nat->Nat->Rat}{r s:Nat->Rat}{i:Nat}(hi:i<n)(ho:f i i=0):sm n (fun m=>bal f r i m*s m)=r i*s i-sm n (fun j=>f j i*s j):=by
 have e1:sm n (fun m=>bal f r i m*s m)=sm n (fun m=>1*(if m=i then r i*s i else 0)+(-1)*(f m i*s m)):=sm_congr fun m _=>by
  unfold bal
  by_cases g:i=m
  ·rw[if_pos g,if_pos g.symm,<- g,ho];grind
  ·rw[if_neg g,if_neg fun z=>g z.symm];grind
 rw[e1,sm_lin,sm_one hi fun j _ hj=>if_neg hj,if_pos rfl]
 grind
theorem Leak.det{n:Nat}{f:Nat->Nat->Rat}{r:Nat->Rat}(h:Leak n f r):det n (cl (bal f r))≠0:=fun z=>by
 obtain⟨x,⟨m,hm,hx⟩,hn⟩:=null_of_det z
 have e:∀i,i<n->r i*x i-sm n (fun j=>f j i*x j)=0:=fun i hi=>by rw[<- bal_row hi (h.own i hi)];exact hn i hi
 have p1:=h.nonneg (s:=x) (fun i hi=>by rw[e i hi];exact yK) m hm
 have p2:=h.nonneg (s:=fun j=>-x j) (fun i hi=>by
  have e2:sm n (fun j=>f j i * -x j)=-sm n (fun j=>f j i*x j):=by
   rw[<- sm_neg]
   exact sm_congr fun j _=>by grind
  rw[e2]
  have:=e i hi
  grind) m hm
 exact hx (by grind)
end Dt
namespace Dt
def prodN(B:Nat->Rat):Nat->Rat
 | 0=>1
 | n+1=>prodN B n*B n
theorem prodN_nn{B:Nat->Rat}:∀{n:Nat},(∀j,j<n->0<=B j)->0<=prodN B n
 | 0,_=>by show(0:Rat)<=1;decide
 | n+1,h=>yu (prodN_nn fun j hj=>h j (by omega)) (h n (by omega))
theorem Bd.sums{g f:Nat->Rat}:∀{n:Nat},(∀i,i<n->Bd (g i) (f i))->Bd (Dt.sm n g) (Dt.sm n f)
 | 0,_=>⟨by show -(0:Rat)<=0;decide,by show(0:Rat)<=0;decide⟩
 | n+1,h=>Bd.add (Bd.sums fun i hi=>h i (by omega)) (h n (by omega))
theorem Bd.wide{a b x:Rat}(h:Bd a x)(hab:a<=b):Bd b x:=by
 obtain⟨h1,h2⟩:=h
 exact⟨by grind,by grind⟩
theorem zoD{f:Nat->Rat}{n i:Nat}(hi:i<n+1)(hf:∀j,j<n+1->0<=f j):Dt.sm n (skip i f)<=Dt.sm (n+1) f:=by
 have e:Dt.sm n (skip i f)=Dt.sm (n+1) (fun j=>if j=i then 0 else f j):=by
  rw[<- zkS hi]
  exact sm_congr fun k _=>zeh i f k
 rw[e]
 refine sm_mono fun j hj=>?_
 split
 ·exact hf j hj
 ·exact yK
theorem Bd.det_col{B:Nat->Rat}:∀{n:Nat} {c b:Nat->Nat->Rat},(∀j r,j<n->r<n->Bd (b j r) (c j r))->(∀j,j<n->Dt.sm n (b j)<=B j)->Bd (prodN B n) (Dt.det n c)
 | 0,_,_,_,_=>⟨by show -(1:Rat)<=1;decide,by show(1:Rat)<=1;decide⟩
 | n+1,c,b,hb,hB=>by
  have b0:∀j r,j<n+1->r<n+1->0<=b j r:=fun j r hj hr=>(hb j r hj hr).nn
  have B0:∀j,j<n+1->0<=B j:=fun j hj=>yM (sm_ge0 fun r hr=>b0 j r hj hr) (hB j hj)
  have P0:0<=prodN B n:=prodN_nn fun j hj=>B0 j (by omega)
  have minor:∀i,i<n+1->Bd (prodN B n) (Dt.det n fun j=>skip i (c j)):=fun i hi=>by
   refine Bd.det_col (b:=fun j=>skip i (b j)) (fun j r hj hr=>?_) fun j hj=>?_
   ·rw[zeh,zeh]
    exact hb j _ (by omega) (by unfold up;split<;>omega)
   ·exact yM (zoD hi fun r hr=>b0 j r (by omega) hr) (hB j (by omega))
  have whole:Bd (Dt.sm (n+1) fun i=>b n i*prodN B n) (Dt.det (n+1) c):=by
   unfold Dt.det
   refine Bd.sums fun i hi=>?_
   have h1:=((Bd.sgn (n+i)).mul (hb n i (by omega) hi)).mul (minor i hi)
   exact h1.wide (by grind)
  refine whole.wide ?_
  have e:(Dt.sm (n+1) fun i=>b n i*prodN B n)=prodN B n*Dt.sm (n+1) (b n):=by
   rw[<- sm_mul]
   exact sm_congr fun i _=>by grind
  rw[e]
  exact yJ (hB n (by omega)) P0
end Dt
namespace Internal
open PySem PySem.Spec PyProof.Rows
section
variable {f:Nat->Int}{q q':Rat}
def zai(f:Nat->Int)(r:Nat):Rat:=((zbF f r:Int):Rat)
theorem zds(f:Nat->Int)(r:Nat):zai f (r+1)=zai f r+((f r:Int):Rat):=by
 unfold zai
 show((zbF f r+f r:Int):Rat)=_
 rw[yav]
theorem zhy(hf:∀r,r<3->0<=f r):∀(k r:Nat),r+k<=3->zai f r<=zai f (r+k)
 | 0,r,_=>by show zai f r<=zai f r;grind
 | k+1,r,h=>by
  have h1:=zhy hf k r (by omega)
  have h2:=zbd (hf (r+k) (by omega))
  show zai f r<=zai f (r+k+1)
  rw[zds];grind
theorem zfy(hf:∀r,r<3->0<=f r){a b:Nat}(h:a<=b)(hb:b<=3):zai f a<=zai f b:=by
 have:=zhy hf (b-a) a (by omega)
 rwa [show a+(b-a)=b by omega]at this
theorem zkb(hq:0<=q)(hf:∀r,r<3->0<=f r):∀r,r<=3->zd9 f q r=if q<=zai f r then 0 else q-zai f r
 | 0,_=>by
  have e:zai f 0=0:=rfl
  show q=_
  rw[e]
  split<;>grind
 | r+1,h=>by
  have ih:=zkb hq hf r (by omega)
  have h1:=zbd (hf r (by omega))
  have h2:=zds f r
  rw[zk7]
  unfold zdk
  rw[ih]
  split<;>split<;>split<;>grind
theorem zg6(hq:0<=q)(hf:∀r,r<3->0<=f r){r:Nat}(hr:r<3):zdk f q r=if q<=zai f r then 0 else if zai f (r+1)<=q then((f r:Int):Rat)else q-zai f r:=by
 have ih:=zkb hq hf r (by omega)
 have h1:=zbd (hf r hr)
 have h2:=zds f r
 unfold zdk
 rw[ih]
 split<;>split<;>(try split)<;>grind
theorem zcb:∀{k ρ:Nat},zae f q k=some ρ->ρ < k/\q<zai f (ρ+1)/\∀r,r < ρ->zai f (r+1)<=q
 | 0,_,h=>by cases h
 | k+1,ρ,h=>by
  have h':(match zae f q k with | some r=>some r | none=>if zaG f q k then some k else none)=some ρ:=h
  have nn:∀{k:Nat},zae f q k=none->∀r,r<k->zai f (r+1)<=q:=by
   intro k
   induction k with
   | zero=>intro _ r hr;omega
   | succ k ih=>
    intro hk r hr
    have hk':(match zae f q k with | some r=>some r | none=>if zaG f q k then some k else none)=none:=hk
    cases e:zae f q k with
    | some x=>rw[e]at hk';cases hk'
    | none=>
     rw[e]at hk'
     dsimp only at hk'
     rcases yL (yW hr)with g | g
     ·exact ih e r g
     ·subst g
      have:¬zaG f q r:=fun z=>by rw[if_pos z]at hk';cases hk'
      exact Rat.not_lt.mp fun z=>this (under_int.mp z)
  cases e:zae f q k with
  | some x=>
   rw[e]at h'
   cases h'
   have:=zcb (k:=k) e
   exact⟨by omega,this.2⟩
  | none=>
   rw[e]at h'
   dsimp only at h'
   by_cases g:zaG f q k
   ·rw[if_pos g]at h'
    cases h'
    exact⟨by omega,under_int.mpr g,nn e⟩
   ·rw[if_neg g]at h';cases h'
theorem zeT:∀{k:Nat},zae f q k=none->∀r,r<k->zai f (r+1)<=q
 | 0,_,r,hr=>by omega
 | k+1,hk,r,hr=>by
  have hk':(match zae f q k with | some r=>some r | none=>if zaG f q k then some k else none)=none:=hk
  cases e:zae f q k with
  | some x=>rw[e]at hk';cases hk'
  | none=>
   rw[e]at hk'
   dsimp only at hk'
   rcases yL (yW hr)with g | g
   ·exact zeT e r g
   ·subst g
    have:¬zaG f q r:=fun z=>by rw[if_pos z]at hk';cases hk'
    exact Rat.not_lt.mp fun z=>this (under_int.mp z)
theorem ziP(hq:0<=q){ρ:Nat}(h:zae f q 3=some ρ):zai f ρ<=q:=by
 obtain⟨h1,h2,h3⟩:=zcb h
 rcases yaO ρ with g | g
 ·rw[g];exact hq
 ·have:=h3 (ρ - 1) (by omega)
  rwa [show ρ - 1+1=ρ by omega]at this
theorem zc5(hq:0<=q){ρ:Nat}(h:zae f q 3=some ρ):0<f ρ:=by
 have h1:=ziP hq h
 have h2:=(zcb h).2.1
 have h3:=zds f ρ
 have:(0:Rat)<((f ρ:Int):Rat):=by grind
 exact_mod_cast this
theorem zkv(hq:0<=q)(hf:∀r,r<3->0<=f r){ρ:Nat}(h:zae f q 3=some ρ)(h1:q<=q')(h2:q'<=zai f (ρ+1)){r:Nat}(hr:r<3):zee f q' r=zee f q r+if r=ρ then(q'-q)/((f ρ:Int):Rat)else 0:=by
 have lo:=ziP hq h
 obtain⟨hρ,up,_⟩:=zcb h
 have pos:=zeZ (zc5 hq h)
 have hq':0<=q':=yM hq h1
 have l1:=zg6 hq hf hr
 have l2:=zg6 hq' hf hr
 have cs:=zds f r
 have fr:=zbd (hf r hr)
 unfold zee
 by_cases e:r=ρ
 ·subst e
  rw[if_pos rfl,if_pos (zc5 hq h),if_pos (zc5 hq h)]
  have e1:zdk f q r=q-zai f r:=by
   rw[l1]
   split
   ·grind
   ·rw[if_neg (Rat.not_le.mpr up)]
  have e2:zdk f q' r=q'-zai f r:=by
   rw[l2]
   split
   ·grind
   ·split<;>grind
  rw[e1,e2]
  generalize ((f r:Int):Rat)=x at *
  grind
 ·rw[if_neg e]
  have same:zdk f q' r=zdk f q r:=by
   rcases ybs e with g | g
   ·have:=zfy hf (show r+1<=ρ by omega) (by omega)
    rw[l1,l2]
    split<;>split<;>(try split)<;>(try split)<;>grind
   ·have:=zfy hf (show ρ+1<=r by omega) (by omega)
    rw[l1,l2,if_pos (by grind),if_pos (by grind)]
  rw[same]
  split<;>grind
end
def zap(ρ:Nat->Option Nat)(ds:List Due)(i j:Nat):Int:=ds.foldl (fun(s:Int) (d:Due)=>if d.p=(i:Int)/\d.q=(j:Int)/\ρ i=some d.r.toNat then s+d.a else s) 0
theorem zbs(ρ:Nat->Option Nat)(ds:List Due)(d:Due)(i j:Nat):zap ρ (ds++[d]) i j=zap ρ ds i j+if d.p=(i:Int)/\d.q=(j:Int)/\ρ i=some d.r.toNat then d.a else 0:=by
 have e:zap ρ (ds++[d]) i j=if d.p=(i:Int)/\d.q=(j:Int)/\ρ i=some d.r.toNat then zap ρ ds i j+d.a else zap ρ ds i j:=by
  unfold zap
  rw[yaD];rfl
 rw[e]
 split
 ·rfl
 ·exact(Int.add_zero _).symm
theorem zcz{P:List Due->Prop}(h0:P [])(hs:∀(es:List Due) (d:Due),P es->P (es++[d]))(ds:List Due):P ds:=by
 have:∀i,i<=ds.length->P (ds.take i):=by
  intro i
  induction i with
  | zero=>intro _;rw[List.take_zero];exact h0
  | succ i ih=>
   intro hi
   rw[List.take_succ,yi (by omega)]
   exact hs _ _ (ih (by omega))
 have h:=this ds.length (ye _)
 rwa [yF]at h
theorem zfx{ρ:Nat->Option Nat}{i j:Nat}(ds:List Due):(∀d∈ds,0<=d.a)->0<=zap ρ ds i j:=
 zcz (P:=fun ds=>(∀d∈ds,0<=d.a)->0<=zap ρ ds i j) (fun _=>yaS 0) (fun es d ih h=>by
  have h1:=ih fun e he=>h e (yC _ he)
  have h2:=h d (yq _ (.head _))
  rw[zbs]
  split<;>omega) ds
theorem znI{ρ:Nat->Option Nat}{i:Nat}(ds:List Due):(∀d∈ds,d.p≠d.q)->zap ρ ds i i=0:=
 zcz (P:=fun ds=>(∀d∈ds,d.p≠d.q)->zap ρ ds i i=0) (fun _=>rfl) (fun es d ih h=>by
  have h1:=ih fun e he=>h e (yC _ he)
  have h2:=h d (yq _ (.head _))
  rw[zbs,h1,if_neg (fun z=>h2 (z.1.trans z.2.1.symm))];rfl) ds
theorem zhj{ρ:Nat->Option Nat}{i j:Nat}(hi:ρ i=none)(ds:List Due):zap ρ ds i j=0:=
 zcz (P:=fun ds=>zap ρ ds i j=0) rfl (fun es d ih=>by
  rw[zbs,ih,if_neg (fun z=>by rw[hi]at z;cases z.2.2)];rfl) ds
theorem ziJ{ρ:Nat->Option Nat}{i r n:Nat}(hi:ρ i=some r)(ds:List Due):(∀d∈ds,0<=d.q/\d.q<n/\0<=d.r)->Dt.sm n (fun j=>((zap ρ ds i j:Int):Rat))=((zH ds i r:Int):Rat):=
 zcz (P:=fun ds=>(∀d∈ds,0<=d.q/\d.q<n/\0<=d.r)->Dt.sm n (fun j=>((zap ρ ds i j:Int):Rat))=((zH ds i r:Int):Rat)) (fun _=>Dt.sm_zero fun _ _=>rfl) (fun es d ih h=>by
  have h1:=ih fun e he=>h e (yC _ he)
  obtain⟨q0,q1,r0⟩:=h d (yq _ (.head _))
  rw[zcl]
  have e:Dt.sm n (fun j=>((zap ρ (es++[d]) i j:Int):Rat))=Dt.sm n (fun j=>((zap ρ es i j:Int):Rat)+(if j=d.q.toNat then(if d.p=(i:Int)/\d.r=(r:Int) then((d.a:Int):Rat)else 0)else 0)):=Dt.sm_congr fun j _=>by
   rw[zbs,yav]
   congr 1
   by_cases g:j=d.q.toNat
   ·rw[if_pos g]
    by_cases c:d.p=(i:Int)/\d.r=(r:Int)
    ·rw[if_pos c,if_pos ⟨c.1,by omega,by rw[hi,c.2,yw]⟩]
    ·rw[if_neg c,if_neg (fun z=>c ⟨z.1,by
      have:=z.2.2
      rw[hi]at this
      have:=yp this
      omega⟩)];rfl
   ·rw[if_neg g,if_neg (fun z=>g (by have:=z.2.1;omega))];rfl
  rw[e,Dt.sm_add,h1,Dt.sm_one (i:=d.q.toNat) (by omega) fun j _ hj=>if_neg hj,if_pos rfl]
  split
  ·rw[yav]
  ·grind) ds
theorem zm2{ρ:Nat->Option Nat}{s:Nat->Rat}{g:Due->Rat}{m n:Nat}(ds:List Due):(∀d∈ds,0<=d.p/\d.p<n)->za5 ds (fun d=>g d+if ρ d.p.toNat=some d.r.toNat then((d.a:Int):Rat)*s d.p.toNat else 0) m=za5 ds g m+Dt.sm n (fun i=>((zap ρ ds i m:Int):Rat)*s i):=
 zcz (P:=fun ds=>(∀d∈ds,0<=d.p/\d.p<n)->za5 ds (fun d=>g d+if ρ d.p.toNat=some d.r.toNat then((d.a:Int):Rat)*s d.p.toNat else 0) m=za5 ds g m+Dt.sm n (fun i=>((zap ρ ds i m:Int):Rat)*s i)) (fun _=>by
  have z:Dt.sm n (fun i=>((zap ρ [] i m:Int):Rat)*s i)=0:=Dt.sm_zero fun i _=>by
   show((0:Int):Rat)*s i=0
   rw[show((0:Int):Rat)=0 from rfl];grind
  rw[z]
  show za5 [] _ m=za5 [] g m+0
  have:∀h:Due->Rat,za5 [] h m=0:=fun _=>rfl
  rw[this,this];grind) (fun es d ih h=>by
  have h1:=ih fun e he=>h e (yC _ he)
  obtain⟨p0,p1⟩:=h d (yq _ (.head _))
  rw[zdr,zdr,h1]
  have e:Dt.sm n (fun i=>((zap ρ (es++[d]) i m:Int):Rat)*s i)=Dt.sm n (fun i=>((zap ρ es i m:Int):Rat)*s i+(if i=d.p.toNat then(if d.q=(m:Int)/\ρ d.p.toNat=some d.r.toNat then((d.a:Int):Rat)*s d.p.toNat else 0)else 0)):=Dt.sm_congr fun i _=>by
   rw[zbs,yav,Rat.add_mul]
   congr 1
   by_cases g':i=d.p.toNat
   ·rw[if_pos g']
    subst g'
    by_cases c:d.q=(m:Int)/\ρ d.p.toNat=some d.r.toNat
    ·rw[if_pos c,if_pos ⟨by omega,c⟩]
    ·rw[if_neg c,if_neg (fun z=>c z.2)]
     show((0:Int):Rat)*_=0
     rw[show((0:Int):Rat)=0 from rfl];grind
   ·rw[if_neg g',if_neg (fun z=>g' (by have:=z.1;omega))]
    show((0:Int):Rat)*_=0
    rw[show((0:Int):Rat)=0 from rfl];grind
  rw[e,Dt.sm_add,Dt.sm_one (i:=d.p.toNat) (by omega) fun j _ hj=>if_neg hj,if_pos rfl]
  by_cases c1:d.q=(m:Int)
  ·by_cases c2:ρ d.p.toNat=some d.r.toNat
   ·rw[if_pos c1,if_pos c1,if_pos c2,if_pos ⟨c1,c2⟩];grind
   ·rw[if_pos c1,if_pos c1,if_neg c2,if_neg (fun z=>c2 z.2)];grind
  ·rw[if_neg c1,if_neg c1,if_neg (fun z=>c1 z.1)];grind) ds
end Internal
namespace Rc
section
variable {n:Nat}{g:Nat->Nat->Bool}{i:Nat}
def zgp(n:Nat)(g:Nat->Nat->Bool)(j:Nat)(l:List Nat):List Nat:=(List.range n).filter fun k=>g j k&&!decide (k∈l)
theorem mem_next{j k:Nat}{l:List Nat}:k∈zgp n g j l↔k<n/\g j k=true/\k∉l:=by
 unfold zgp
 rw[yam,yN,y3,Bool.not_eq_true',decide_eq_false_iff_not]
theorem zkU{j:Nat}{l:List Nat}:(zgp n g j l).Nodup:=ybD.filter _
def seqL(n:Nat)(g:Nat->Nat->Bool)(i:Nat):Nat->List Nat
 | 0=>[i]
 | k+1=>if k<(seqL n g i k).length then seqL n g i k++zgp n g ((seqL n g i k).getD k 0) (seqL n g i k)else seqL n g i k
theorem seq_succ{k:Nat}(h:k<(seqL n g i k).length):seqL n g i (k+1)=seqL n g i k++zgp n g ((seqL n g i k).getD k 0) (seqL n g i k):=if_pos h
theorem zcI{k:Nat}(h:¬k<(seqL n g i k).length):seqL n g i (k+1)=seqL n g i k:=if_neg h
theorem zeX:∀k,(seqL n g i k).Nodup
 | 0=>by show[i].Nodup;simp
 | k+1=>by
  have ih:=zeX k
  by_cases h:k<(seqL n g i k).length
  ·rw[seq_succ h]
   exact ybc.mpr ⟨ih,zkU,fun a ha b hb e=>(mem_next.mp hb).2.2 (e▸ha)⟩
  ·rw[zcI h];exact ih
theorem seq_lt(hi:i<n):∀k x,x∈seqL n g i k->x<n
 | 0,x,h=>by rw[yv.mp h];exact hi
 | k+1,x,hx=>by
  have ih:=seq_lt hi k
  by_cases h:k<(seqL n g i k).length
  ·rw[seq_succ h]at hx
   rcases yT.mp hx with hx | hx
   ·exact ih x hx
   ·exact(mem_next.mp hx).1
  ·rw[zcI h]at hx;exact ih x hx
theorem ze6:∀k,i∈seqL n g i k
 | 0=>yv.mpr rfl
 | k+1=>by
  by_cases h:k<(seqL n g i k).length
  ·rw[seq_succ h];exact yC _ (ze6 k)
  ·rw[zcI h];exact ze6 k
theorem zlS{S:Nat->Prop}(h0:S i)(hS:∀j k,S j->k<n->g j k=true->S k):∀k x,x∈seqL n g i k->S x
 | 0,x,h=>by rw[yv.mp h];exact h0
 | k+1,x,hx=>by
  have ih:=zlS h0 hS k
  by_cases h:k<(seqL n g i k).length
  ·rw[seq_succ h]at hx
   rcases yT.mp hx with hx | hx
   ·exact ih x hx
   ·obtain⟨h1,h2,_⟩:=mem_next.mp hx
    refine hS _ x (ih _ ?_) h1 h2
    rw[yg,yi h]
    exact ybE h
  ·rw[zcI h]at hx;exact ih x hx
theorem zoq{x:Nat}{k:Nat}(hx:x∈seqL n g i k):x∈seqL n g i (k+1):=by
 by_cases h:k<(seqL n g i k).length
 ·rw[seq_succ h];exact yC _ hx
 ·rw[zcI h];exact hx
theorem zfK:∀(k p x y:Nat),p<k->(seqL n g i k)[p]?=some x->y<n->g x y=true->y∈seqL n g i k
 | 0,_,_,_,h,_,_,_=>absurd h (yaA _)
 | k+1,p,x,y,hp,hx,hy,hg=>by
  by_cases h:k<(seqL n g i k).length
  ·rcases yL (yW hp)with e | e
   ·have hx':(seqL n g i k)[p]?=some x:=by
     rw[seq_succ h,yA (by omega)]at hx;exact hx
    exact zoq (zfK k p x y e hx' hy hg)
   ·subst e
    have hx':(seqL n g i p)[p]?=some x:=by
     rw[seq_succ h,yA h]at hx;exact hx
    have hd:(seqL n g i p).getD p 0=x:=by rw[yg,hx'];rfl
    rw[seq_succ h,hd]
    rcases yag (y∈seqL n g i p)with q | q
    ·exact yC _ q
    ·exact yq _ (mem_next.mpr ⟨hy,hg,q⟩)
  ·rw[zcI h]at hx ⊢
   have hl:=(yj.mp hx).1
   exact zfK k p x y (by omega) hx hy hg
theorem len_le{l:List Nat}(nd:l.Nodup)(h:∀x∈l,x<n):l.length<=n:=by
 have h2:l.length<=(List.range n).length:=ybi nd fun x hx=>yN.mpr (h x hx)
 rwa [yy]at h2
def reach(n:Nat)(g:Nat->Nat->Bool)(i:Nat):List Nat:=seqL n g i n
theorem zfF:(reach n g i).Nodup:=zeX n
theorem reach_lt(hi:i<n){x:Nat}(hx:x∈reach n g i):x<n:=seq_lt hi n x hx
theorem zjR:i∈reach n g i:=ze6 n
theorem zi6{S:Nat->Prop}(h0:S i)(hS:∀j k,S j->k<n->g j k=true->S k){x:Nat}(hx:x∈reach n g i):S x:=zlS h0 hS n x hx
theorem seq_len(hi:i<n)(k:Nat):(seqL n g i k).length<=n:=len_le (zeX k) (seq_lt hi k)
theorem zjD(hi:i<n){x y:Nat}(hx:x∈reach n g i)(hy:y<n)(hg:g x y=true):y∈reach n g i:=by
 obtain⟨p,hp,e⟩:=yI hx
 exact zfK n p x y (yt hp (seq_len hi n)) (by rw[<- e];exact yi hp) hy hg
theorem zhA{k:Nat}(h:¬k<(seqL n g i k).length):∀m,seqL n g i (k+m)=seqL n g i k
 | 0=>rfl
 | m+1=>by
  have ih:=zhA h m
  show seqL n g i (k+m+1)=_
  rw[zcI (by rw[ih];omega),ih]
theorem seq_end(hi:i<n){k:Nat}(hk:k<=(seqL n g i k).length)(h:¬k<(seqL n g i k).length):seqL n g i k=reach n g i:=by
 have hn:=seq_len (g:=g) hi k
 have:=zhA h (n-k)
 rw[show k+(n-k)=n by omega]at this
 exact this.symm
def minL:List (List Nat)->List Nat
 | []=>[]
 | l :: ls=>ls.foldl (fun b c=>if c.length<b.length then c else b) l
theorem zhn:∀(ls:List (List Nat)) (l:List Nat),(ls.foldl (fun b c=>if c.length<b.length then c else b) l∈l :: ls)/\∀c∈l :: ls,(ls.foldl (fun b c=>if c.length<b.length then c else b) l).length<=c.length
 | [],l=>⟨yad,fun c hc=>by rw[yv.mp hc];exact ye _⟩
 | d :: ls,l=>by
  show(ls.foldl _ (if d.length<l.length then d else l)∈l :: d :: ls)/\_
  have ih:=zhn ls (if d.length<l.length then d else l)
  refine⟨?_,fun c hc=>?_⟩
  ·rcases yz.mp ih.1 with h | h
   ·rw[h];split
    ·exact yR _ yad
    ·exact yad
   ·exact yR _ (yR _ h)
  ·have hb:=ih.2 _ yad
   show(ls.foldl _ (if d.length<l.length then d else l)).length<=c.length
   rcases yz.mp hc with rfl | hc
   ·refine yh hb ?_
    split<;>omega
   ·rcases yz.mp hc with rfl | hc
    ·refine yh hb ?_
     split<;>omega
    ·exact ih.2 c (yR _ hc)
theorem zjp{ls:List (List Nat)}(h:ls≠[]):minL ls∈ls/\∀c∈ls,(minL ls).length<=c.length:=by
 cases ls with
 | nil=>exact absurd rfl h
 | cons l ls=>exact zhn ls l
def circles(n:Nat)(g:Nat->Nat->Bool)(sh:Nat->Bool):List (List Nat):=((List.range n).map (reach n g)).filter fun l=>l.all sh
def circle(n:Nat)(g:Nat->Nat->Bool)(sh:Nat->Bool):List Nat:=minL (circles n g sh)
variable {sh:Nat->Bool}
theorem mem_circles{c:List Nat}:c∈circles n g sh↔∃i,i<n/\c=reach n g i/\∀x∈c,sh x=true:=by
 unfold circles
 rw[yam,yaa,ybB]
 constructor
 ·rintro⟨⟨i,hi,e⟩,h⟩;exact⟨i,yN.mp hi,e.symm,h⟩
 ·rintro⟨i,hi,e,h⟩;exact⟨⟨i,yN.mpr hi,e.symm⟩,h⟩
set_option genInjectivity false in
set_option genSizeOf false in
structure Cir(n:Nat)(g:Nat->Nat->Bool)(sh:Nat->Bool)(c:List Nat):Prop where
 nd:c.Nodup
 lt:∀x∈c,x<n
 sh:∀x∈c,sh x=true
 cl:∀x y,x∈c->y<n->g x y=true->y∈c
 ne:c≠[]
 small:∀S:Nat->Prop,(∀x,S x->x∈c)->(∀j k,S j->k<n->g j k=true->S k)->(∃j,S j)->∀x∈c,S x
theorem zk3(h:circle n g sh=[]):circles n g sh=[]:=by
 cases e:circles n g sh with
 | nil=>rfl
 | cons l ls=>
  have hm:=zjp (ls:=circles n g sh) (by rw[e];exact List.cons_ne_nil _ _)
  have:circle n g sh∈circles n g sh:=hm.1
  rw[h]at this
  obtain⟨i,hi,e2,_⟩:=mem_circles.mp this
  have:=zjR (n:=n) (g:=g) (i:=i)
  rw[<- e2]at this
  exact nomatch this
theorem circle_ok(h:circle n g sh≠[]):Cir n g sh (circle n g sh):=by
 have hne:circles n g sh≠[]:=fun z=>h (by unfold circle;rw[z];rfl)
 obtain⟨hm,hl⟩:=zjp hne
 obtain⟨i,hi,e,hs⟩:=mem_circles.mp hm
 have ec:circle n g sh=reach n g i:=e
 refine⟨by rw[ec];exact zfF,fun x hx=>by rw[ec]at hx;exact reach_lt hi hx,fun x hx=>hs x hx,fun x y hx hy hg=>?_,h,fun S h1 h2 h3 x hx=>?_⟩
 ·rw[ec]at hx ⊢;exact zjD hi hx hy hg
 ·obtain⟨j,hj⟩:=h3
  have hjn:j<n:=by have:=h1 j hj;rw[ec]at this;exact reach_lt hi this
  have sub:∀y∈reach n g j,S y:=fun y hy=>zi6 hj h2 hy
  have hc:reach n g j∈circles n g sh:=mem_circles.mpr ⟨j,hjn,rfl,fun y hy=>hs y (h1 y (sub y hy))⟩
  have hlen:(circle n g sh).length<=(reach n g j).length:=hl _ hc
  rcases yag (x∈reach n g j)with q | q
  ·exact sub x q
  ·exfalso
   have hx2:(x :: reach n g j).Nodup:=yaL.mpr ⟨q,zfF⟩
   have:=ybi hx2 (l₂:=circle n g sh) (fun y hy=>by
    rcases yz.mp hy with rfl | hy
    ·exact hx
    ·exact h1 y (sub y hy))
   rw[yax]at this
   omega
theorem no_circle(h:circle n g sh=[]){S:Nat->Prop}(h1:∀x,S x->x<n/\sh x=true)(h2:∀j k,S j->k<n->g j k=true->S k){j:Nat}(hj:S j):False:=by
 have hc:=zk3 h
 have:reach n g j∈circles n g sh:=mem_circles.mpr ⟨j,(h1 j hj).1,rfl,fun y hy=>(h1 y (zi6 hj h2 hy)).2⟩
 rw[hc]at this
 exact nomatch this
end
end Rc
namespace Dt
theorem zkm{n k:Nat}{h:Nat->Rat}(hk:k<n):sm n h=sm n (fun x=>if x=k then 0 else h x)+h k:=by
 have e:sm n h=sm n (fun x=>(if x=k then 0 else h x)+(if x=k then h k else 0)):=sm_congr fun x _=>by
  by_cases g:x=k
  ·rw[if_pos g,if_pos g,g];grind
  ·rw[if_neg g,if_neg g];grind
 rw[e,sm_add,sm_one hk fun j _ hj=>if_neg hj,if_pos rfl]
theorem sm_some{n:Nat}{s:Nat->Nat}:∀(m:Nat) {h:Nat->Rat},(∀x,x<n->0<=h x)->(∀a,a<m->s a<n)->(∀a b,a<m->b<m->s a=s b->a=b)->sm m (fun a=>h (s a))<=sm n h
 | 0,h,h0,_,_=>sm_ge0 h0
 | m+1,h,h0,h1,h2=>by
  have hm:=h1 m (by omega)
  have ih:=sm_some (n:=n) (s:=s) m (h:=fun x=>if x=s m then 0 else h x) (fun x hx=>by
   (try dsimp only)
   split
   ·exact yK
   ·exact h0 x hx) (fun a ha=>h1 a (by omega)) fun a b ha hb e=>h2 a b (by omega) (by omega) e
  have e:sm m (fun a=>if s a=s m then 0 else h (s a))=sm m (fun a=>h (s a)):=sm_congr fun a ha=>if_neg fun z=>by have:=h2 a m (by omega) (by omega) z;omega
  rw[e]at ih
  show sm m (fun a=>h (s a))+h (s m)<=sm n h
  rw[zkm (h:=h) hm]
  grind
theorem leak_of{n m:Nat}{s:Nat->Nat}{f:Nat->Nat->Rat}(h0:∀i j,i<n->j<n->0<=f i j)(ho:∀i,i<n->f i i=0)(h1:∀a,a<m->s a<n)(h2:∀a b,a<m->b<m->s a=s b->a=b)
  (h3:∀S:Nat->Prop,(∀x,S x->∃a,a<m/\x=s a)->(∃x,S x)->(∀x y,S x->y<n->0<f x y->S y)->False):Leak m (fun a b=>f (s a) (s b)) (fun a=>sm n (f (s a))) where
 nn:=fun a b ha hb=>h0 _ _ (h1 a ha) (h1 b hb)
 own:=fun a ha=>ho _ (h1 a ha)
 le:=fun a ha=>sm_some m (fun x hx=>h0 _ x (h1 a ha) hx) h1 h2
 leak:=fun T ⟨a0,ha0,hT0⟩=>by
  rcases yag (∃j,j<m/\T j=true/\sm m (fun b=>if T b then f (s j) (s b)else 0)<sm n (f (s j)))with q | q
  ·exact q
  exfalso
  refine h3 (fun x=>∃a,a<m/\T a=true/\x=s a) (fun x ⟨a,ha,_,e⟩=>⟨a,ha,e⟩) ⟨s a0,a0,ha0,hT0,rfl⟩ fun x y ⟨a,ha,hT,e⟩ hy hp=>?_
  subst e
  rcases yag (∃b,b<m/\T b=true/\y=s b)with z | z
  ·exact z
  exfalso
  refine q ⟨a,ha,hT,?_⟩
  have b1:sm m (fun b=>if T b then f (s a) (s b)else 0)<=sm m (fun b=>(fun x=>if x=y then 0 else f (s a) x) (s b)):=sm_mono fun b hb=>by
   dsimp only
   by_cases hTb:T b=true
   ·rw[if_pos hTb,if_neg fun w=>z ⟨b,hb,hTb,w.symm⟩];exact yK
   ·rw[if_neg hTb]
    split
    ·exact yK
    ·exact h0 _ _ (h1 a ha) (h1 b hb)
  have b2:sm m (fun b=>(fun x=>if x=y then 0 else f (s a) x) (s b))<=sm n (fun x=>if x=y then 0 else f (s a) x):=sm_some m (h:=fun x=>if x=y then 0 else f (s a) x) (fun x hx=>by
   (try dsimp only)
   split
   ·exact yK
   ·exact h0 _ x (h1 a ha) hx) h1 h2
  have b3:=zkm (h:=f (s a)) hy
  grind
end Dt
namespace Internal
open PySem PySem.Spec PyProof.Rows
def zdX(ds:List Due)(l:Nat->Rat)(d:Due):Rat:=((d.a:Int):Rat)*zee (zH ds d.p.toNat) (l d.p.toNat) d.r.toNat
def stp(ds:List Due)(l:Nat->Rat)(i:Nat):Option Nat:=zae (zH ds i) (l i) 3
def flR(ds:List Due)(l:Nat->Rat)(i j:Nat):Rat:=((zap (stp ds l) ds i j:Int):Rat)
def zW(n:Nat)(ds:List Due)(l:Nat->Rat)(i:Nat):Rat:=Dt.sm n (flR ds l i)
theorem zkq{g g':Due->Rat}{m:Nat}(ds:List Due):(∀d∈ds,g d=g' d)->za5 ds g m=za5 ds g' m:=
 zcz (P:=fun ds=>(∀d∈ds,g d=g' d)->za5 ds g m=za5 ds g' m) (fun _=>rfl) (fun es d ih h=>by
  rw[zdr,zdr,ih fun e he=>h e (yC _ he),h d (yq _ (.head _))]) ds
theorem zfw{m r:Nat}(ds:List Due):(∀d∈ds,0<=d.a)->0<=zH ds m r:=
 zcz (P:=fun ds=>(∀d∈ds,0<=d.a)->0<=zH ds m r) (fun _=>yaS 0) (fun es d ih h=>by
  have h1:=ih fun e he=>h e (yC _ he)
  have h2:=h d (yq _ (.head _))
  rw[zcl]
  split<;>omega) ds
set_option genInjectivity false in
set_option genSizeOf false in
structure CInv(n:Nat)(ds:List Due)(p:Nat->Rat)(l:Nat->Rat)(t:Rat):Prop where
 lo:∀i,i<n->0<=l i
 hi:∀i,i<n->l i<=zai (zH ds i) 3
 sh:∀i,i<n->stp ds l i≠none->l i=t*p i+za5 ds (zdX ds l) i
 fu:∀i,i<n->stp ds l i=none->zai (zH ds i) 3<=t*p i+za5 ds (zdX ds l) i
section
variable {n:Nat}{ds:List Due}{p l s:Nat->Rat}{t x e:Rat}
theorem zdU(hd:∀d∈ds,zA n d){i ρ:Nat}(h:stp ds l i=some ρ):zW n ds l i=((zH ds i ρ:Int):Rat):=
 ziJ h ds fun d hm=>⟨(hd d hm).2.2.1,(hd d hm).2.2.2.1,(hd d hm).2.2.2.2.2.1⟩
theorem zfv(hd:∀d∈ds,zA n d){i ρ:Nat}(h0:0<=l i)(h:stp ds l i=some ρ):0<zW n ds l i:=by
 rw[zdU hd h]
 exact zeZ (zc5 h0 h)
theorem zi8{i:Nat}(h:stp ds l i=none):zW n ds l i=0:=Dt.sm_zero fun j _=>by
 unfold flR
 rw[zhj h];rfl
theorem turn(hd:∀d∈ds,zA n d)(I:CInv n ds p l t)(s0:∀i,i<n->0<=s i)(x0:0<=x)(e0:0<=e)(p0:∀i,i<n->0<=p i)
  (hb:∀i,i<n->stp ds l i≠none->zW n ds l i*s i-Dt.sm n (fun j=>flR ds l j i*s j)=e*p i)
  (hr:∀i,i<n->∀ρ,stp ds l i=some ρ->l i+x*(s i*zW n ds l i)<=zai (zH ds i) (ρ+1)) :
  CInv n ds p (fun i=>l i+x*(s i*zW n ds l i)) (t+x*e):=by
 have ha:∀d∈ds,0<=d.a:=fun d hm=>(hd d hm).2.2.2.2.2.2.2.1
 have hf:∀i r,r<3->0<=zH ds i r:=fun i r _=>zfw ds ha
 obtain⟨l',hl'⟩:∃l':Nat->Rat,l'=fun i=>l i+x*(s i*zW n ds l i):=⟨_,rfl⟩
 rw[<- hl']
 have rown:∀i,i<n->0<=zW n ds l i:=fun i hi=>Dt.sm_ge0 fun j _=>by
  unfold flR
  exact zbd (zfx ds ha)
 have grow:∀i,i<n->l i<=l' i:=fun i hi=>by
  rw[hl']
  have h1:=yu x0 (yu (s0 i hi) (rown i hi))
  grind
 have still:∀i,stp ds l i=none->l' i=l i:=fun i h=>by
  rw[hl']
  dsimp only
  rw[zi8 h];grind
 have pays:∀d∈ds,zdX ds l' d=zdX ds l d+if stp ds l d.p.toNat=some d.r.toNat then((d.a:Int):Rat)*(x*s d.p.toNat)else 0:=fun d hm=>by
  obtain⟨p0',p1',_,_,_,r0',r1',_,_⟩:=hd d hm
  have hi:d.p.toNat<n:=by omega
  have hr3:d.r.toNat<3:=by omega
  unfold zdX
  cases hs:stp ds l d.p.toNat with
  | none=>
   rw[still _ hs,if_neg (by intro z;cases z)];grind
  | some ρ=>
   have up:=hr _ hi ρ hs
   have g:=zkv (I.lo _ hi) (hf d.p.toNat) hs (grow _ hi) (by rw[hl'];exact up) hr3
   rw[g]
   have pos:=zfv hd (I.lo _ hi) hs
   rw[zdU hd hs]at pos
   have ed:(l' d.p.toNat-l d.p.toNat)/((zH ds d.p.toNat ρ:Int):Rat)=x*s d.p.toNat:=by
    rw[hl']
    dsimp only
    rw[zdU hd hs]
    generalize ((zH ds d.p.toNat ρ:Int):Rat)=R at *
    have hR:R≠0:=fun z=>by rw[z]at pos;exact absurd pos (by decide)
    have:l d.p.toNat+x*(s d.p.toNat*R)-l d.p.toNat=(x*s d.p.toNat)*R:=by grind
    rw[this,ybJ,Rat.mul_assoc,Rat.mul_inv_cancel R hR,Rat.mul_one]
   rw[ed]
   by_cases er:d.r.toNat=ρ
   ·rw[if_pos er,if_pos (by rw[er])];grind
   ·rw[if_neg er,if_neg (fun z=>er (yp z).symm)];grind
 have gets:∀i,za5 ds (zdX ds l') i=za5 ds (zdX ds l) i+x*Dt.sm n (fun j=>flR ds l j i*s j):=fun i=>by
  rw[zkq ds pays,zm2 (ρ:=stp ds l) (s:=fun j=>x*s j) (n:=n) ds fun d hm=>⟨(hd d hm).1,(hd d hm).2.1⟩]
  congr 1
  rw[<- Dt.sm_mul]
  exact Dt.sm_congr fun j _=>by unfold flR;grind
 have more:∀i,i<n->0<=Dt.sm n (fun j=>flR ds l j i*s j):=fun i _=>Dt.sm_ge0 fun j hj=>yu (by unfold flR;exact zbd (zfx ds ha)) (s0 j hj)
 have key:∀i,i<n->stp ds l i≠none->l' i=(t+x*e)*p i+za5 ds (zdX ds l') i:=fun i hi hs=>by
  rw[gets i]
  have h1:=I.sh i hi hs
  have h2:=hb i hi hs
  rw[hl']
  dsimp only
  grind
 refine⟨fun i hi=>yM (I.lo i hi) (grow i hi),fun i hi=>?_,fun i hi hs'=>?_,fun i hi hs'=>?_⟩
 ·cases hs:stp ds l i with
  | none=>rw[still i hs];exact I.hi i hi
  | some ρ=>
   have h1:=hr i hi ρ hs
   have h2:=zfy (hf i) (show ρ+1<=3 by have:=(zcb hs).1;omega) (ye 3)
   rw[hl']
   exact yM h1 h2
 ·cases hs:stp ds l i with
  | none=>exact absurd (show stp ds l' i=none by unfold stp;rw[still i hs];exact hs) hs'
  | some ρ=>exact key i hi (by rw[hs];intro z;cases z)
 ·cases hs:stp ds l i with
  | none=>
   have h1:=I.fu i hi hs
   rw[gets i]
   have h2:=yu x0 (more i hi)
   have h3:=yu (yu x0 e0) (p0 i hi)
   grind
  | some ρ=>
   rw[<- key i hi (by rw[hs];intro z;cases z)]
   exact zeT hs' 2 (by decide)
end
open Dt (sm Leak bal)
def sF(m:Nat)(s:Nat->Nat)(x:Nat->Rat)(i:Nat):Rat:=sm m (fun a=>if s a=i then x a else 0)
section
variable {n m:Nat}{s:Nat->Nat}{x:Nat->Rat}
theorem zfp(inj:∀a b,a<m->b<m->s a=s b->a=b){a:Nat}(ha:a<m):sF m s x (s a)=x a:=by
 unfold sF
 rw[Dt.sm_one (i:=a) ha fun b hb hne=>if_neg fun e=>hne (inj b a hb ha e),if_pos rfl]
theorem zgt{i:Nat}(h:∀a,a<m->s a≠i):sF m s x i=0:=Dt.sm_zero fun a ha=>if_neg (h a ha)
theorem zla(h1:∀a,a<m->s a<n)(F:Nat->Rat):sm n (fun j=>F j*sF m s x j)=sm m (fun a=>F (s a)*x a):=by
 have e1:sm n (fun j=>F j*sF m s x j)=sm n (fun j=>sm m fun a=>if s a=j then F j*x a else 0):=Dt.sm_congr fun j _=>by
  unfold sF
  rw[<- Dt.sm_mul]
  exact Dt.sm_congr fun a _=>by split<;>grind
 rw[e1,Dt.sm_swap]
 refine Dt.sm_congr fun a ha=>?_
 rw[Dt.sm_one (i:=s a) (h1 a ha) fun j _ hne=>if_neg fun e=>hne e.symm,if_pos rfl]
theorem zoh(h:∀a,a<m->0<=x a)(i:Nat):0<=sF m s x i:=Dt.sm_ge0 fun a ha=>by
 split
 ·exact h a ha
 ·exact yK
end
section
variable {n:Nat}{ds:List Due}{p l:Nat->Rat}
def gB(ds:List Due)(l:Nat->Rat)(i j:Nat):Bool:=decide (0<zap (stp ds l) ds i j)
def shB(ds:List Due)(l:Nat->Rat)(i:Nat):Bool:=(stp ds l i).isSome
theorem gB_iff{i j:Nat}:gB ds l i j=true↔0<flR ds l i j:=by
 unfold gB flR
 rw[decide_eq_true_iff]
 constructor
 ·exact fun h=>zeZ h
 ·exact fun h=>by exact_mod_cast h
theorem zcQ(hd:∀d∈ds,zA n d)(i j:Nat):0<=flR ds l i j:=zbd (zfx ds fun d hm=>(hd d hm).2.2.2.2.2.2.2.1)
theorem zdK(hd:∀d∈ds,zA n d)(i:Nat):flR ds l i i=0:=by
 unfold flR
 rw[znI ds fun d hm=>(hd d hm).2.2.2.2.1];rfl
theorem zd0(hd:∀d∈ds,zA n d)(hc:Rc.circle n (gB ds l) (shB ds l)=[]){m:Nat}{s:Nat->Nat}(h1:∀a,a<m->s a<n/\shB ds l (s a)=true)(inj:∀a b,a<m->b<m->s a=s b->a=b):Leak m (fun a b=>flR ds l (s a) (s b)) (fun a=>zW n ds l (s a)):=
 Dt.leak_of (fun i j _ _=>zcQ hd i j) (fun i _=>zdK hd i) (fun a ha=>(h1 a ha).1) inj fun S hS ⟨x,hx⟩ hcl=>
  Rc.no_circle hc (S:=S) (fun y hy=>by obtain⟨a,ha,e⟩:=hS y hy;rw[e];exact h1 a ha) (fun j k hj hk hg=>hcl j k hj hk (gB_iff.mp hg)) hx
theorem zjL(hd:∀d∈ds,zA n d)(hc:Rc.circle n (gB ds l) (shB ds l)=[]){m:Nat}{s:Nat->Nat}{x:Nat->Rat}(p0:∀i,i<n->0<=p i)(h1:∀a,a<m->s a<n/\shB ds l (s a)=true)(inj:∀a b,a<m->b<m->s a=s b->a=b)(all:∀i,i<n->shB ds l i=true->∃a,a<m/\i=s a)
  (hx:∀a,a<m->sm m (fun b=>bal (fun a b=>flR ds l (s a) (s b)) (fun a=>zW n ds l (s a)) a b*x b)=p (s a)) :
  (∀i,0<=sF m s x i)/\∀i,i<n->stp ds l i≠none->zW n ds l i*sF m s x i-sm n (fun j=>flR ds l j i*sF m s x j)=1*p i:=by
 have L:=zd0 hd hc h1 inj
 have hb:∀a,a<m->zW n ds l (s a)*x a-sm m (fun b=>flR ds l (s b) (s a)*x b)=p (s a):=fun a ha=>by
  have:=Dt.bal_row (n:=m) (f:=fun a b=>flR ds l (s a) (s b)) (r:=fun a=>zW n ds l (s a)) (s:=x) ha (zdK hd _)
  rw[hx a ha]at this
  exact this.symm
 have nn:=L.nonneg (s:=x) fun a ha=>by rw[hb a ha];exact p0 _ (h1 a ha).1
 refine⟨zoh nn,fun i hi hs=>?_⟩
 obtain⟨a,ha,rfl⟩:=all i hi (by unfold shB;cases h:stp ds l i with | none=>exact absurd h hs | some r=>rfl)
 rw[zfp inj ha,zla (fun a ha=>(h1 a ha).1) (fun j=>flR ds l j (s a)),hb a ha];grind
theorem zed(hd:∀d∈ds,zA n d){c:List Nat}(hc:Rc.Cir n (gB ds l) (shB ds l) c){m:Nat}(hm:c.length=m+1):Leak m (fun a b=>flR ds l (c.getD (a+1) 0) (c.getD (b+1) 0)) (fun a=>zW n ds l (c.getD (a+1) 0)):=by
 have get:∀a,a<m+1->c[a]?=some (c.getD a 0):=fun a ha=>by
  rw[yg,yi (by omega)];rfl
 have mem:∀a,a<m+1->c.getD a 0∈c:=fun a ha=>yb (get a ha)
 have inj:∀a b,a<m+1->b<m+1->c.getD a 0=c.getD b 0->a=b:=fun a b ha hb e=>zbQ hc.nd (get a ha) (by rw[e];exact get b hb)
 refine Dt.leak_of (s:=fun a=>c.getD (a+1) 0) (fun i j _ _=>zcQ hd i j) (fun i _=>zdK hd i) (fun a ha=>hc.lt _ (mem _ (by omega))) (fun a b ha hb e=>by have:=inj (a+1) (b+1) (by omega) (by omega) e;omega) fun S hS hne hcl=>?_
 have:=hc.small S (fun y hy=>by obtain⟨a,ha,e⟩:=hS y hy;rw[e];exact mem _ (by omega)) (fun j k hj hk hg=>hcl j k hj hk (gB_iff.mp hg)) hne (c.getD 0 0) (mem 0 (by omega))
 obtain⟨a,ha,e⟩:=hS _ this
 have:=inj 0 (a+1) (by omega) (by omega) e
 omega
end
end Internal
namespace Dt
theorem sm_front{f:Nat->Rat}:∀n:Nat,sm (n+1) f=f 0+sm n (fun i=>f (i+1))
 | 0=>by show(0:Rat)+f 0=f 0+0;grind
 | n+1=>by
  have:=sm_front (f:=f) n
  rw[show sm (n+1+1) f=sm (n+1) f+f (n+1)from rfl,this]
  show f 0+sm n (fun i=>f (i+1))+f (n+1)=f 0+(sm n (fun i=>f (i+1))+f (n+1))
  grind
end Dt
namespace Internal
open PySem PySem.Spec PyProof.Rows
open Dt (sm Leak bal)
def zcH(f:Nat->Nat->Rat)(r:Nat->Rat)(a b:Nat):Rat:=if a=0 then(if b=0 then 1 else 0)else bal f r a b
section
variable {n:Nat}{ds:List Due}{l:Nat->Rat}{c:List Nat}{m:Nat}
abbrev cF(ds:List Due)(l:Nat->Rat)(c:List Nat):Nat->Nat->Rat:=fun a b=>flR ds l (c.getD a 0) (c.getD b 0)
abbrev cR(n:Nat)(ds:List Due)(l:Nat->Rat)(c:List Nat):Nat->Rat:=fun a=>zW n ds l (c.getD a 0)
theorem zfW(x:Nat->Rat){f:Nat->Nat->Rat}{r:Nat->Rat}:sm (m+1) (fun b=>zcH f r 0 b*x b)=x 0:=by
 rw[Dt.sm_one (i:=0) (by omega) fun j _ hj=>by unfold zcH;rw[if_pos rfl,if_neg hj];grind]
 unfold zcH
 rw[if_pos rfl,if_pos rfl];grind
theorem zfT(hd:∀d∈ds,zA n d)(x:Nat->Rat){a:Nat}(ha:a<m):sm (m+1) (fun b=>zcH (cF ds l c) (cR n ds l c) (a+1) b*x b)=cR n ds l c (a+1)*x (a+1)-(cF ds l c 0 (a+1)*x 0+sm m (fun b=>cF ds l c (b+1) (a+1)*x (b+1))):=by
 have e:sm (m+1) (fun b=>zcH (cF ds l c) (cR n ds l c) (a+1) b*x b)=sm (m+1) (fun b=>bal (cF ds l c) (cR n ds l c) (a+1) b*x b):=Dt.sm_congr fun b _=>by
  unfold zcH
  rw[if_neg (by omega)]
 rw[e,Dt.bal_row (f:=cF ds l c) (r:=cR n ds l c) (by omega) (zdK hd _),Dt.sm_front]
theorem zj2(hd:∀d∈ds,zA n d)(hc:Rc.Cir n (gB ds l) (shB ds l) c)(hm:c.length=m+1):Dt.det (m+1) (Dt.cl (zcH (cF ds l c) (cR n ds l c)))≠0:=fun z=>by
 obtain⟨x,⟨k,hk,hx⟩,hn⟩:=Dt.null_of_det z
 have x0:x 0=0:=by rw[<- zfW (m:=m) x];exact hn 0 (by omega)
 have L:=zed hd hc hm
 have hb:∀a,a<m->cR n ds l c (a+1)*x (a+1)-sm m (fun b=>cF ds l c (b+1) (a+1)*x (b+1))=0:=fun a ha=>by
  have:=zfT (n:=n) (l:=l) (c:=c) hd x ha
  rw[hn (a+1) (by omega),x0]at this
  grind
 have p1:=L.nonneg (s:=fun a=>x (a+1)) fun a ha=>by rw[hb a ha];exact yK
 have p2:=L.nonneg (s:=fun a=>-x (a+1)) fun a ha=>by
  have e2:sm m (fun b=>cF ds l c (b+1) (a+1) * -x (b+1))=-sm m (fun b=>cF ds l c (b+1) (a+1)*x (b+1)):=by
   rw[<- Dt.sm_neg]
   exact Dt.sm_congr fun b _=>by grind
  show 0<=cR n ds l c (a+1) * -x (a+1)-sm m (fun b=>cF ds l c (b+1) (a+1) * -x (b+1))
  rw[e2]
  have:=hb a ha
  grind
 cases k with
 | zero=>exact hx x0
 | succ k=>
  have h1:=p1 k (by omega)
  have h2:=p2 k (by omega)
  exact hx (by grind)
theorem zkQ(hd:∀d∈ds,zA n d)(hc:Rc.Cir n (gB ds l) (shB ds l) c)(hm:c.length=m+1){x:Nat->Rat}(hx:∀a,a<m+1->sm (m+1) (fun b=>zcH (cF ds l c) (cR n ds l c) a b*x b)=if a=0 then 1 else 0) :
  (∀i,0<=sF (m+1) (fun a=>c.getD a 0) x i)/\(∀i,i<n->zW n ds l i*sF (m+1) (fun a=>c.getD a 0) x i-sm n (fun j=>flR ds l j i*sF (m+1) (fun a=>c.getD a 0) x j)=0)/\sF (m+1) (fun a=>c.getD a 0) x (c.getD 0 0)=1:=by
 have get:∀a,a<m+1->c[a]?=some (c.getD a 0):=fun a ha=>by
  rw[yg,yi (by omega)];rfl
 have mem:∀a,a<m+1->c.getD a 0∈c:=fun a ha=>yb (get a ha)
 have inj:∀a b,a<m+1->b<m+1->c.getD a 0=c.getD b 0->a=b:=fun a b ha hb e=>zbQ hc.nd (get a ha) (by rw[e];exact get b hb)
 have lt:∀a,a<m+1->c.getD a 0<n:=fun a ha=>hc.lt _ (mem a ha)
 have x0:x 0=1:=by rw[<- zfW (m:=m) x (f:=cF ds l c) (r:=cR n ds l c),hx 0 (by omega),if_pos rfl]
 have L:=zed hd hc hm
 have hS:∀a,a<m->cR n ds l c (a+1)*x (a+1)-(cF ds l c 0 (a+1)*x 0+sm m (fun b=>cF ds l c (b+1) (a+1)*x (b+1)))=0:=fun a ha=>by
  rw[<- zfT (n:=n) hd x ha,hx (a+1) (by omega),if_neg (by omega)]
 have nn1:=L.nonneg (s:=fun a=>x (a+1)) fun a ha=>by
  have h1:=hS a ha
  have h2:=zcQ (l:=l) hd (c.getD 0 0) (c.getD (a+1) 0)
  rw[x0]at h1
  show 0<=cR n ds l c (a+1)*x (a+1)-sm m (fun b=>cF ds l c (b+1) (a+1)*x (b+1))
  have h3:cF ds l c 0 (a+1)=flR ds l (c.getD 0 0) (c.getD (a+1) 0):=rfl
  grind
 have nn:∀a,a<m+1->0<=x a:=fun a ha=>by
  cases a with
  | zero=>rw[x0];decide
  | succ a=>exact nn1 a (by omega)
 have off:∀a y,a<m+1->y<n->y∉c->flR ds l (c.getD a 0) y=0:=fun a y ha hy hn=>by
  rcases yag (0<flR ds l (c.getD a 0) y)with q | q
  ·exact absurd (hc.cl _ y (mem a ha) hy (gB_iff.mpr q)) hn
  ·have:=zcQ (l:=l) hd (c.getD a 0) y
   grind
 have one:∀j,j<n->j∈c->sF (m+1) (fun a=>c.getD a 0) (fun _=>1) j=1:=fun j _ hj=>by
  obtain⟨a,ha,e⟩:=yI hj
  have e2:j=c.getD a 0:=by rw[yg,yi ha,<- e];rfl
  rw[e2,zfp (s:=fun a=>c.getD a 0) inj (by omega)]
 have whole:∀b,b<m+1->cR n ds l c b=sm (m+1) (fun a=>cF ds l c b a):=fun b hb=>by
  have:=zla (n:=n) (m:=m+1) (s:=fun a=>c.getD a 0) (x:=fun _=>1) lt (flR ds l (c.getD b 0))
  have e1:sm n (fun j=>flR ds l (c.getD b 0) j*sF (m+1) (fun a=>c.getD a 0) (fun _=>1) j)=sm n (flR ds l (c.getD b 0)):=Dt.sm_congr fun j hj=>by
   rcases yag (j∈c)with q | q
   ·rw[one j hj q];grind
   ·rw[off b j hb hj q];grind
  rw[e1]at this
  show sm n (flR ds l (c.getD b 0))=_
  rw[this]
  exact Dt.sm_congr fun a _=>by grind
 have tot:sm (m+1) (fun a=>cR n ds l c a*x a-sm (m+1) (fun b=>cF ds l c b a*x b))=0:=by
  have e1:sm (m+1) (fun a=>cR n ds l c a*x a-sm (m+1) (fun b=>cF ds l c b a*x b))=sm (m+1) (fun a=>1*(cR n ds l c a*x a)+(-1)*sm (m+1) (fun b=>cF ds l c b a*x b)):=Dt.sm_congr fun a _=>by grind
  rw[e1,Dt.sm_lin,Dt.sm_swap]
  have e2:sm (m+1) (fun j=>sm (m+1) fun i=>cF ds l c j i*x j)=sm (m+1) (fun a=>cR n ds l c a*x a):=Dt.sm_congr fun j hj=>by
   rw[whole j hj,show sm (m+1) (fun a=>cF ds l c j a)*x j=x j*sm (m+1) (fun a=>cF ds l c j a) by grind,<- Dt.sm_mul]
   exact Dt.sm_congr fun a _=>by grind
  rw[e2];grind
 have hbal:∀a,a<m+1->cR n ds l c a*x a-sm (m+1) (fun b=>cF ds l c b a*x b)=0:=fun a ha=>by
  have rest:∀a,a<m->cR n ds l c (a+1)*x (a+1)-sm (m+1) (fun b=>cF ds l c b (a+1)*x b)=0:=fun a ha=>by
   rw[Dt.sm_front];exact hS a ha
  cases a with
  | succ a=>exact rest a (by omega)
  | zero=>
   rw[Dt.sm_front,Dt.sm_zero (n:=m) rest]at tot
   grind
 refine⟨zoh nn,fun i hi=>?_,by rw[zfp (s:=fun a=>c.getD a 0) inj (by omega)];exact x0⟩
 rw[zla (s:=fun a=>c.getD a 0) lt (fun j=>flR ds l j i)]
 rcases yag (i∈c)with q | q
 ·obtain⟨a,ha,e⟩:=yI q
  have e2:i=c.getD a 0:=by rw[yg,yi ha,<- e];rfl
  rw[e2,zfp (s:=fun a=>c.getD a 0) inj (by omega)]
  exact hbal a (by omega)
 ·have e1:sF (m+1) (fun a=>c.getD a 0) x i=0:=zgt fun a ha e=>q (by rw[<- e];exact mem a ha)
  have e2:sm (m+1) (fun a=>flR ds l (c.getD a 0) i*x a)=0:=Dt.sm_zero fun a ha=>by rw[off a i ha hi q];grind
  rw[e1,e2];grind
end
open PySem PySem.Spec PyProof.Rows
open Dt (sm)
def rkL(ds:List Due)(l:Nat->Rat)(i:Nat):Nat:=(stp ds l i).getD 3
section
variable {ds:List Due}{l l':Nat->Rat}{i:Nat}
end
def nsum(f:Nat->Nat):Nat->Nat
 | 0=>0
 | n+1=>nsum f n+f n
theorem zcm{f g:Nat->Nat}:∀{n:Nat},(∀i,i<n->f i<=g i)->nsum f n<=nsum g n
 | 0,_=>ye _
 | n+1,h=>Nat.add_le_add (zcm fun i hi=>h i (by omega)) (h n (by omega))
theorem zhd{f g:Nat->Nat}{j:Nat}:∀{n:Nat},(∀i,i<n->f i<=g i)->j<n->f j<g j->nsum f n<nsum g n
 | n+1,h,hj,hl=>by
  have h1:=zcm (n:=n) fun i hi=>h i (by omega)
  have h2:=h n (by omega)
  show nsum f n+f n<nsum g n+g n
  rcases yL (yW hj)with g' | g'
  ·have:=zhd (n:=n) (fun i hi=>h i (by omega)) g' hl
   omega
  ·rw[g']at hl;omega
theorem zgG{f:Nat->Nat}{b:Nat}:∀{n:Nat},(∀i,i<n->f i<=b)->nsum f n<=b*n
 | 0,_=>yD _
 | n+1,h=>by
  have h1:=zgG (n:=n) fun i hi=>h i (by omega)
  have h2:=h n (by omega)
  show nsum f n+f n<=b*(n+1)
  rw[Nat.mul_succ];omega
def zij(ds:List Due)(l:Nat->Rat)(i:Nat):Nat:=nsum (fun r=>if 0<zH ds i r/\zai (zH ds i) (r+1)<=l i then 1 else 0) 3
theorem zfJ{ds:List Due}{l l':Nat->Rat}{i:Nat}(h:l i<=l' i):zij ds l i<=zij ds l' i:=zcm fun r _=>by
 by_cases g:0<zH ds i r/\zai (zH ds i) (r+1)<=l i
 ·rw[if_pos g,if_pos ⟨g.1,yM g.2 h⟩];exact ye _
 ·rw[if_neg g];exact yD _
theorem zpO{ds:List Due}{l l':Nat->Rat}{i ρ:Nat}(h0:0<=l i)(h:l i<=l' i)(hs:stp ds l i=some ρ)(hf:zai (zH ds i) (ρ+1)<=l' i):zij ds l i<zij ds l' i:=by
 obtain⟨h3,up,_⟩:=zcb hs
 refine zhd (j:=ρ) (fun r _=>?_) h3 ?_
 ·by_cases g:0<zH ds i r/\zai (zH ds i) (r+1)<=l i
  ·rw[if_pos g,if_pos ⟨g.1,yM g.2 h⟩];exact ye _
  ·rw[if_neg g];exact yD _
 ·rw[if_neg fun z=>absurd z.2 (Rat.not_le.mpr up),if_pos ⟨zc5 h0 hs,hf⟩];decide
def ze2(n:Nat)(ds:List Due)(l:Nat->Rat):Nat:=nsum (zij ds l) n
def zfP(ds:List Due)(i:Nat):Nat:=nsum (fun r=>if 0<zH ds i r then 1 else 0) 3
def zcw(n:Nat)(ds:List Due):Nat:=nsum (zfP ds) n
theorem zqt{n:Nat}{ds:List Due}{l:Nat->Rat}:ze2 n ds l<=zcw n ds:=zcm fun i _=>zcm fun r _=>by
 by_cases g:0<zH ds i r/\zai (zH ds i) (r+1)<=l i
 ·rw[if_pos g,if_pos g.1];exact ye _
 ·rw[if_neg g];exact yD _
theorem zfR{f g:Nat->Nat}:∀{n:Nat},nsum (fun i=>f i+g i) n=nsum f n+nsum g n
 | 0=>rfl
 | n+1=>by show nsum (fun i=>f i+g i) n+(f n+g n)=nsum f n+f n+(nsum g n+g n);rw[zfR (n:=n)];omega
theorem zdv:∀{n:Nat} {f:Nat->Nat},(∀i,i<n->f i=0)->nsum f n=0
 | 0,_,_=>rfl
 | n+1,f,h=>by show nsum f n+f n=0;rw[zdv (n:=n) fun i hi=>h i (by omega),h n (by omega)]
theorem zf2{f:Nat->Nat}{j:Nat}:∀{n:Nat},(∀i,i<n->i≠j->f i=0)->nsum f n<=f j
 | 0,_=>yD _
 | n+1,h=>by
  show nsum f n+f n<=f j
  by_cases e:n=j
  ·rw[zdv fun i hi=>h i (by omega) (by omega),e];omega
  ·rw[h n (by omega) e]
   exact zf2 (n:=n) fun i hi=>h i (by omega)
theorem zqc{n:Nat}(ds:List Due):(∀d∈ds,0<=d.a)->zcw n ds<=ds.length:=
 zcz (P:=fun ds=>(∀d∈ds,0<=d.a)->zcw n ds<=ds.length) (fun _=>by
  show nsum (zfP []) n<=0
  have z:nsum (zfP []) n=0:=zdv fun i _=>by
   unfold zfP
   exact zdv fun r _=>if_neg (by show ¬(0:Int)<0;omega)
  rw[z];exact ye _) (fun es d ih h=>by
  have h1:=ih fun e he=>h e (yC _ he)
  have h2:=h d (yq _ (.head _))
  rw[ya,y9]
  have e:zcw n (es++[d])<=nsum (fun i=>zfP es i+nsum (fun r=>if d.p=(i:Int)/\d.r=(r:Int)then 1 else 0) 3) n:=zcm fun i _=>by
   unfold zfP
   rw[<- zfR]
   refine zcm fun r _=>?_
   rw[zcl]
   have h3:=zfw (m:=i) (r:=r) es fun e he=>h e (yC _ he)
   by_cases c:d.p=(i:Int)/\d.r=(r:Int)
   ·rw[if_pos c,if_pos c];split<;>split<;>omega
   ·rw[if_neg c,if_neg c];exact ye _
  rw[zfR]at e
  have e2:nsum (fun i=>nsum (fun r=>if d.p=(i:Int)/\d.r=(r:Int)then 1 else 0) 3) n<=1:=by
   refine yh (zf2 (j:=d.p.toNat) fun i _ hi=>zdv fun r _=>if_neg fun z=>hi (by omega)) ?_
   refine yh (zf2 (j:=d.r.toNat) fun r _ hr=>if_neg fun z=>hr (by omega)) ?_
   split<;>omega
  have e3:nsum (zfP es) n=zcw n es:=rfl
  omega) ds
def zbu(ds:List Due)(l:Nat->Rat)(i:Nat):Rat:=zai (zH ds i) (rkL ds l i+1)
def zaf(ds:List Due)(l r:Nat->Rat)(i:Nat):Rat:=(zbu ds l i-l i)/r i
def zad(ds:List Due)(l r:Nat->Rat):Nat->Option Rat
 | 0=>none
 | k+1=>if 0<r k then(match zad ds l r k with | none=>some (zaf ds l r k) | some q=>some (if zaf ds l r k<q then zaf ds l r k else q))else zad ds l r k
section
variable {ds:List Due}{l r:Nat->Rat}
theorem zcO:∀{k:Nat},zad ds l r k=none->∀i,i<k->¬0<r i
 | 0,_,i,h=>absurd h (yaA _)
 | k+1,h,i,hi=>by
  have h':(if 0<r k then(match zad ds l r k with | none=>some (zaf ds l r k) | some q=>some (if zaf ds l r k<q then zaf ds l r k else q))else zad ds l r k)=none:=h
  by_cases g:0<r k
  ·rw[if_pos g]at h'
   split at h'<;>cases h'
  ·rw[if_neg g]at h'
   rcases yL (yW hi)with e | e
   ·exact zcO h' i e
   ·rw[e];exact g
theorem zbR:∀{k:Nat} {x:Rat},zad ds l r k=some x->(∃i,i<k/\0<r i/\x=zaf ds l r i)/\∀i,i<k->0<r i->x<=zaf ds l r i
 | 0,_,h=>by cases h
 | k+1,x,h=>by
  have h':(if 0<r k then(match zad ds l r k with | none=>some (zaf ds l r k) | some q=>some (if zaf ds l r k<q then zaf ds l r k else q))else zad ds l r k)=some x:=h
  by_cases g:0<r k
  ·rw[if_pos g]at h'
   cases e:zad ds l r k with
   | none=>
    rw[e]at h'
    cases h'
    refine⟨⟨k,by omega,g,rfl⟩,fun i hi hr=>?_⟩
    rcases yL (yW hi)with q | q
    ·exact absurd hr (zcO e i q)
    ·rw[q];exact yK
   | some q=>
    rw[e]at h'
    dsimp only at h'
    obtain⟨⟨j,hj,hjr,hjx⟩,hmin⟩:=zbR (k:=k) e
    by_cases c:zaf ds l r k<q
    ·rw[if_pos c]at h'
     cases h'
     refine⟨⟨k,by omega,g,rfl⟩,fun i hi hr=>?_⟩
     rcases yL (yW hi)with w | w
     ·have:=hmin i w hr;grind
     ·rw[w];exact yK
    ·rw[if_neg c]at h'
     cases h'
     refine⟨⟨j,by omega,hjr,hjx⟩,fun i hi hr=>?_⟩
     rcases yL (yW hi)with w | w
     ·exact hmin i w hr
     ·rw[w];exact Rat.not_lt.mp c
  ·rw[if_neg g]at h'
   obtain⟨⟨j,hj,hjr,hjx⟩,hmin⟩:=zbR (k:=k) h'
   refine⟨⟨j,by omega,hjr,hjx⟩,fun i hi hr=>?_⟩
   rcases yL (yW hi)with w | w
   ·exact hmin i w hr
   ·rw[w]at hr;exact absurd hr g
end
theorem zdy{a b:Rat}(h:0<b):a/b*b=a:=by
 have hb:b≠0:=fun z=>by rw[z]at h;exact absurd h (by decide)
 exact ybt hb
theorem zeY{ds:List Due}{l:Nat->Rat}{i ρ:Nat}(hs:stp ds l i=some ρ):zbu ds l i=zai (zH ds i) (ρ+1):=by
 unfold zbu rkL
 rw[hs];rfl
section
variable {n:Nat}{ds:List Due}{l s:Nat->Rat}{x:Rat}
abbrev rtR(n:Nat)(ds:List Due)(l s:Nat->Rat)(i:Nat):Rat:=s i*zW n ds l i
theorem zeo(hd:∀d∈ds,zA n d){i:Nat}(h:0<rtR n ds l s i):∃ρ,stp ds l i=some ρ:=by
 cases hs:stp ds l i with
 | some ρ=>exact⟨ρ,rfl⟩
 | none=>
  unfold rtR at h
  rw[zi8 hs]at h
  exact absurd h (by rw[show s i*(0:Rat)=0 by grind];decide)
theorem znJ(hd:∀d∈ds,zA n d){i:Nat}(h:0<rtR n ds l s i):0<zaf ds l (rtR n ds l s) i:=by
 obtain⟨ρ,hs⟩:=zeo hd h
 have up:=(zcb hs).2.1
 unfold zaf
 rw[zeY hs,ybJ]
 exact ybp (by grind) (Rat.inv_pos.mpr h)
theorem zpb(hd:∀d∈ds,zA n d)(s0:∀i,i<n->0<=s i)(x0:0<=x)(hx:∀i,i<n->0<rtR n ds l s i->x<=zaf ds l (rtR n ds l s) i){i:Nat}(hi:i<n){ρ:Nat}(hs:stp ds l i=some ρ):l i+x*(s i*zW n ds l i)<=zai (zH ds i) (ρ+1):=by
 have up:=(zcb hs).2.1
 by_cases h:0<rtR n ds l s i
 ·have h1:=hx i hi h
  have h2:=yH h1 (Rat.le_of_lt h)
  unfold zaf at h2
  rw[zdy h,zeY hs]at h2
  unfold rtR at h2
  grind
 ·have h1:=zdU hd hs
  have h2:0<=zW n ds l i:=by
   rw[h1]
   exact zbd (zfw ds fun d hm=>(hd d hm).2.2.2.2.2.2.2.1)
  have h3:=yu (s0 i hi) h2
  have h4:s i*zW n ds l i=0:=by unfold rtR at h;grind
  rw[h4];grind
theorem zlJ(hd:∀d∈ds,zA n d){i:Nat}(h:0<rtR n ds l s i)(hx:x=zaf ds l (rtR n ds l s) i){ρ:Nat}(hs:stp ds l i=some ρ):zai (zH ds i) (ρ+1)<=l i+x*(s i*zW n ds l i):=by
 have h2:x*rtR n ds l s i=zbu ds l i-l i:=by
  rw[hx];unfold zaf
  exact zdy h
 rw[zeY hs]at h2
 unfold rtR at h2
 grind
end
end Internal
namespace Dt
theorem Leak.uniq{n:Nat}{f:Nat->Nat->Rat}{r d:Nat->Rat}(h:Leak n f r)(e:∀i,i<n->r i*d i-sm n (fun j=>f j i*d j)=0):∀i,i<n->d i=0:=fun m hm=>by
 have p1:=h.nonneg (s:=d) (fun i hi=>by rw[e i hi];exact yK) m hm
 have p2:=h.nonneg (s:=fun j=>-d j) (fun i hi=>by
  have e2:sm n (fun j=>f j i * -d j)=-sm n (fun j=>f j i*d j):=by
   rw[<- sm_neg]
   exact sm_congr fun j _=>by grind
  show 0<=r i * -d i-sm n (fun j=>f j i * -d j)
  rw[e2]
  have:=e i hi
  grind) m hm
 grind
theorem sm_sub{f g:Nat->Rat}(n:Nat):sm n (fun i=>f i-g i)=sm n f-sm n g:=by
 have e:sm n (fun i=>f i-g i)=sm n (fun i=>1*f i+(-1)*g i):=sm_congr fun i _=>by grind
 rw[e,sm_lin];grind
end Dt
namespace Internal
open PySem PySem.Spec PyProof.Rows
open Dt (sm Leak bal)
def slL(n:Nat)(ds:List Due)(l:Nat->Rat):List Nat:=(List.range n).filter (shB ds l)
abbrev crL(n:Nat)(ds:List Due)(l:Nat->Rat):List Nat:=Rc.circle n (gB ds l) (shB ds l)
def zcP(n:Nat)(ds:List Due)(l:Nat->Rat)(c:List Nat)(x:Nat->Rat):Prop:=∀a,a<c.length->sm c.length (fun b=>zcH (cF ds l c) (cR n ds l c) a b*x b)=if a=0 then 1 else 0
def zdi(n:Nat)(ds:List Due)(p l:Nat->Rat)(c:List Nat)(x:Nat->Rat):Prop:=∀a,a<c.length->sm c.length (fun b=>bal (cF ds l c) (cR n ds l c) a b*x b)=p (c.getD a 0)
def zjy(n:Nat)(ds:List Due)(l:Nat->Rat)(c:List Nat):Nat->Rat:=Classical.epsilon (zcP n ds l c)
def zgK(n:Nat)(ds:List Due)(p l:Nat->Rat)(c:List Nat):Nat->Rat:=Classical.epsilon (zdi n ds p l c)
section
variable {n:Nat}{ds:List Due}{p l:Nat->Rat}{t:Rat}
theorem sl_mem{i:Nat}:i∈slL n ds l↔i<n/\shB ds l i=true:=by
 unfold slL
 rw[yam,yN]
theorem zdR:(slL n ds l).Nodup:=ybD.filter _
theorem zaF{c:List Nat}{a:Nat}(ha:a<c.length):c.getD a 0∈c:=by
 rw[yg,yi ha]
 exact ybE ha
theorem za4{c:List Nat}(nd:c.Nodup)(a b:Nat)(ha:a<c.length)(hb:b<c.length)(e:c.getD a 0=c.getD b 0):a=b:=by
 have g:∀a,a<c.length->c[a]?=some (c.getD a 0):=fun a ha=>by rw[yg,yi ha];rfl
 exact zbQ nd (g a ha) (by rw[e];exact g b hb)
theorem znq{c:List Nat}{x:Nat}(h:x∈c):∃a,a<c.length/\x=c.getD a 0:=by
 obtain⟨a,ha,e⟩:=yI h
 exact⟨a,ha,by rw[yg,yi ha,<- e];rfl⟩
theorem znx(hd:∀d∈ds,zA n d)(hc:crL n ds l=[]){x y:Nat->Rat}(hx:zdi n ds p l (slL n ds l) x)(hy:zdi n ds p l (slL n ds l) y):∀a,a<(slL n ds l).length->x a=y a:=fun a ha=>by
 have L:=zd0 hd hc (m:=(slL n ds l).length) (s:=fun a=>(slL n ds l).getD a 0) (fun a ha=>sl_mem.mp (zaF ha)) (za4 zdR)
 have:=L.uniq (d:=fun a=>x a-y a) (fun i hi=>by
  have h1:=hx i hi
  have h2:=hy i hi
  rw[Dt.bal_row (f:=cF ds l (slL n ds l)) (r:=cR n ds l (slL n ds l)) hi (zdK hd _)]at h1 h2
  have e:sm (slL n ds l).length (fun j=>cF ds l (slL n ds l) j i*(x j-y j))=sm (slL n ds l).length (fun j=>cF ds l (slL n ds l) j i*x j)-sm (slL n ds l).length (fun j=>cF ds l (slL n ds l) j i*y j):=by
   rw[<- Dt.sm_sub]
   exact Dt.sm_congr fun j _=>by grind
  show cR n ds l (slL n ds l) i*(x i-y i)-sm (slL n ds l).length (fun j=>cF ds l (slL n ds l) j i*(x j-y j))=0
  rw[e];grind) a ha
 grind
theorem znA(hd:∀d∈ds,zA n d){c:List Nat}(hc:Rc.Cir n (gB ds l) (shB ds l) c){x y:Nat->Rat}(hx:zcP n ds l c x)(hy:zcP n ds l c y):∀a,a<c.length->x a=y a:=fun a ha=>by
 obtain⟨m,hm⟩:∃m,c.length=m+1:=⟨c.length-1,by omega⟩
 unfold zcP at hx hy
 rw[hm]at hx hy ha
 have L:=zed hd hc hm
 have x0:x 0=y 0:=by
  have h1:=hx 0 (by omega)
  have h2:=hy 0 (by omega)
  rw[zfW]at h1 h2
  rw[h1,h2]
 have:=L.uniq (d:=fun a=>x (a+1)-y (a+1)) (fun i hi=>by
  have h1:=hx (i+1) (by omega)
  have h2:=hy (i+1) (by omega)
  rw[zfT hd _ hi,if_neg (by omega)]at h1 h2
  have e:sm m (fun j=>cF ds l c (j+1) (i+1)*(x (j+1)-y (j+1)))=sm m (fun j=>cF ds l c (j+1) (i+1)*x (j+1))-sm m (fun j=>cF ds l c (j+1) (i+1)*y (j+1)):=by
   rw[<- Dt.sm_sub]
   exact Dt.sm_congr fun j _=>by grind
  show cR n ds l c (i+1)*(x (i+1)-y (i+1))-sm m (fun j=>cF ds l c (j+1) (i+1)*(x (j+1)-y (j+1)))=0
  rw[e,x0]at *
  grind)
 cases a with
 | zero=>exact x0
 | succ a=>
  have h:=this a (by omega)
  grind
end
def shF(n:Nat)(ds:List Due)(p l:Nat->Rat):Nat->Rat:=
 if crL n ds l=[]then sF (slL n ds l).length (fun a=>(slL n ds l).getD a 0) (zgK n ds p l (slL n ds l))else sF (crL n ds l).length (fun a=>(crL n ds l).getD a 0) (zjy n ds l (crL n ds l))
def rtF(n:Nat)(ds:List Due)(p l:Nat->Rat):Nat->Rat:=rtR n ds l (shF n ds p l)
def stF(n:Nat)(ds:List Due)(p l:Nat->Rat)(t:Rat):Rat:=
 if crL n ds l=[] then(match zad ds l (rtF n ds p l) n with | none=>1-t | some q=>if 1-t<q then 1-t else q) else(zad ds l (rtF n ds p l) n).getD 0
def nxL(n:Nat)(ds:List Due)(p l:Nat->Rat)(t:Rat):Nat->Rat:=fun i=>l i+stF n ds p l t*rtF n ds p l i
def nxT(n:Nat)(ds:List Due)(p l:Nat->Rat)(t:Rat):Rat:=if crL n ds l=[]then t+stF n ds p l t else t
def Ans(n:Nat)(ds:List Due)(p l:Nat->Rat):Prop:=if crL n ds l=[]then ∃x,zdi n ds p l (slL n ds l) x else ∃x,zcP n ds l (crL n ds l) x
section
variable {n:Nat}{ds:List Due}{p l:Nat->Rat}{t:Rat}
theorem zi2(hd:∀d∈ds,zA n d)(p0:∀i,i<n->0<=p i)(ha:Ans n ds p l):(∀i,0<=shF n ds p l i)/\(∀i,i<n->stp ds l i≠none->zW n ds l i*shF n ds p l i-sm n (fun j=>flR ds l j i*shF n ds p l j)=(if crL n ds l=[]then 1 else 0)*p i)/\(crL n ds l≠[]->∃i,i<n/\stp ds l i≠none/\0<shF n ds p l i):=by
 unfold shF
 unfold Ans at ha
 by_cases hc:crL n ds l=[]
 ·rw[if_pos hc]at ha
  rw[if_pos hc,if_pos hc]
  have hx:zdi n ds p l (slL n ds l) (zgK n ds p l (slL n ds l)):=yaq ha
  obtain⟨a1,a2⟩:=zjL (x:=zgK n ds p l (slL n ds l)) hd hc p0 (m:=(slL n ds l).length) (s:=fun a=>(slL n ds l).getD a 0) (fun a ha=>sl_mem.mp (zaF ha)) (za4 zdR) (fun i hi hs=>znq (sl_mem.mpr ⟨hi,hs⟩)) hx
  exact⟨a1,a2,fun z=>absurd hc z⟩
 ·rw[if_neg hc]at ha
  rw[if_neg hc,if_neg hc]
  have hC:=Rc.circle_ok hc
  obtain⟨m,hm⟩:∃m,(crL n ds l).length=m+1:=⟨(crL n ds l).length-1,by
   have:(crL n ds l).length≠0:=fun z=>hc (yX z)
   omega⟩
  have hx:zcP n ds l (crL n ds l) (zjy n ds l (crL n ds l)):=yaq ha
  unfold zcP at hx
  rw[hm]at hx
  obtain⟨a1,a2,a3⟩:=zkQ hd hC hm hx
  rw[hm]
  refine⟨a1,fun i hi _=>by rw[a2 i hi];grind,fun _=>⟨(crL n ds l).getD 0 0,?_,?_,?_⟩⟩
  ·exact hC.lt _ (zaF (show 0<(crL n ds l).length by rw[hm];omega))
  ·have:=hC.sh _ (zaF (show 0<(crL n ds l).length by rw[hm];omega))
   intro z
   have z':shB ds l ((crL n ds l).getD 0 0)=false:=by unfold shB;rw[show stp ds l ((crL n ds l).getD 0 0)=none from z];rfl
   exact absurd (this.symm.trans z') (by decide)
  ·rw[a3];decide
theorem zpa(hd:∀d∈ds,zA n d)(p0:∀i,i<n->0<=p i)(I:CInv n ds p l t)(t0:0<=t)(t1:t<=1)(ha:Ans n ds p l)(nf:¬(crL n ds l=[]/\t=1)) :
  CInv n ds p (nxL n ds p l t) (nxT n ds p l t)/\0<=nxT n ds p l t/\nxT n ds p l t<=1/\t<=nxT n ds p l t/\(∀i,i<n->l i<=nxL n ds p l t i)/\0<=stF n ds p l t /\
  (ze2 n ds l<ze2 n ds (nxL n ds p l t)\/(ze2 n ds l<=ze2 n ds (nxL n ds p l t)/\t<1/\nxT n ds p l t=1)):=by
 obtain⟨s0,hb,hpos⟩:=zi2 hd p0 ha
 obtain⟨s,hs⟩:∃s,s=shF n ds p l:=⟨_,rfl⟩
 have ern:rtF n ds p l=rtR n ds l s:=by unfold rtF;rw[hs]
 rw[<- hs]at s0 hb hpos
 -- the step
 have key:∀(x e:Rat),0<=x->(∀i,i<n->0<rtR n ds l s i->x<=zaf ds l (rtR n ds l s) i)->(e=if crL n ds l=[]then 1 else 0)->CInv n ds p (fun i=>l i+x*rtR n ds l s i) (t+x*e):=fun x e x0 hx he=>by
  refine turn hd I (fun i _=>s0 i) x0 (by rw[he];split<;>decide) p0 (fun i hi hst=>by rw[he];exact hb i hi hst) (fun i hi ρ hst=>zpb hd (fun i _=>s0 i) x0 hx hi hst)
 have rn:∀i,0<=rtR n ds l s i:=fun i=>yu (s0 i) (Dt.sm_ge0 fun j _=>zcQ hd i j)
 have grow:∀(x:Rat),0<=x->∀i,l i<=l i+x*rtR n ds l s i:=fun x x0 i=>by
  have:=yu x0 (rn i)
  grind
 have fill:∀(x:Rat),0<=x->(∃i,i<n/\0<rtR n ds l s i/\x=zaf ds l (rtR n ds l s) i)->ze2 n ds l<ze2 n ds (fun i=>l i+x*rtR n ds l s i):=fun x x0 ⟨i,hi,hr,hx⟩=>by
  obtain⟨ρ,hst⟩:=zeo hd hr
  exact zhd (fun j hj=>zfJ (grow x x0 j)) hi (zpO (I.lo i hi) (grow x x0 i) hst (zlJ hd hr hx hst))
 have posx:∀{x:Rat},(∃i,i<n/\0<rtR n ds l s i/\x=zaf ds l (rtR n ds l s) i)->0<x:=fun {x} ⟨i,hi,hr,hx⟩=>by rw[hx];exact znJ hd hr
 have eL:nxL n ds p l t=fun i=>l i+stF n ds p l t*rtR n ds l s i:=by unfold nxL;rw[ern]
 by_cases hc:crL n ds l=[]
 ·have tl:t<1:=by
   rcases yag (t=1)with z | z
   ·exact absurd ⟨hc,z⟩ nf
   ·grind
  have eT:nxT n ds p l t=t+stF n ds p l t:=if_pos hc
  have eS:stF n ds p l t=match zad ds l (rtR n ds l s) n with | none=>1-t | some q=>if 1-t<q then 1-t else q:=by unfold stF;rw[if_pos hc,ern]
  cases hq:zad ds l (rtR n ds l s) n with
  | none=>
   rw[hq]at eS
   dsimp only at eS
   have x0:0<=stF n ds p l t:=by rw[eS];grind
   have K:=key (stF n ds p l t) 1 x0 (fun i hi hr=>absurd hr (zcO hq i hi)) (by rw[if_pos hc])
   rw[eL,eT]
   refine⟨by rw[show stF n ds p l t*1=stF n ds p l t by grind]at K;exact K,by grind,by grind,by grind,fun i _=>grow _ x0 i,x0,.inr ⟨zcm fun j _=>zfJ (grow _ x0 j),tl,by rw[eS];grind⟩⟩
  | some q=>
   rw[hq]at eS
   dsimp only at eS
   obtain⟨hex,hmin⟩:=zbR hq
   have q0:=posx hex
   by_cases c:1-t<q
   ·rw[if_pos c]at eS
    have x0:0<=stF n ds p l t:=by rw[eS];grind
    have K:=key (stF n ds p l t) 1 x0 (fun i hi hr=>by have:=hmin i hi hr;rw[eS];grind) (by rw[if_pos hc])
    rw[eL,eT]
    refine⟨by rw[show stF n ds p l t*1=stF n ds p l t by grind]at K;exact K,by grind,by grind,by grind,fun i _=>grow _ x0 i,x0,.inr ⟨zcm fun j _=>zfJ (grow _ x0 j),tl,by rw[eS];grind⟩⟩
   ·rw[if_neg c]at eS
    have x0:0<=stF n ds p l t:=by rw[eS];grind
    have K:=key (stF n ds p l t) 1 x0 (fun i hi hr=>by rw[eS];exact hmin i hi hr) (by rw[if_pos hc])
    rw[eL,eT]
    refine⟨by rw[show stF n ds p l t*1=stF n ds p l t by grind]at K;exact K,by grind,by grind,by grind,fun i _=>grow _ x0 i,x0,.inl (fill _ x0 (by rw[eS];exact hex))⟩
 ·have eT:nxT n ds p l t=t:=if_neg hc
  have eS:stF n ds p l t=(zad ds l (rtR n ds l s) n).getD 0:=by unfold stF;rw[if_neg hc,ern]
  obtain⟨i,hi,hst,hsi⟩:=hpos hc
  have hr:0<rtR n ds l s i:=by
   cases h:stp ds l i with
   | none=>exact absurd h hst
   | some ρ=>exact ybp hsi (zfv hd (I.lo i hi) h)
  cases hq:zad ds l (rtR n ds l s) n with
  | none=>exact absurd hr (zcO hq i hi)
  | some q=>
   rw[hq]at eS
   have eS':stF n ds p l t=q:=eS
   obtain⟨hex,hmin⟩:=zbR hq
   have q0:=posx hex
   have x0:0<=stF n ds p l t:=by rw[eS'];grind
   have K:=key (stF n ds p l t) 0 x0 (fun i hi hr=>by rw[eS'];exact hmin i hi hr) (by rw[if_neg hc])
   rw[eL,eT]
   refine⟨by rw[show t+stF n ds p l t*0=t by grind]at K;exact K,t0,t1,yK,fun i _=>grow _ x0 i,x0,.inl (fill _ x0 (by rw[eS'];exact hex))⟩
end
end Internal
namespace Dt
def Wh(q:Rat):Prop:=∃k:Int,q=(k:Rat)
theorem Wh.add{a b:Rat}(h:Wh a)(g:Wh b):Wh (a+b):=by
 obtain⟨k,rfl⟩:=h
 obtain⟨j,rfl⟩:=g
 exact⟨k+j,by rw[yav]⟩
theorem Wh.mul{a b:Rat}(h:Wh a)(g:Wh b):Wh (a*b):=by
 obtain⟨k,rfl⟩:=h
 obtain⟨j,rfl⟩:=g
 exact⟨k*j,by rw[yP]⟩
theorem Wh.neg{a:Rat}(h:Wh a):Wh (-a):=by
 obtain⟨k,rfl⟩:=h
 exact⟨-k,by rw[yaB]⟩
theorem Wh.sub{a b:Rat}(h:Wh a)(g:Wh b):Wh (a-b):=by
 rw[show a-b=a + -b by grind]
 exact h.add g.neg
theorem Wh.zero:Wh 0:=⟨0,rfl⟩
theorem Wh.one:Wh 1:=⟨1,rfl⟩
theorem Wh.sums{f:Nat->Rat}:∀{n:Nat},(∀i,i<n->Wh (f i))->Wh (sm n f)
 | 0,_=>Wh.zero
 | n+1,h=>Wh.add (Wh.sums fun i hi=>h i (by omega)) (h n (by omega))
theorem Wh.sgn:∀k:Nat,Wh (Dt.sgn k)
 | 0=>Wh.one
 | k+1=>(Wh.sgn k).neg
theorem Wh.det:∀{n:Nat} {c:Nat->Nat->Rat},(∀j r,j<n->r<n->Wh (c j r))->Wh (Dt.det n c)
 | 0,_,_=>Wh.one
 | n+1,c,h=>by
  unfold Dt.det
  refine Wh.sums fun i hi=>?_
  refine((Wh.sgn (n+i)).mul (h n i (by omega) hi)).mul (Wh.det fun j r hj hr=>?_)
  rw[zeh]
  exact h j _ (by omega) (by unfold up;split<;>omega)
theorem cram{n i:Nat}{A:Nat->Nat->Rat}{x b:Nat->Rat}(h:∀a,a<n->sm n (fun m=>A a m*x m)=b a)(hi:i<n):x i*det n (cl A)=det n (setc (cl A) i b):=by
 rw[<- zgs (c:=cl A) (a:=x) hi]
 refine det_congr fun j r hj hr=>?_
 unfold setc
 by_cases e:j=i
 ·rw[if_pos e,if_pos e,<- h r hr]
  exact sm_congr fun m _=>by show x m*A r m=A r m*x m;grind
 ·rw[if_neg e,if_neg e]
theorem zgu{B C:Nat->Rat}:∀{n:Nat},(∀j,j<n->0<=B j/\B j<=C j)->prodN B n<=prodN C n
 | 0,_=>yK
 | n+1,h=>by
  have h1:=zgu (n:=n) fun j hj=>h j (by omega)
  have h2:=h n (by omega)
  have h3:0<=prodN B n:=prodN_nn fun j hj=>(h j (by omega)).1
  show prodN B n*B n<=prodN C n*C n
  have a1:=yJ h2.2 h3
  have a2:=yH h1 (yM h2.1 h2.2)
  exact yM a1 a2
theorem zhi{W P:Rat}(hW:1<=W)(hP:1<=P){i:Nat}:∀{n:Nat},prodN (fun j=>if j=i then P else W) n<=prodN (fun _=>W) n*P
 | 0=>by show(1:Rat)<=1*P;grind
 | n+1=>by
  have w0:0<=prodN (fun _=>W) n:=prodN_nn fun _ _=>by grind
  show prodN (fun j=>if j=i then P else W) n*(if n=i then P else W)<=prodN (fun _=>W) n*W*P
  by_cases e:n=i
  ·rw[if_pos e]
   have h1:prodN (fun j=>if j=i then P else W) n<=prodN (fun _=>W) n:=zgu fun j hj=>by rw[if_neg (by omega)];grind
   have h2:=yH h1 (show 0<=P by grind)
   have h3:=yJ hW (yu w0 (show 0<=P by grind))
   grind
  ·rw[if_neg e]
   have h1:=yH (zhi hW hP (i:=i) (n:=n)) (show 0<=W by grind)
   grind
theorem sys_size{n:Nat}{A bb:Nat->Nat->Rat}{x b pb:Nat->Rat}{W P:Rat}(h:∀a,a<n->sm n (fun m=>A a m*x m)=b a)(wA:∀a m,a<n->m<n->Wh (A a m))(wb:∀a,a<n->Wh (b a))(hb:∀a m,a<n->m<n->Bd (bb m a) (A a m))(hs:∀m,m<n->sm n (bb m)<=W)(hpb:∀a,a<n->Bd (pb a) (b a))(hps:sm n pb<=P)(hW:1<=W)(hP:1<=P) :
  Wh (det n (cl A))/\Bd (prodN (fun _=>W) n*P) (det n (cl A))/\∀i,i<n->Wh (x i*det n (cl A))/\Bd (prodN (fun _=>W) n*P) (x i*det n (cl A)):=by
 have w0:0<=prodN (fun _=>W) n:=prodN_nn fun _ _=>by grind
 refine⟨Wh.det fun j r hj hr=>wA r j hr hj,?_,fun i hi=>?_⟩
 ·have:=Bd.det_col (B:=fun _=>W) (n:=n) (c:=cl A) (b:=bb) (fun j r hj hr=>hb r j hr hj) hs
  refine this.wide ?_
  have:=yJ hP w0
  grind
 ·rw[cram h hi]
  refine⟨Wh.det fun j r hj hr=>?_,?_⟩
  ·unfold setc
   split
   ·exact wb r hr
   ·exact wA r j hr hj
  ·have:=Bd.det_col (B:=fun j=>if j=i then P else W) (n:=n) (c:=setc (cl A) i b) (b:=fun j=>if j=i then pb else bb j) (fun j r hj hr=>by
    unfold setc
    by_cases e:j=i
    ·rw[if_pos e,if_pos e];exact hpb r hr
    ·rw[if_neg e,if_neg e];exact hb r j hr hj) (fun j hj=>by
    by_cases e:j=i
    ·rw[if_pos e,if_pos e];exact hps
    ·rw[if_neg e,if_neg e];exact hs j hj)
   exact this.wide (zhi hW hP)
end Dt
namespace Internal
open PySem PySem.Spec PyProof.Rows
open Dt (sm Leak bal Wh Bd prodN)
section
variable {n:Nat}{ds:List Due}{p l:Nat->Rat}{t W P:Rat}
theorem zk0(i j:Nat):Wh (flR ds l i j):=⟨_,rfl⟩
theorem zfh(i:Nat):Wh (zW n ds l i):=Wh.sums fun j _=>zk0 i j
theorem zkd(hd:∀d∈ds,zA n d)(i:Nat):0<=zW n ds l i:=Dt.sm_ge0 fun j _=>zcQ hd i j
set_option genInjectivity false in
set_option genSizeOf false in
structure ShW(n:Nat)(ds:List Due)(p l:Nat->Rat)(M:Rat)(Δ:Rat):Prop where
 w:Wh Δ
 ne:Δ≠0
 bd:Bd M Δ
 ws:∀i,i<n->Wh (shF n ds p l i*Δ)
 bs:∀i,i<n->Bd M (shF n ds p l i*Δ)
theorem zh5{m:Nat}{s:Nat->Nat}{x:Nat->Rat}{Δ M:Rat}(M0:0<=M)(inj:∀a b,a<m->b<m->s a=s b->a=b)(h:∀a,a<m->Wh (x a*Δ)/\Bd M (x a*Δ))(i:Nat):Wh (sF m s x i*Δ)/\Bd M (sF m s x i*Δ):=by
 rcases yag (∃a,a<m/\s a=i) with⟨a,ha,e⟩ | z
 ·rw[<- e,zfp inj ha];exact h a ha
 ·rw[zgt fun a ha e=>z ⟨a,ha,e⟩,show(0:Rat)*Δ=0 by grind]
  exact⟨Wh.zero,by constructor<;>grind⟩
theorem ziD(hd:∀d∈ds,zA n d){c:List Nat}(nd:c.Nodup)(lt:∀x∈c,x<n)(hW:∀i,i<n->2*zW n ds l i<=W){m:Nat}(hm:m<c.length):sm c.length (fun a=>if a=m then cR n ds l c a else cF ds l c m a)<=W:=by
 have l1:c.getD m 0<n:=lt _ (zaF hm)
 have h1:sm c.length (fun a=>cF ds l c m a)<=zW n ds l (c.getD m 0):=Dt.sm_some (n:=n) (s:=fun a=>c.getD a 0) c.length (h:=flR ds l (c.getD m 0)) (fun x _=>zcQ hd _ x) (fun a ha=>lt _ (zaF ha)) (za4 nd)
 have e:sm c.length (fun a=>if a=m then cR n ds l c a else cF ds l c m a)<=sm c.length (fun a=>(if a=m then cR n ds l c m else 0)+cF ds l c m a):=Dt.sm_mono fun a ha=>by
  by_cases g:a=m
  ·rw[if_pos g,if_pos g,g]
   have:cF ds l c m m=0:=zdK hd _
   rw[this];grind
  ·rw[if_neg g,if_neg g];grind
 rw[Dt.sm_add,Dt.sm_one (i:=m) hm fun j _ hj=>if_neg hj,if_pos rfl]at e
 have:=hW _ l1
 have h2:cR n ds l c m=zW n ds l (c.getD m 0):=rfl
 grind
theorem zmd(hd:∀d∈ds,zA n d){c:List Nat}(a m:Nat):Bd (if a=m then cR n ds l c a else cF ds l c m a) (bal (cF ds l c) (cR n ds l c) a m):=by
 unfold bal
 have h1:=zkd (n:=n) (l:=l) hd (c.getD a 0)
 have h2:=zcQ (n:=n) (l:=l) hd (c.getD m 0) (c.getD a 0)
 by_cases g:a=m
 ·rw[if_pos g,if_pos g]
  show Bd (zW n ds l (c.getD a 0)) (zW n ds l (c.getD a 0))
  constructor<;>grind
 ·rw[if_neg g,if_neg g]
  show Bd (flR ds l (c.getD m 0) (c.getD a 0)) (-flR ds l (c.getD m 0) (c.getD a 0))
  constructor<;>grind
theorem zex{k:Nat}(hW:1<=W):∀{n:Nat},k<=n->prodN (fun _=>W) k<=prodN (fun _=>W) n
 | 0,h=>by rw[show k=0 by omega];exact yK
 | n+1,h=>by
  have w0:∀j,0<=prodN (fun _=>W) j:=fun j=>Dt.prodN_nn fun _ _=>by grind
  rcases yL h with g | g
  ·have h1:=zex hW (k:=k) (n:=n) (by omega)
   have h2:=yJ hW (w0 n)
   show prodN (fun _=>W) k<=prodN (fun _=>W) n*W
   grind
  ·rw[g];exact yK
theorem zlO(hd:∀d∈ds,zA n d)(p0:∀i,i<n->0<=p i)(pw:∀i,i<n->Wh (p i))(lo:∀i,i<n->0<=l i)(ha:Ans n ds p l)(hW:∀i,i<n->2*zW n ds l i<=W)(W1:1<=W)(hP:sm n p<=P)(P1:1<=P):∃Δ,ShW n ds p l (prodN (fun _=>W) n*P) Δ:=by
 have w0:∀j,0<=prodN (fun _=>W) j:=fun j=>Dt.prodN_nn fun _ _=>by grind
 have M0:0<=prodN (fun _=>W) n*P:=yu (w0 n) (by grind)
 have up:∀{k:Nat},k<=n->prodN (fun _=>W) k*P<=prodN (fun _=>W) n*P:=fun hk=>yH (zex W1 hk) (by grind)
 by_cases hc:crL n ds l=[]
 ·obtain⟨c,hce⟩:∃c,c=slL n ds l:=⟨_,rfl⟩
  have nd:c.Nodup:=by rw[hce];exact zdR
  have lt:∀x∈c,x<n:=fun x hx=>by rw[hce]at hx;exact(sl_mem.mp hx).1
  have hx:zdi n ds p l c (zgK n ds p l c):=by
   unfold Ans at ha
   rw[if_pos hc]at ha
   rw[hce]
   exact yaq ha
  have L:=zd0 hd hc (m:=c.length) (s:=fun a=>c.getD a 0) (fun a ha=>by rw[hce]at ha ⊢;exact sl_mem.mp (zaF ha)) (za4 nd)
  have hn:c.length<=n:=Rc.len_le nd lt
  obtain⟨a1,a2,a3⟩:=Dt.sys_size (n:=c.length) (A:=bal (cF ds l c) (cR n ds l c)) (bb:=fun m a=>if a=m then cR n ds l c a else cF ds l c m a) (x:=zgK n ds p l c) (b:=fun a=>p (c.getD a 0)) (pb:=fun a=>p (c.getD a 0)) (W:=W) (P:=P) hx (fun a m _ _=>by
   unfold bal
   split
   ·exact zfh _
   ·exact(zk0 _ _).neg) (fun a ha=>pw _ (lt _ (zaF ha))) (fun a m _ _=>zmd hd a m) (fun m hm=>ziD hd nd lt hW hm) (fun a ha=>by have:=p0 _ (lt _ (zaF ha));constructor<;>grind) (yM (Dt.sm_some (n:=n) (s:=fun a=>c.getD a 0) c.length (h:=p) p0 (fun a ha=>lt _ (zaF ha)) (za4 nd)) hP) W1 P1
  refine⟨Dt.det c.length (Dt.cl (bal (cF ds l c) (cR n ds l c))),a1,L.det,a2.wide (up hn),fun i hi=>?_,fun i hi=>?_⟩
  ·have:=zh5 (i:=i) (yu (w0 c.length) (show 0<=P by grind)) (s:=fun a=>c.getD a 0) (za4 nd) a3
   unfold shF
   rw[if_pos hc,<- hce]
   exact this.1
  ·have:=zh5 (i:=i) (yu (w0 c.length) (show 0<=P by grind)) (s:=fun a=>c.getD a 0) (za4 nd) a3
   unfold shF
   rw[if_pos hc,<- hce]
   exact this.2.wide (up hn)
 ·obtain⟨c,hce⟩:∃c,c=crL n ds l:=⟨_,rfl⟩
  have hC:Rc.Cir n (gB ds l) (shB ds l) c:=by rw[hce];exact Rc.circle_ok hc
  have nd:=hC.nd
  have lt:=hC.lt
  obtain⟨m,hm⟩:∃m,c.length=m+1:=⟨c.length-1,by
   have:c.length≠0:=fun z=>hC.ne (yX z)
   omega⟩
  have hx:zcP n ds l c (zjy n ds l c):=by
   unfold Ans at ha
   rw[if_neg hc]at ha
   rw[hce]
   exact yaq ha
  have hdt:=zj2 hd hC hm
  rw[<- hm]at hdt
  have hn:c.length<=n:=Rc.len_le nd lt
  have r1:∀a,a<c.length->1<=cR n ds l c a:=fun a ha=>by
   have hs:=hC.sh _ (zaF ha)
   cases h:stp ds l (c.getD a 0) with
   | none=>unfold shB at hs;rw[h]at hs;cases hs
   | some ρ=>
    have hp:=zc5 (lo _ (lt _ (zaF ha))) h
    show 1<=zW n ds l (c.getD a 0)
    rw[zdU hd h]
    exact_mod_cast hp
  obtain⟨a1,a2,a3⟩:=Dt.sys_size (n:=c.length) (A:=zcH (cF ds l c) (cR n ds l c)) (bb:=fun m a=>if a=0 then(if m=0 then 1 else 0)else if a=m then cR n ds l c a else cF ds l c m a) (x:=zjy n ds l c) (b:=fun a=>if a=0 then 1 else 0) (pb:=fun a=>if a=0 then 1 else 0) (W:=W) (P:=P) hx (fun a m _ _=>by
   unfold zcH
   split
   ·split
    ·exact Wh.one
    ·exact Wh.zero
   ·unfold bal
    split
    ·exact zfh _
    ·exact(zk0 _ _).neg) (fun a _=>by
   split
   ·exact Wh.one
   ·exact Wh.zero) (fun a m _ _=>by
   unfold zcH
   by_cases g:a=0
   ·rw[if_pos g,if_pos g]
    split<;>(constructor<;>grind)
   ·rw[if_neg g,if_neg g];exact zmd hd a m) (fun k hk=>by
   have base:=ziD (W:=W) hd nd lt hW hk
   refine yM (Dt.sm_mono fun a ha=>?_) base
   by_cases g:a=0
   ·rw[if_pos g]
    by_cases g2:k=0
    ·rw[if_pos g2,if_pos (by omega)];exact r1 a ha
    ·rw[if_neg g2,if_neg (by omega)];exact zcQ hd _ _
   ·rw[if_neg g];exact yK) (fun a _=>by split<;>(constructor<;>grind)) (by
   rw[Dt.sm_one (i:=0) (by omega) fun j _ hj=>if_neg hj,if_pos rfl];exact P1) W1 P1
  refine⟨Dt.det c.length (Dt.cl (zcH (cF ds l c) (cR n ds l c))),a1,hdt,a2.wide (up hn),fun i hi=>?_,fun i hi=>?_⟩
  ·have:=zh5 (i:=i) (yu (w0 c.length) (show 0<=P by grind)) (s:=fun a=>c.getD a 0) (za4 nd) a3
   unfold shF
   rw[if_neg hc,<- hce]
   exact this.1
  ·have:=zh5 (i:=i) (yu (w0 c.length) (show 0<=P by grind)) (s:=fun a=>c.getD a 0) (za4 nd) a3
   unfold shF
   rw[if_neg hc,<- hce]
   exact this.2.wide (up hn)
end
open PySem PySem.Spec PyProof.Rows
open Dt (sm Leak bal Wh Bd prodN)
theorem dv_wh{D:Nat}{x:Rat}:Dv D x↔Wh (x*((D:Int):Rat)):=Iff.rfl
theorem zgD{D:Nat}{x:Rat}{k:Int}(h:Wh (x*((D:Int):Rat)*((k:Int):Rat))):Dv (D*k.natAbs) x:=by
 refine dv_wh.mpr ?_
 have e:(((D*k.natAbs:Nat):Int):Rat)=((D:Int):Rat)*((k.natAbs:Int):Rat):=by
  rw[<- yP];congr 1
 rw[e]
 rcases Int.natAbs_eq k with z | z
 ·rw[<- z]
  rw[show x*(((D:Int):Rat)*((k:Int):Rat))=x*((D:Int):Rat)*((k:Int):Rat) by grind];exact h
 ·have z':((k.natAbs:Int):Rat)=-((k:Int):Rat):=by rw[<- yaB];congr 1;omega
  rw[z',show x*(((D:Int):Rat) * -((k:Int):Rat))=-(x*((D:Int):Rat)*((k:Int):Rat)) by grind];exact h.neg
theorem zmi{k:Int}{M:Rat}(h:Bd M ((k:Int):Rat)):((k.natAbs:Int):Rat)<=M:=by
 rcases Int.natAbs_eq k with z | z
 ·rw[<- z];exact h.2
 ·have z':((k.natAbs:Int):Rat)=-((k:Int):Rat):=by rw[<- yaB];congr 1;omega
  have:=h.1
  rw[z'];grind
section
variable {n:Nat}{ds:List Due}{p l:Nat->Rat}{t W M Δ:Rat}{D:Nat}
theorem zoY(hd:∀d∈ds,zA n d)(p0:∀i,i<n->0<=p i)(lo:∀i,i<n->0<=l i)(ha:Ans n ds p l)(nf:¬(crL n ds l=[]/\t=1))(S:ShW n ds p l M Δ)(M0:0<=M)(hW:∀i,i<n->2*zW n ds l i<=W)(W1:1<=W)(hl:∀i,i<n->Dv D (l i))(ht:Dv D t) :
  ∃F:Nat,0<F/\((F:Int):Rat)<=M*W/\(∀i,i<n->Dv (D*F) (nxL n ds p l t i))/\Dv (D*F) (nxT n ds p l t):=by
 obtain⟨s0,hb,hpos⟩:=zi2 hd p0 ha
 obtain⟨kΔ,eΔ⟩:=S.w
 have kne:kΔ≠0:=fun z=>S.ne (by rw[eΔ,z];rfl)
 have MW:M<=M*W:=by have:=yJ W1 M0;grind
 have ern:rtF n ds p l=rtR n ds l (shF n ds p l):=rfl
 have endW:∀i,Wh (zbu ds l i):=fun i=>⟨_,rfl⟩
 have dW:Wh ((D:Int):Rat):=⟨_,rfl⟩
 -- to the end
 have shut:stF n ds p l t=1-t->crL n ds l=[]->∃F:Nat,0<F/\((F:Int):Rat)<=M*W/\(∀i,i<n->Dv (D*F) (nxL n ds p l t i))/\Dv (D*F) (nxT n ds p l t):=fun e hc=>by
  refine⟨kΔ.natAbs,Int.natAbs_pos.mpr kne,yM (zmi (by rw[<- eΔ];exact S.bd)) MW,fun i hi=>zgD ?_,zgD ?_⟩
  ·rw[<- eΔ]
   unfold nxL
   rw[e,ern]
   have h1:Wh (l i*((D:Int):Rat)):=hl i hi
   have h2:Wh (t*((D:Int):Rat)):=ht
   have h3:=S.ws i hi
   rw[show(l i+(1-t)*rtR n ds l (shF n ds p l) i)*((D:Int):Rat)*Δ=l i*((D:Int):Rat)*Δ+(((D:Int):Rat)-t*((D:Int):Rat))*((shF n ds p l i*Δ)*zW n ds l i) by unfold rtR;grind]
   exact(h1.mul S.w).add ((dW.sub h2).mul (h3.mul (zfh i)))
  ·unfold nxT
   rw[if_pos hc,e,show t+(1-t)=1 by grind,<- eΔ]
   exact(Wh.one.mul dW).mul S.w
 -- a rank filled
 have fill:∀(q:Rat),(∃i,i<n/\0<rtR n ds l (shF n ds p l) i/\q=zaf ds l (rtR n ds l (shF n ds p l)) i)->stF n ds p l t=q->∃F:Nat,0<F/\((F:Int):Rat)<=M*W/\(∀i,i<n->Dv (D*F) (nxL n ds p l t i))/\Dv (D*F) (nxT n ds p l t):=fun q ⟨m,hm,hr,hq⟩ e=>by
  obtain⟨a,ea⟩:=S.ws m hm
  obtain⟨b,eb⟩:=zfh (n:=n) (ds:=ds) (l:=l) m
  have ek:(((a*b:Int):Int):Rat)=shF n ds p l m*Δ*zW n ds l m:=by rw[yP,<- ea,<- eb]
  have hx:q*rtR n ds l (shF n ds p l) m=zbu ds l m-l m:=by
   rw[hq];unfold zaf
   exact zdy hr
  have kn:(a*b:Int)≠0:=fun z=>by
   have:shF n ds p l m*Δ*zW n ds l m=0:=by rw[<- ek,z];rfl
   have h2:rtR n ds l (shF n ds p l) m*Δ=0:=by unfold rtR;grind
   rcases Rat.mul_eq_zero.mp h2 with g | g
   ·rw[g]at hr;exact absurd hr (by decide)
   ·exact S.ne g
  have hxk:q*(((a*b:Int):Int):Rat)=(zbu ds l m-l m)*Δ:=by
   rw[ek,<- hx];unfold rtR;grind
  have hW2:Bd W (zW n ds l m):=by
   have h1:=zkd (n:=n) (l:=l) hd m
   have h2:=hW m hm
   constructor<;>grind
  have hlm:Wh (l m*((D:Int):Rat)):=hl m hm
  refine⟨(a*b).natAbs,Int.natAbs_pos.mpr kn,zmi (by rw[ek];exact(S.bs m hm).mul hW2),fun i hi=>zgD ?_,zgD ?_⟩
  ·unfold nxL
   rw[e,ern]
   have h1:Wh (l i*((D:Int):Rat)):=hl i hi
   have h3:=S.ws i hi
   rw[show(l i+q*rtR n ds l (shF n ds p l) i)*((D:Int):Rat)*(((a*b:Int):Int):Rat)=l i*((D:Int):Rat)*(((a*b:Int):Int):Rat)+(q*(((a*b:Int):Int):Rat))*(shF n ds p l i*zW n ds l i)*((D:Int):Rat) by unfold rtR;grind,hxk,
    show(zbu ds l m-l m)*Δ*(shF n ds p l i*zW n ds l i)*((D:Int):Rat)=(zbu ds l m*((D:Int):Rat)-l m*((D:Int):Rat))*((shF n ds p l i*Δ)*zW n ds l i) by grind]
   exact(h1.mul ⟨_,rfl⟩).add ((((endW m).mul dW).sub hlm).mul (h3.mul (zfh i)))
  ·have h2:Wh (t*((D:Int):Rat)):=ht
   unfold nxT
   by_cases hc:crL n ds l=[]
   ·rw[if_pos hc,e,show(t+q)*((D:Int):Rat)*(((a*b:Int):Int):Rat)=t*((D:Int):Rat)*(((a*b:Int):Int):Rat)+(q*(((a*b:Int):Int):Rat))*((D:Int):Rat) by grind,hxk,
     show(zbu ds l m-l m)*Δ*((D:Int):Rat)=(zbu ds l m*((D:Int):Rat)-l m*((D:Int):Rat))*Δ by grind]
    exact(h2.mul ⟨_,rfl⟩).add ((((endW m).mul dW).sub hlm).mul S.w)
   ·rw[if_neg hc]
    exact h2.mul ⟨_,rfl⟩
 by_cases hc:crL n ds l=[]
 ·have eS:stF n ds p l t=match zad ds l (rtR n ds l (shF n ds p l)) n with | none=>1-t | some q=>if 1-t<q then 1-t else q:=by unfold stF;rw[if_pos hc];rfl
  cases hq:zad ds l (rtR n ds l (shF n ds p l)) n with
  | none=>rw[hq]at eS;exact shut eS hc
  | some q=>
   rw[hq]at eS
   dsimp only at eS
   by_cases c:1-t<q
   ·rw[if_pos c]at eS;exact shut eS hc
   ·rw[if_neg c]at eS;exact fill q (zbR hq).1 eS
 ·have eS:stF n ds p l t=(zad ds l (rtR n ds l (shF n ds p l)) n).getD 0:=by unfold stF;rw[if_neg hc];rfl
  obtain⟨i,hi,hst,hsi⟩:=hpos hc
  have hr:0<rtR n ds l (shF n ds p l) i:=by
   cases h:stp ds l i with
   | none=>exact absurd h hst
   | some ρ=>exact ybp hsi (zfv hd (lo i hi) h)
  cases hq:zad ds l (rtR n ds l (shF n ds p l)) n with
  | none=>exact absurd hr (zcO hq i hi)
  | some q=>
   rw[hq]at eS
   exact fill q (zbR hq).1 eS
end
open PySem PySem.Spec PyProof.Rows
open Dt (sm Leak bal Wh Bd prodN)
def cst(n:Nat)(ds:List Due)(p:Nat->Rat):Nat->(Nat->Rat) × Rat
 | 0=>(fun _=>0,0)
 | k+1=>(nxL n ds p (cst n ds p k).1 (cst n ds p k).2,nxT n ds p (cst n ds p k).1 (cst n ds p k).2)
def zc8(n:Nat)(ds:List Due)(l:Nat->Rat)(t:Rat):Prop:=crL n ds l=[]/\t=1
section
variable {n:Nat}{ds:List Due}{p l:Nat->Rat}{t W P:Rat}
theorem zmZ{m:Nat}(ds:List Due):za5 ds (fun _=>0) m=0:=
 zcz (P:=fun ds=>za5 ds (fun _=>0) m=0) rfl (fun es d ih=>by
  rw[zdr,ih];split<;>grind) ds
theorem cinv0(hd:∀d∈ds,zA n d):CInv n ds p (fun _=>0) 0:=by
 have ha:∀d∈ds,0<=d.a:=fun d hm=>(hd d hm).2.2.2.2.2.2.2.1
 have hf:∀i r,r<3->0<=zH ds i r:=fun i r _=>zfw ds ha
 have c0:∀i r,r<=3->0<=zai (zH ds i) r:=fun i r hr=>zfy (hf i) (yD r) hr
 have pay0:∀d∈ds,zdX ds (fun _=>0) d=0:=fun d hm=>by
  obtain⟨_,_,_,_,_,r0,r1,_,_⟩:=hd d hm
  have hr:d.r.toNat<3:=by omega
  have hl:zdk (zH ds d.p.toNat) 0 d.r.toNat=0:=by
   rw[zg6 yK (hf _) hr,if_pos (c0 _ _ (by omega))]
  unfold zdX zee
  rw[hl]
  split<;>grind
 have g0:∀i,za5 ds (zdX ds (fun _=>0)) i=0:=fun i=>by rw[zkq ds pay0];exact zmZ ds
 refine⟨fun _ _=>yK,fun i _=>c0 i 3 (ye _),fun i _ _=>by rw[g0];grind,fun i _ hs=>?_⟩
 have:=zeT (f:=zH ds i) (q:=0) hs 2 (by decide)
 rw[g0]
 have h2:zai (zH ds i) 3<=0:=this
 grind
set_option genInjectivity false in
set_option genSizeOf false in
structure COk(n:Nat)(ds:List Due)(p:Nat->Rat)(B:Rat)(k:Nat)(l:Nat->Rat)(t:Rat):Prop where
 inv:CInv n ds p l t
 t0:0<=t
 t1:t<=1
 kk:k<=ze2 n ds l+(if t=1 then 1 else 0)
 dv:∃D:Nat,0<D/\((D:Int):Rat)<=prodN (fun _=>B) k/\(∀i,i<n->Dv D (l i))/\Dv D t
theorem cok0(hd:∀d∈ds,zA n d)(B:Rat):COk n ds p B 0 (fun _=>0) 0:=
 ⟨cinv0 hd,yK,by decide,yD _,1,by decide,by show((1:Int):Rat)<=1;decide,fun _ _=>⟨0,by show(0:Rat)*_=((0:Int):Rat);rw[show((0:Int):Rat)=0 from rfl];grind⟩,⟨0,by show(0:Rat)*_=((0:Int):Rat);rw[show((0:Int):Rat)=0 from rfl];grind⟩⟩
theorem COk.le{B:Rat}{k:Nat}(h:COk n ds p B k l t):k<=zcw n ds+1:=by
 have h1:=h.kk
 have h2:=zqt (n:=n) (ds:=ds) (l:=l)
 split at h1<;>omega
theorem COk.step{k:Nat}(hd:∀d∈ds,zA n d)(p0:∀i,i<n->0<=p i)(pw:∀i,i<n->Wh (p i))(hP:sm n p<=P)(P1:1<=P)(hW:∀i,i<n->2*zW n ds l i<=W)(W1:1<=W)(h:COk n ds p (prodN (fun _=>W) n*P*W) k l t)(ha:Ans n ds p l)(nf:¬zc8 n ds l t):COk n ds p (prodN (fun _=>W) n*P*W) (k+1) (nxL n ds p l t) (nxT n ds p l t):=by
 have w0:∀j,0<=prodN (fun _=>W) j:=fun j=>Dt.prodN_nn fun _ _=>by grind
 have M0:0<=prodN (fun _=>W) n*P:=yu (w0 n) (by grind)
 have B0:0<=prodN (fun _=>W) n*P*W:=yu M0 (by grind)
 obtain⟨s1,s2,s3,s4,s5,s6,s7⟩:=zpa hd p0 h.inv h.t0 h.t1 ha nf
 obtain⟨Δ,S⟩:=zlO hd p0 pw h.inv.lo ha hW W1 hP P1
 obtain⟨D,D0,D1,D2,D3⟩:=h.dv
 obtain⟨F,F0,F1,F2,F3⟩:=zoY hd p0 h.inv.lo ha nf S M0 hW W1 D2 D3
 refine⟨s1,s2,s3,?_,D*F,Nat.mul_pos D0 F0,?_,F2,F3⟩
 ·have hk:=h.kk
  rcases s7 with g | ⟨g,tl,e⟩
  ·have:(if t=1 then 1 else 0)<=(if nxT n ds p l t=1 then 1 else 0):=by
    by_cases z:t=1
    ·rw[if_pos z,if_pos (by rw[z]at s4;grind)];exact ye _
    ·rw[if_neg z];exact yD _
   omega
  ·have z:¬t=1:=fun z=>by rw[z]at tl;exact absurd tl (by decide)
   rw[if_neg z]at hk
   rw[if_pos e]
   omega
 ·have e:(((D*F:Nat):Int):Rat)=((D:Int):Rat)*((F:Int):Rat):=by
   rw[<- yP];congr 1
  rw[e]
  show _<=prodN (fun _=>prodN (fun _=>W) n*P*W) k*(prodN (fun _=>W) n*P*W)
  have a1:=yH D1 (show(0:Rat)<=((F:Int):Rat)from zbd (by omega))
  have a2:=yJ F1 (Dt.prodN_nn (B:=fun _=>prodN (fun _=>W) n*P*W) (n:=k) fun _ _=>B0)
  exact yM a1 a2
end
end Internal
set_option maxHeartbeats 4000000
namespace Internal.BT
open PySem
theorem all:bootBuiltins "all" = some (.builtin "all"):=by decide +kernel
end Internal.BT
namespace Internal
open PySem PySem.Spec PyProof.Rows
section
variable {X:Cx}
def zh6(K:Fg):List V->Hp->VK->Prop:=fun vs H Q=>∃(a:Addr) (bs:List Bool),vs=[.ref a]/\SqL K H a (bs.map V.bl)/\Q (.bl (bs.all id)) H
theorem zjk:∀{bs:List Bool} {its:List Value},Vals (bs.map V.bl) its->its=bs.map Value.bool
 | [],_,r=>by cases r;rfl
 | b :: bs,_,r=>by
  cases r with
  | cons h t=>rw[zjk t,show _=Value.bool b from h];rfl
theorem zmj(hc:X.calm=true):CallR X (.builtin "all") (zh6 X.K):=by
 intro pins s σ H xs us Q I r h
 obtain⟨a,bs,rfl,hq,q⟩:=h
 obtain⟨u,rfl,r1⟩:=vals1 r
 cases r1
 obtain⟨its,rv,pl,hl,hlt⟩:=I.walk hq
 have eb:=zjk rv
 subst eb
 refine call_all_walk (wpAny_pyIter_list pl ?_)
 refine⟨s.heap.objs.size,[s.heap.objs.size,a],[s.heap.objs.size],(bs.map Value.bool).toArray.size,_,_,fun i=>(bs[i]?).getD true,rfl,Walks.list (A:=X.A.in1) (I.ok.hd hc) _ a (yr hlt) (bs.map Value.bool).toArray,
  ⟨⟨_,Heap.get?_push_size _ rfl,rfl,rfl⟩,pl.push _⟩,fun i v s' Q' E' hP hQ=>?_,fun h' tk hk=>?_⟩
 ·have hv:(bs.map Value.bool)[i]?=some v:=by simpa using hP
  rw[yf]at hv
  cases e:bs[i]? with
  | none=>rw[e]at hv;cases hv
  | some b=>
   dsimp only at hQ
   rw[e]at hv hQ
   cases hv
   exact wpAny_truthy_bool hQ
 ·have e:((List.range (bs.map Value.bool).toArray.size).all fun i=>(bs[i]?).getD true)=bs.all id:=by
   rw[yn,yc];exact LSm.range_all bs
  rw[e]
  have I1:Inv X pins σ H { s with heap:=h',toks:=tk }:=I.kept fun b o z=>hk b o (fun hm=>by rw[yv.mp hm]at z;exact yQ _ (Heap.lt_size z)) (Heap.get?_push_of_some _ z)
  exact⟨.bl _,H,I1,rfl,q⟩
end
theorem zqu{K:Fg}{H:Hp}{Q:VK}{a:Addr}{bs:List Bool}(h:H a=some (.lst (bs.map V.bl)))(q:Q (.bl (bs.all id)) H):zh6 K [.ref a] H Q:=⟨a,bs,rfl,.of h,q⟩
open PySem PySem.W PySem.Spec PySem.Calls PyProof.Rows
section
variable {prog:Program}{w:World}{A:Around}{E:Value->Shared->Prop}{s:Shared}{l I S:Addr}{kid:String}{vs:List Value}{kw:List (Str × Value)}{R:Result->Shared->Prop}{Q:Value->Shared->Prop}
def zej(I S:Addr)(h0 h:Heap):Prop:=∀b o,b≠I->b≠S->h0.get? b=some o->h.get? b=some o
theorem zoV(kf:Nat->Int)(hh:A.handled=none)(hl:s.heap.IsList l vs.toArray)(hlI:l≠I)(hSI:S≠I)(hlS:l≠S)
  (turn:∀(i:Nat) (v:Value),vs[i]?=some v->∀(h:Heap) (tk:Nat),zej I S s.heap h ->
   wpAny (model prog w) A.in1 (call (.builtin kid) [v]) (fun x s''=>∃tk' t,x=.int (kf i) t/\s''={ s with heap:=h,toks:=tk' }) (fun _ _=>False) { s with heap:=h,toks:=tk })
  (hR:∀i v h' tk',vs[i]?=some v->(∀j,j<vs.length->kf i<=kf j/\(j<i->kf i<kf j))->zej I S s.heap h'->R (.ok (.ret v)) { s with heap:=h',toks:=tk' }) :
  ∀(r j i:Nat) (h:Heap) (tk:Nat) (vb:Value) (tb:Tok) (c:Nat),vs.length-(j+1)=r->j+1<=vs.length->zej I S s.heap h ->
   h.get? S=some (seqObj "list" #[vb,.int (kf i) tb] c)->h.IsListIter I l (j+1)->vs[i]?=some vb->i<=j->(∀j',j'<=j->kf i<=kf j'/\(j'<i->kf i<kf j')) ->
   codeAny (model prog w) A (.builtin "min.loop" ⟨[.ref I,.builtin kid,.ref S],kw⟩) R { s with heap:=h,toks:=tk }:=by
 have hname:(toString "min" ++ toString ".loop" : String) = "min.loop" := by decide
 have W:=Walks.list (prog:=prog) (w:=w) (A:=A.in1) hh I l hlI vs.toArray
 have hsz:vs.toArray.size=vs.length:=yn ..
 have hlk:∀h,zej I S s.heap h->h.IsList l vs.toArray:=fun h k=>by
  obtain⟨o,e,r⟩:=hl
  exact⟨o,k l o hlI hlS e,r⟩
 intro r
 induction r with
 | zero=>
  intro j i h tk vb tb c hr hj K nS hit hvb hij hbest
  have hin:j+1=vs.length:=by omega
  refine codeAny_builtin ybf ?_
  rw[Around.under_plainId yah _]
  show wpAny _ A.in1 (seqItems? (.ref S) >>= _) _ _ _
  refine wpAny_bind (wpAny_seqItems nS rfl ?_)
  show wpAny _ A.in1 (tryCatch (pyNext (.ref I)) _ >>= _) _ _ _
  refine wpAny_bind (wpAny_tryCatch (W.done _ _ _ ⟨by rw[hsz,<- hin];exact hit,hlk h K⟩ fun h' tk' hk'=>?_))
  have hS':=hk' S _ (by simpa using hSI) nS
  have s1:=Heap.SameBut.update h' S (Obj.mapSeq fun _=>(#[]:Array Value))
  show wpAny _ A.in1 (updateSeq S (fun _=>#[]) >>= _) _ _ _
  refine wpAny_bind ?_
  refine wpAny_updateSeq hS' rfl (wpAny_bind (wpAny_letGo (wpAny_pure ?_)))
  exact hR i vb _ _ hvb (fun j' hj'=>hbest j' (by omega)) fun b o n1 n2 e=>(s1.2 b n2).trans (hk' b o (by simpa using n1) (K b o n1 n2 e))
 | succ r ih=>
  intro j i h tk vb tb c hr hj K nS hit hvb hij hbest
  have hlt:j+1<vs.length:=by omega
  refine codeAny_builtin ybf ?_
  rw[Around.under_plainId yah _]
  show wpAny _ A.in1 (seqItems? (.ref S) >>= _) _ _ _
  refine wpAny_bind (wpAny_seqItems nS rfl ?_)
  show wpAny _ A.in1 (tryCatch (pyNext (.ref I)) _ >>= _) _ _ _
  refine wpAny_bind (wpAny_tryCatch (W.item (j+1) _ _ _ (by rw[hsz];exact hlt) ⟨hit,hlk h K⟩ fun v h' tk' hP hst' hk'=>?_))
  have hv:vs[j+1]?=some v:=by simpa using hP
  obtain⟨oI',hoI',hoc,hod⟩:=id hst'.1
  have K1:zej I S s.heap h':=fun b o n1 n2 e=>hk' b o (by simpa using n1) (K b o n1 n2 e)
  have nS1:=hk' S _ (by simpa using hSI) nS
  show wpAny _ A.in1 (tryCatch (holding [v] (call (.builtin kid) [v])) _ >>= _) _ _ _
  refine wpAny_bind (wpAny_tryCatch (wpAny_holding (wpAny_mono (turn (j+1) v hv h' tk' K1) (fun x s'' he=>?_) fun _ _ hF=>hF.elim)))
  obtain⟨tk2,t2,rfl,rfl⟩:=he
  have hit2:h'.IsListIter I l (j+1+1):=⟨oI',hoI',hoc,hod⟩
  show wpAny _ A.in1 (tryCatch (holding [v,.int (kf (j+1)) t2] (richCompare .Lt (.int (kf (j+1)) t2) (.int (kf i) tb) >>= _)) _ >>= _) _ _ _
  refine wpAny_bind (wpAny_tryCatch (wpAny_holding (wpAny_bind (CmpOf.ints_lt (prog:=prog) (w:=w) (A:=A.in1) (P:=fun i v=>∃t,v=.int (kf i) t) kf (fun i v h=>h) (j+1) i _ _ _ _ _ ⟨t2,rfl⟩ ⟨tb,rfl⟩ ?_))))
  refine wpAny_bind (wpAny_holding (wpAny_truthy_bool ?_))
  refine wpAny_bind (wpAny_letGo (wpAny_pure ?_))
  by_cases hb':kf (j+1)<kf i
  ·have s1:=Heap.SameBut.update h' S (Obj.mapSeq fun _=>#[v,.int (kf (j+1)) t2])
   obtain⟨c2,hc2⟩:∃c2,(h'.update S (Obj.mapSeq fun _=>#[v,.int (kf (j+1)) t2])).get? S=some (seqObj "list" #[v,.int (kf (j+1)) t2] c2):=⟨_,get?_update_seq nS1 fun _=>#[v,.int (kf (j+1)) t2]⟩
   simp only[hb',decide_true,if_true]
   refine wpAny_bind ?_
   refine wpAny_updateSeq nS1 rfl (wpAny_bind (wpAny_letGo ?_))
   rw[hname]
   refine wpAny_pure ⟨plainId_quiet yah _,ih (j+1) (j+1) _ _ v t2 c2 (by omega) hlt (fun b o n1 n2 e=>(s1.2 b n2).trans (K1 b o n1 n2 e)) hc2 ⟨oI',(s1.2 I hSI.symm).trans hoI',hoc,hod⟩ hv (ye _) fun j' hj'=>?_⟩
   by_cases e:j'=j+1
   ·subst e
    exact⟨by omega,fun _=>by omega⟩
   ·have hb1:=hbest j' (by omega)
    have hb2:=hb1.1
    exact⟨by omega,fun _=>by omega⟩
  ·simp only[hb',decide_false,ybq,if_false]
   refine wpAny_bind (wpAny_letGo ?_)
   rw[hname]
   refine wpAny_pure ⟨plainId_quiet yah _,ih (j+1) i _ _ vb tb c (by omega) hlt K1 nS1 hit2 hvb (by omega) fun j' hj'=>?_⟩
   by_cases e:j'=j+1
   ·subst e
    exact⟨by omega,fun _=>by omega⟩
   ·exact hbest j' (by omega)
theorem zjF(a v d:Value):argsOk "min" ⟨[a],[(Str.ofString "key",v),(Str.ofString "default",d)]⟩:=by unfold argsOk;kernel_rfl
theorem zoU(kf:Nat->Int){d:Value}(hh:A.handled=none)(hl:s.heap.IsList l vs.toArray)
  (turn:∀(i:Nat) (v:Value),vs[i]?=some v->∀(h:Heap) (tk:Nat),(∀b o,s.heap.get? b=some o->h.get? b=some o) ->
   wpAny (model prog w) A.in1 (call (.builtin kid) [v]) (fun x s''=>∃tk' t,x=.int (kf i) t/\s''={ s with heap:=h,toks:=tk' }) (fun _ _=>False) { s with heap:=h,toks:=tk })
  (hQ:∀i v h' tk',vs[i]?=some v->(∀j,j<vs.length->kf i<=kf j/\(j<i->kf i<kf j))->(∀b o,s.heap.get? b=some o->h'.get? b=some o)->Q v { s with heap:=h',toks:=tk' })
  (hD:vs=[]->∀h' tk',(∀b o,s.heap.get? b=some o->h'.get? b=some o)->Q d { s with heap:=h',toks:=tk' }) :
  wpAny (model prog w) A (call (.builtin "min") [.ref l] [(Str.ofString "key",.builtin kid),(Str.ofString "default",d)]) Q E s:=by
 have hname:(toString "min" ++ toString ".loop" : String) = "min.loop" := by decide
 obtain⟨ol,hol,_⟩:=id hl
 have hll:l<s.heap.objs.size:=Heap.lt_size hol
 refine kmb_tree PySem.F.kind_min PySem.F.plain_min PySem.F.entry_min (zjF _ _ _) ?_
 show wpAny _ A.in1 (Builtin.Builtins.bindParams "min" ["key", "default"] 0 ⟨[],[(Str.ofString "key",.builtin kid),(Str.ofString "default",d)]⟩ >>= _) _ _ s
 refine wpAny_bind (wpAny_of_eq (show Builtin.Builtins.bindParams "min" ["key", "default"] 0 ⟨[],[(Str.ofString "key",.builtin kid),(Str.ofString "default",d)]⟩=pure [some (.builtin kid),some d]from rfl) ?_)
 refine wpAny_bind (wpAny_pure ?_)
 refine wpAny_bind (wpAny_pyIter_list hl ?_)
 refine wpAny_bind (wpAny_newList ?_ (yD _))
 rw[hname]
 have hS:(s.heap.push { cls:=.type "list_iterator",data:=.fields #[.ref l,.int 0 0] }).objs.size=s.heap.objs.size+1:=size_push' ..
 have hlI:l≠s.heap.objs.size:=yr hll
 have hSI:(s.heap.push { cls:=.type "list_iterator",data:=.fields #[.ref l,.int 0 0] }).objs.size≠s.heap.objs.size:=by rw[hS];exact Nat.ne_of_gt (yaG _)
 have hlS:l≠(s.heap.push { cls:=.type "list_iterator",data:=.fields #[.ref l,.int 0 0] }).objs.size:=by rw[hS];exact yr (ybb hll)
 refine wpAny_pure ⟨plainId_quiet yah _,?_⟩
 have gI:((s.heap.push { cls:=.type "list_iterator",data:=.fields #[.ref l,.int 0 0] }).push (seqObj "list" #[] 0)).get? s.heap.objs.size=some { cls:=.type "list_iterator",data:=.fields #[.ref l,.int 0 0] }:=
  Heap.get?_push_of_some _ (Heap.get?_push_size _ rfl)
 have gS:((s.heap.push { cls:=.type "list_iterator",data:=.fields #[.ref l,.int 0 0] }).push (seqObj "list" #[] 0)).get? (s.heap.push { cls:=.type "list_iterator",data:=.fields #[.ref l,.int 0 0] }).objs.size=some (seqObj "list" #[] 0):=Heap.get?_push_size _ rfl
 have KH:∀b o,s.heap.get? b=some o->((s.heap.push { cls:=.type "list_iterator",data:=.fields #[.ref l,.int 0 0] }).push (seqObj "list" #[] 0)).get? b=some o:=fun b o e=>Heap.get?_push_of_some _ (Heap.get?_push_of_some _ e)
 have hl2:((s.heap.push { cls:=.type "list_iterator",data:=.fields #[.ref l,.int 0 0] }).push (seqObj "list" #[] 0)).IsList l vs.toArray:=by
  obtain⟨o,e,r⟩:=hl
  exact⟨o,KH l o e,r⟩
 have old:∀b o,s.heap.get? b=some o->b≠s.heap.objs.size/\b≠(s.heap.push { cls:=.type "list_iterator",data:=.fields #[.ref l,.int 0 0] }).objs.size:=fun b o e=>by
  have h1:=Heap.lt_size e
  exact⟨yr h1,by rw[hS];exact yr (ybb h1)⟩
 have W:=Walks.list (prog:=prog) (w:=w) (A:=A.in1) hh s.heap.objs.size l hlI vs.toArray
 have hsz:vs.toArray.size=vs.length:=yn ..
 generalize hSa:(s.heap.push { cls:=.type "list_iterator",data:=.fields #[.ref l,.int 0 0] }).objs.size=Sa at *
 generalize hH2:(s.heap.push { cls:=.type "list_iterator",data:=.fields #[.ref l,.int 0 0] }).push (seqObj "list" #[] 0)=H2 at *
 refine codeAny_builtin ybf ?_
 rw[Around.under_plainId yah _]
 show wpAny _ A.in1 (seqItems? (.ref Sa) >>= _) _ _ _
 refine wpAny_bind (wpAny_seqItems gS rfl ?_)
 show wpAny _ A.in1 (tryCatch (pyNext (.ref s.heap.objs.size)) _ >>= _) _ _ _
 by_cases hne:vs=[]
 ·subst hne
  refine wpAny_bind (wpAny_tryCatch (W.done _ _ _ ⟨⟨_,gI,rfl,rfl⟩,hl2⟩ fun h' tk' hk'=>?_))
  refine wpAny_bind (wpAny_rule (wpAny_pure ?_))
  exact hD rfl h' tk' fun b o e=>hk' b o (by simpa using(old b o e).1) (KH b o e)
 have hpos:0<vs.length:=ybl.mpr hne
 refine wpAny_bind (wpAny_tryCatch (W.item 0 _ _ _ (by rw[hsz];exact hpos) ⟨⟨_,gI,rfl,rfl⟩,hl2⟩ fun v h' tk' hP hst' hk'=>?_))
 have hv:vs[0]?=some v:=by simpa using hP
 obtain⟨oI',hoI',hoc,hod⟩:=id hst'.1
 have K1:∀b o,s.heap.get? b=some o->h'.get? b=some o:=fun b o e=>hk' b o (by simpa using(old b o e).1) (KH b o e)
 have nS1:=hk' Sa _ (by simpa using hSI) gS
 show wpAny _ A.in1 (tryCatch (holding [v] (call (.builtin kid) [v])) _ >>= _) _ _ _
 refine wpAny_bind (wpAny_tryCatch (wpAny_holding (wpAny_mono (turn 0 v hv h' tk' K1) (fun x s'' he=>?_) fun _ _ hF=>hF.elim)))
 obtain⟨tk2,t2,rfl,rfl⟩:=he
 have s1:=Heap.SameBut.update h' Sa (Obj.mapSeq fun _=>#[v,.int (kf 0) t2])
 obtain⟨c2,hc2⟩:∃c2,(h'.update Sa (Obj.mapSeq fun _=>#[v,.int (kf 0) t2])).get? Sa=some (seqObj "list" #[v,.int (kf 0) t2] c2):=⟨_,get?_update_seq nS1 fun _=>#[v,.int (kf 0) t2]⟩
 show wpAny _ A.in1 (updateSeq Sa (fun _=>#[v,.int (kf 0) t2]) >>= _) _ _ _
 refine wpAny_bind ?_
 refine wpAny_updateSeq nS1 rfl ?_
 rw[hname]
 have K2:zej s.heap.objs.size Sa s.heap (h'.update Sa (Obj.mapSeq fun _=>#[v,.int (kf 0) t2])):=fun b o n1 n2 e=>(s1.2 b n2).trans (K1 b o e)
 refine wpAny_pure ⟨plainId_quiet yah _,zoV (s:=s) kf hh hl hlI hSI hlS (fun i v hi h tk K=>turn i v hi h tk fun b o e=>K b o (old b o e).1 (old b o e).2 e) (fun i v h'' tk'' hi hb K=>hQ i v h'' tk'' hi hb fun b o e=>K b o (old b o e).1 (old b o e).2 e) _ 0 0 _ _ v t2 c2 rfl hpos K2 hc2 ⟨oI',(s1.2 _ hSI.symm).trans hoI',hoc,hod⟩ hv (ye _) fun j' hj'=>?_⟩
 have e:j'=0:=by omega
 subst e
 exact⟨by omega,fun h=>absurd h (yQ _)⟩
end
open PySem PySem.Spec PyProof.Rows
section
variable {K:Fg}{σ:St}{H:Hp}{Q:VK}{D:Ends}{a C dx:Addr}{fs:List (Str × V)}{f m:Str}
end
def zqe(C:Addr)(m:Str)(sp:Sp)(t:TA)(σ:St)(Q:VK)(Eh:Addr->Hp->Prop)(x:V)(H:Hp):Prop:=∃a dx fs,x=.ref a/\H a=some (.ins C dx fs)/\fs.lookup m=none/\t σ H fun vs H2=>sp (x :: vs) H2 Q fun cls _ H3=>∃C',cls=.ref C'/\Eh C' H3
abbrev zrz(C:Addr)(m:Str)(sp:Sp)(ta:TE)(t:TA):TEr:=fun σ H Q Eh=>ta σ H (zqe C m sp t σ Q Eh)
open PySem PySem.W PySem.Spec PySem.Calls PyProof.Rows
def zkh(K:Fg)(Q:VK)(vs:List V)(H1:Hp):Prop:=∃(a:Addr) (ls:List Addr) (n:Nat->Nat),vs=[.ref a]/\SqL K H1 a (ls.map V.ref)/\(∀i b,ls[i]?=some b->∃xs,H1 b=some (.lst xs)/\xs.length=n i/\n i<=16000) /\
 ∀p H2,H1 p=none->Same H1 H2->H2 p=some (.lst [])->(ls=[]->Q (.ref p) H2)/\∀i b,ls[i]?=some b->(∀j,j<ls.length->n i<=n j/\(j<i->n i<n j))->Q (.ref b) H2
def zkp(K:Fg)(ta:TA):TE:=fun σ H Q=>ta σ H (zkh K Q)
theorem zms{X:Cx}{p pos kp lp dp dq:Pos}{e:Expr}{ta:TA}(hc:X.calm=true)(hg:Gl X "min")(hm:X.mg "min" = none)(hv:bootBuiltins "min" = some (.builtin "min"))(hg2:Gl X "len")(hm2:X.mg "len" = none)(hv2:bootBuiltins "len" = some (.builtin "len"))(ha:PA X [e] ta)
  (he:autoParam (backTo pos (starEach [e] X.env)=(false,eval e X.env) :: backTo pos (starEach [] X.env)) Internal.aut2._auto_1)
  (hplain:autoParam ((backTo pos (starEach [e] X.env)).any (·.1)=false) Internal.aut2._auto_1):PE X (.Call (.Name "min" p) [e] [⟨some "key",.Name "len" lp,kp⟩,⟨some "default",Expr.List [] dp,dq⟩] pos) (zkp X.K ta):=by
 intro pins s σ H Q I h
 refine wpAny_Call_Name_kw (zcC I hg hm hv ?_ (by decide) (by decide))
 refine PyProof.Rows.callWith_kw ?_ he hplain
 refine thn (ha pos pins s σ H _ I h) fun us s1 zz=>?_
 obtain⟨vs,H1,I1,rv,a,ls,n,rfl,hq,hn,kk⟩:=zz
 obtain⟨u1,rfl,r1⟩:=vals1 rv
 cases r1
 show wpAny (model X.prog X.w) X.A (evalAll ((do let v <- eval (.Name "len" lp) X.env;standAt pos;pure v) :: (backToKw pos (keywordEach [⟨some "default",Expr.List [] dp,dq⟩] X.env)).map (·.2))) _ _ s1
 refine wpAny_evalAll_cons (wpAny_bind (zcC I1 hg2 hm2 hv2 (wpAny_bind (wpAny_standAt (wpAny_pure ?_))) (by decide) (by decide)))
 refine thn (zoW (t:=ziz) (nm:=some "default") (kpos:=dq) (zaC (zf (X:=X))) zp3 pos pins s1 σ H1 (fun ws H2=>∃p,ws=[.ref p]/\H1 p=none/\Same H1 H2/\H2 p=some (.lst [])) I1 ?_) fun kvs s2 zz=>?_
 ·exact⟨yD _,fun p hp=>⟨p,rfl,hp,Same.new hp _,zaj⟩⟩
 obtain⟨ws,H2,I2,rw2,p2,rfl,fp,e2,hp⟩:=zz
 obtain⟨u2,rfl,r3⟩:=vals1 rw2
 cases r3
 show wpAny (model X.prog X.w) X.A (call (.builtin "min") [.ref a] [(Str.ofString "key",.builtin "len"),(Str.ofString "default",.ref p2)]) (EP X pins σ Q) X.xe s2
 obtain⟨its,rvs,pl,hil,hlt⟩:=I2.walk (hq.keep e2)
 have hlen:its.length=ls.length:=by rw[hil,yc]
 have get:∀{i:Nat} {v:Value},its[i]?=some v->∃b,ls[i]?=some b/\v=.ref b:=fun {i v} hi=>by
  have hi':=(yj.mp hi).1
  obtain⟨b,hb⟩:=zC (show i<ls.length by omega)
  obtain⟨u,hu,ru⟩:=rvs.get (show(ls.map V.ref)[i]?=some (.ref b) by rw[yf,hb];rfl)
  rw[hi]at hu
  cases hu
  exact⟨b,hb,ru⟩
 obtain⟨kd,kl⟩:=kk p2 H2 fp e2 hp
 refine zoU (kf:=fun i=>(n i:Int)) (I2.ok.hd hc) pl (fun i v hi h tk K=>?_) (fun i v h' tk' hi hb K=>?_) fun hnil h' tk' K=>?_
 ·obtain⟨b,hb,rfl⟩:=get hi
  obtain⟨xs,hx,hxn,hx16⟩:=hn i b hb
  obtain⟨bits,rb,pb,hbl,_⟩:=I2.walk (SqL.of (e2.at hx))
  have pb':h.IsList b bits.toArray:=by
   obtain⟨o,q,r⟩:=pb
   exact⟨o,K b o q,r⟩
  refine PySem.W.kun_lenL (s:={ s2 with heap:=h,toks:=tk }) pb' (k:=(n i:Int)) (by rw[yn];omega) (by omega) ⟨_,_,rfl,rfl⟩
 ·obtain⟨b,hb',rfl⟩:=get hi
  have J:Inv X pins σ H2 { s2 with heap:=h',toks:=tk' }:=I2.kept fun b o z=>K b o z
  refine⟨.ref b,H2,J,rfl,kl i b hb' fun j hj=>?_⟩
  have h3:=hb j (by omega)
  exact⟨by omega,fun z=>by have:=h3.2 z;omega⟩
 ·have J:Inv X pins σ H2 { s2 with heap:=h',toks:=tk' }:=I2.kept fun b o z=>K b o z
  exact⟨.ref p2,H2,J,rfl,kd (by
   have:ls.length=0:=by rw[<- hlen,hnil];rfl
   exact yX this)⟩
open PySem PySem.Spec PyProof.Rows
def bfl(m w y:Int)(d:Addr):List (Str × V):=zjl "deals" (.ref d) (zjl "day" (.int y) (zjl "wares" (.int w) (zjl "many" (.int m) [])))
section
variable {m w y:Int}{d:Addr}
end
set_option genInjectivity false in
set_option genSizeOf false in
structure T7 where
 p:Int
 q:Int
 w:Int
 u:Int
 a:Int
 y:Int
 r:Int
def zqU(t:T7):List V:=[.int t.p,.int t.q,.int t.w,.int t.u,.int t.a,.int t.y,.int t.r]
def zqE(x:T7 × Str):List V:=zqU x.1++[.str x.2]
set_option genInjectivity false in
set_option genSizeOf false in
structure TermOk(m w y:Int)(t:T7):Prop where
 p0:0<=t.p
 p1:t.p<m
 q0:0<=t.q
 q1:t.q<m
 pq:t.p≠t.q
 w0:0<=t.w
 w1:t.w<w
 u0:1<=t.u
 u1:t.u<=1000000
 a0:1<=t.a
 a1:t.a<=1000000000
 y0:0<=t.y
 y1:t.y<=1000000
 r0:0<=t.r
 r1:t.r<=2
 yd:y<=t.y
set_option genInjectivity false in
set_option genSizeOf false in
structure Bk(C:Addr)(H:Hp)(b d:Addr)(m w y:Int)(ts:List (T7 × Str)):Prop where
 ob:∃dx,H b=some (.ins C dx (bfl m w y d))
 ds:∃xs,H d=some (.lst xs)/\IsTs zqE H xs ts
section
variable {C:Addr}{H H':Hp}{b d:Addr}{m w y:Int}{ts:List (T7 × Str)}
end
def stand(t:T7):T7 × Str:=(t,("standing" : Str))
abbrev TAr:=St->Hp->(List V->Hp->Prop)->(Addr->Hp->Prop)->Prop
section
variable {X:Cx}{pos:Pos}
abbrev zrA(te:TEr):TAr:=fun σ H Q Eh=>te σ H (fun y H2=>Q [y] H2) Eh
abbrev zrw(tc:TE)(t:TAr):TAr:=fun σ H Q Eh=>tc σ H fun x H1=>t σ H1 (fun xs H2=>Q (x :: xs) H2) Eh
abbrev zrG(t:TAr):TEr:=fun σ H Q Eh=>t σ H (fun xs H1=>zfd Q xs H1) Eh
abbrev zrC(i:Nat)(te:TEr):TTr:=fun D Eh σ H=>te σ H (fun y H2=>D.nx (σ.set i (some y)) H2) fun C H2=>Eh C σ H2
end
section
variable {σ:St}{H:Hp}{D:Ends}{Eh:Addr->Hp->Prop}{Eg:Addr->St->Hp->Prop}
end
theorem zlb{x:Int}{z:Nat}(h:Dt.Bd ((2 ^ z:Nat):Rat) ((x:Int):Rat)):sz x<=z+1:=by
 have h1:((x:Int):Rat)<=(((2 ^ z:Nat):Int):Rat):=h.2
 have h2:-((((2 ^ z:Nat):Int):Rat))<=((x:Int):Rat):=h.1
 rw[<- yaB]at h2
 have h1':x<=((2 ^ z:Nat):Int):=by exact_mod_cast h1
 have h2':-((2 ^ z:Nat):Int)<=x:=by exact_mod_cast h2
 refine zbJ ?_
 rw[ybA]
 have:0<2 ^ z:=ya5 z
 omega
theorem zkB{x:Int}{z:Nat}(h:sz x<=z):Dt.Bd ((2 ^ z:Nat):Rat) ((x:Int):Rat):=by
 have h1:=sz_le.mp h
 have a1:((x:Int):Rat)<=(((2 ^ z:Nat):Int):Rat):=by
  have:x<=((2 ^ z:Nat):Int):=by omega
  exact_mod_cast this
 have a2:-((((2 ^ z:Nat):Int):Rat))<=((x:Int):Rat):=by
  rw[<- yaB]
  have:-((2 ^ z:Nat):Int)<=x:=by omega
  exact_mod_cast this
 exact⟨a2,a1⟩
theorem znp{c b:Int}(hc:0<c)(hb:0<b):0<c/My.gc c b*b/\c∣c/My.gc c b*b/\b∣c/My.gc c b*b/\c/My.gc c b*b<=c*b:=by
 have hg:0<My.gc c b:=My.gc_pos_right (by omega)
 obtain⟨u,hu⟩:=My.gc_dvd_left c b
 obtain⟨v,hv⟩:=My.gc_dvd_right c b
 have e:c/My.gc c b=u:=by
  have:c/My.gc c b=(My.gc c b*u)/My.gc c b:=by rw[<- hu]
  rw[this];exact yS _ (by omega)
 have hu0:0<u:=by
  rcases yaW 0 u with h | h
  ·exact h
  ·have:=y6 (yay hg) h;omega
 rw[e]
 refine⟨yaR hu0 hb,⟨v,?_⟩,⟨u,yaz _ _⟩,?_⟩
 ·calc u*b=u*(My.gc c b*v):=by rw[<- hv]
   _=(My.gc c b*u)*v:=by rw[yaz (My.gc c b) u,yaC]
   _=c*v:=by rw[<- hu]
 ·have:u<=c:=by
   have h1:1*u<=My.gc c b*u:=yaP (by omega) (by omega)
   omega
  exact yaP this (by omega)
def zgo(K:Fg)(z1 zb:Nat):Sp:=fun vs H Q _=>∃(a:Addr) (ws:List V) (qs:List Rat),vs=[.ref a]/\H a=some (.lst ws)/\IsQs H ws qs/\qs.length<=20/\(∀q∈qs,SzQ q z1 zb)/\20*zb<=8000/\z1<=100000/\1<=zb /\
 ∀p H' (F:Nat->Int) (L:Int),H p=none->Same H H'->0<L->(∀j q,qs[j]?=some q->((F j:Int):Rat)=((L:Int):Rat)*q/\sz (F j)<=z1+qs.length*zb)->H' p=some (.lst ((vec qs.length F).map V.int))->Q (.ref p) H'
def zir:=fun {K:Fg} {z1 zb:Nat} {a:Addr} {ws:List V} {qs:List Rat} {H:Hp} {Q:VK} {E:XK} h hq hl hz h1 h2 h3 k=>@id (zgo K z1 zb [.ref a] H Q E) ⟨a,ws,qs,rfl,h,hq,hl,hz,h1,h2,h3,k⟩
theorem zjs{as:List Addr}(h:∀i j,i<j->j<as.length->as[i]?≠as[j]?):as.Nodup:=by
 rw[List.Nodup,List.pairwise_iff_getElem]
 intro i j hi hj hij e
 exact h i j hij hj (by rw[yi hi,yi hj,e])
def zey(as:List Addr)(p q:Nat)(a b:Addr):List Addr:=(as.set p b).set q a
theorem zmo{H:Hp}{as:List Addr}{k p q:Nat}{F:Nat->Nat->Int}{a b:Addr}(h:Rows H as k F)(ha:as[p]?=some a)(hb:as[q]?=some b):Rows H (zey as p q a b) k (Dt.swp F p q):=by
 have hp:p<as.length:=(yj.mp ha).1
 have hq:q<as.length:=(yj.mp hb).1
 have get:∀i,(zey as p q a b)[i]?=if i=q then some a else if i=p then some b else as[i]?:=fun i=>by
  unfold zey
  rw[yaw]
  by_cases e:q=i
  ·rw[if_pos e,if_pos e.symm,if_pos (by rw[yao];exact hq)]
  ·rw[if_neg e,if_neg (fun z=>e z.symm),yaw]
   by_cases e2:p=i
   ·rw[if_pos e2,if_pos e2.symm,if_pos hp]
   ·rw[if_neg e2,if_neg (fun z=>e2 z.symm)]
 refine⟨?_,fun i c hc=>?_⟩
 ·refine zjs ?_
  intro i j hij hj
  have hlen:(zey as p q a b).length=as.length:=by unfold zey;rw[yao,yao]
  rw[hlen]at hj
  rw[get,get]
  have ne:∀x y,x≠y->x<as.length->y<as.length->as[x]?≠as[y]?:=fun x y hxy hx hy w=>by
   obtain⟨c,hc⟩:∃c,as[x]?=some c:=⟨_,yi hx⟩
   exact hxy (zbQ h.1 hc (w▸hc))
  have nd:∀x y,x<y->y<as.length->as[x]?≠as[y]?:=fun x y h hy=>ne x y (by omega) (by omega) hy
  by_cases e1:i=q
  ·rw[if_pos e1,if_neg (by omega)]
   by_cases e2:j=p
   ·rw[if_pos e2,<- ha,<- hb]
    by_cases e3:p=q
    ·omega
    ·exact ne p q e3 hp hq
   ·rw[if_neg e2,<- ha]
    exact ne p j (fun z=>e2 z.symm) hp hj
  ·rw[if_neg e1]
   by_cases e2:i=p
   ·rw[if_pos e2]
    by_cases e3:j=q
    ·rw[if_pos e3,<- ha,<- hb]
     exact ne q p (by omega) hq hp
    ·rw[if_neg e3,if_neg (by omega),<- hb]
     exact ne q j (fun z=>e3 z.symm) hq hj
   ·rw[if_neg e2]
    by_cases e3:j=q
    ·rw[if_pos e3,<- ha]
     exact ne i p e2 (by omega) hp
    ·rw[if_neg e3]
     by_cases e4:j=p
     ·rw[if_pos e4,<- hb];exact ne i q e1 (by omega) hq
     ·rw[if_neg e4];exact nd i j hij hj
 ·rw[get]at hc
  unfold Dt.swp
  by_cases e1:i=q
  ·rw[if_pos e1]at hc;cases hc
   by_cases e2:i=p
   ·rw[if_pos e2]
    have:p=q:=by omega
    subst this
    exact h.2 _ _ ha
   ·rw[if_neg e2,if_pos e1];exact h.2 _ _ ha
  ·rw[if_neg e1]at hc
   by_cases e2:i=p
   ·rw[if_pos e2]at hc ⊢;cases hc
    exact h.2 _ _ hb
   ·rw[if_neg e2]at hc ⊢
    rw[if_neg e1]
    exact h.2 _ _ hc
def zeO(K:Fg):Sp:=fun vs H Q _=>∃(a b:Addr) (w:Nat) (f g:Nat->Int) (k d:Int),vs=[.ref a,.ref b,.int k,.int d]/\H a=some (.lst ((vec w f).map V.int))/\H b=some (.lst ((vec w g).map V.int))/\0<=k/\k<w/\w<=20/\d≠0/\sz d<=9000/\(∀j,j<w->sz (f j)<=9000/\sz (g j)<=9000) /\
 ∀p H',H p=none->Same H H'->H' p=some (.lst ((vec w fun j=>(g k.toNat*f j-f k.toNat*g j).fdiv d).map V.int))->Q (.ref p) H'
def zim:=fun {K:Fg} {a b:Addr} {w:Nat} {f g:Nat->Int} {k d:Int} {H:Hp} {Q:VK} {E:XK} h1 h2 k0 k1 hw d0 hd hz q=>@id (zeO K [.ref a,.ref b,.int k,.int d] H Q E) ⟨a,b,w,f,g,k,d,rfl,h1,h2,k0,k1,hw,d0,hd,hz,q⟩
def zj4(K:Fg):Sp:=fun vs H Q _=>∃(a:Addr) (as:List Addr) (w:Nat) (T:Nat->Nat->Int) (k d:Int),vs=[.ref a,.int k,.int d]/\H a=some (.lst (as.map V.ref))/\Rows H as w T/\0<=k/\k<as.length/\k<w/\w<=20/\as.length<=20/\d≠0/\sz d<=9000/\(∀i j,i<as.length->j<w->sz (T i j)<=9000) /\
 ∀p H' as',H p=none->Same H H'->H' p=some (.lst (as'.map V.ref))->as'.length=as.length->Rows H' as' w (Dt.nxtI T k.toNat d)->Q (.ref p) H'
def zlu:=fun {K:Fg} {a:Addr} {as:List Addr} {w:Nat} {T:Nat->Nat->Int} {k d:Int} {H:Hp} {Q:VK} {E:XK} h1 h2 k0 k1 k2 hw hl d0 hd hz q=>@id (zj4 K [.ref a,.int k,.int d] H Q E) ⟨a,as,w,T,k,d,rfl,h1,h2,k0,k1,k2,hw,hl,d0,hd,hz,q⟩
set_option genInjectivity false in
set_option genSizeOf false in
structure Sys(H:Hp)(a b:Addr)(n:Nat)(R:Nat->Nat->Rat):Prop where
 rows:∃as:List Addr,H a=some (.lst (as.map V.ref))/\as.length=n/\∀(l:Nat) (c:Addr),as[l]?=some c->∃ws,H c=some (.lst ws)/\IsQs H ws ((List.range n).map (R l))
 side:∃ws,H b=some (.lst ws)/\IsQs H ws ((List.range n).map fun l=>R l n)
section
variable {X:Cx}{pins:List (Addr × Obj)}{s s':Shared}{σ:St}{H H':Hp}{pos:Pos}
end
theorem zow(q:Rat):((q.num:Int):Rat)=q*(((q.den:Nat):Int):Rat):=by
 have e1:((q.num:Int):Rat)/(((q.den:Nat):Int):Rat)=q:=by rw[<- yaV];exact yba q
 have hne:(((q.den:Nat):Int):Rat)≠0:=fun z=>by
  have h1:((q.den:Nat):Int)=0:=by exact_mod_cast z
  have:=zal q
  omega
 have:=ybt (a:=((q.num:Int):Rat)) hne
 rw[e1]at this;exact this.symm
theorem PRows.put{H:Hp}{as:List Addr}{F:Nat->List Rat}{j:Nat}{p:Addr}{vs:List V}{G:List Rat}(h:PRows H as F)(n:p∉as)(hp:H p=some (.lst vs))(hv:IsQs H vs G):PRows H (as.set j p) (fun m=>if m=j then G else F m):=by
 refine⟨zjs fun x y hxy hy=>?_,fun m a hm=>?_⟩
 ·rw[yao]at hy
  have g:∀z,z<as.length->(as.set j p)[z]?=if j=z then some p else as[z]?:=fun z hz=>by
   rw[yaw]
   split
   ·rename_i e;rw[if_pos (by omega)]
   ·rfl
  rw[g x (by omega),g y hy]
  have hx':x<as.length:=by omega
  by_cases e1:j=x
  ·rw[if_pos e1,if_neg (by omega)]
   intro z
   exact n (yb z.symm)
  ·rw[if_neg e1]
   by_cases e2:j=y
   ·rw[if_pos e2]
    intro z
    exact n (yb z)
   ·rw[if_neg e2]
    intro z
    obtain⟨c,hc⟩:∃c,as[x]?=some c:=⟨_,yi hx'⟩
    have:=zbQ h.1 hc (z▸hc)
    omega
 ·rw[yaw]at hm
  by_cases e:j=m
  ·rw[if_pos e]at hm
   split at hm
   ·cases hm
    exact⟨vs,hp,by dsimp only;rw[if_pos e.symm];exact hv⟩
   ·cases hm
  ·rw[if_neg e]at hm
   dsimp only
   rw[if_neg (fun z=>e z.symm)]
   exact h.2 m a hm
theorem IsQs.setQ{H:Hp}{p:Addr}{q:Rat}(hp:IsQ H p q):∀{vs:List V} {qs:List Rat} (j:Nat),IsQs H vs qs->IsQs H (vs.set j (.ref p)) (qs.set j q)
 | [],[],j,h=>by cases j<;>exact h
 | _ :: _,[],_,h=>by simp[IsQs]at h
 | [],_ :: _,_,h=>by simp[IsQs]at h
 | v :: vs,r :: rs,0,h=>⟨⟨p,rfl,hp⟩,h.2⟩
 | v :: vs,r :: rs,j+1,h=>⟨h.1,IsQs.setQ hp (vs:=vs) (qs:=rs) j h.2⟩
theorem zhb{n j:Nat}{g:Nat->Rat}{q:Rat}:((List.range n).map g).set j q=(List.range n).map fun m=>if m=j then q else g m:=by
 apply y8
 intro i
 rw[yaw,yf,yf,yc,yy]
 by_cases h:i<n
 ·rw[y4 h]
  by_cases e:j=i
  ·subst e;rw[if_pos rfl,if_pos h];show _=some (if j=j then q else g j);rw[if_pos rfl]
  ·rw[if_neg e];show some (g i)=some (if i=j then q else g i);rw[if_neg (fun z=>e z.symm)]
 ·rw[yE (by rw[yy];omega)]
  by_cases e:j=i
  ·rw[if_pos e,if_neg (by omega)];rfl
  ·rw[if_neg e];rfl
theorem zpi{K:Fg}{H:Hp}{Q:VK}{r:Int}{o:Option Nat}(h:0<=r)(q:Q (.bl (decide (o=some r.toNat))) H):zaE K (.int r) (zaX o) H Q:=by
 cases o with
 | none=>
  refine .inr ⟨rfl,?_⟩
  have e:decide ((none:Option Nat)=some r.toNat)=false:=by simp
  rw[e]at q
  have e2:decide (V.int r=zaX none)=false:=by simp[zaX]
  rw[e2];exact q
 | some m=>
  refine zoa ?_
  have e:decide (r=((m:Nat):Int))=decide (some m=some r.toNat):=by
   rw[decide_eq_decide]
   constructor
   ·intro h;congr 1;omega
   ·intro h;have:=yp h;omega
  rw[e];exact q
def zgZ(K:Fg):Sp:=fun vs H Q _=>∃(a b:Addr) (ds:List Due) (n:Nat) (ρ:Nat->Option Nat),vs=[.ref a,.ref b]/\IsSh K H a ds/\H b=some (.lst (zP n ρ))/\n<=9/\(∀d∈ds,zA n d) /\
 ∀l H' as,H l=none->Same H H'->H' l=some (.lst (List.map V.ref as))->as.length=n->Rows H' as n (zap ρ ds)->(∀b∈as,H b=none)->Q (.ref l) H'
def zlw:=fun {K:Fg} {a b:Addr} {ds:List Due} {n:Nat} {ρ:Nat->Option Nat} {H:Hp} {Q:VK} {E:XK} h hb n1 hd q=>@id (zgZ K [.ref a,.ref b] H Q E) ⟨a,b,ds,n,ρ,rfl,h,hb,n1,hd,q⟩
abbrev zkG(l:List Nat):List Int:=l.map fun(x:Nat)=>(x:Int)
abbrev zax(l:List Nat):List V:=(zkG l).map V.int
theorem intsN_mem{l:List Nat}{x:Nat}:((x:Int)∈zkG l)↔x∈l:=by
 rw[yaa]
 constructor
 ·rintro⟨y,h,e⟩;rw[<- Int.ofNat.inj e];exact h
 ·exact fun h=>⟨x,h,rfl⟩
theorem zX{l:List Nat}:(zax l).length=l.length:=by simp
theorem zfc{l l':List Nat}:zax (l++l')=zax l++zax l':=by simp
theorem zcf{l:List Nat}{k:Nat}(h:k<l.length):(zax l)[k]?=some (.int ((l.getD k 0:Nat):Int)):=by
 rw[yf,yf,yi h,yg,yi h];rfl
theorem zdY{P:Nat->Bool}{j:Nat}:(List.range (j+1)).filter P=(List.range j).filter P++if P j=true then[j] else[]:=by
 rw[yG,yat]
 by_cases h:P j=true
 ·rw[if_pos h,yaJ h];rfl
 ·rw[if_neg h,yaK h];rfl
theorem zo8{α:Type}{P:α->Bool}{x:α}:[x].filter P=if P x=true then[x] else[]:=by
 by_cases h:P x=true
 ·rw[if_pos h,yaJ h];rfl
 ·rw[if_neg h,yaK h];rfl
theorem zfu:∀(ls:List (List Nat)) (l0 l:List Nat) (i:Nat),(l0 :: ls)[i]?=some l->(∀(j:Nat) (m:List Nat),(l0 :: ls)[j]?=some m->l.length<=m.length/\(j<i->l.length<m.length))->ls.foldl (fun b c=>if c.length<b.length then c else b) l0=l
 | [],l0,l,0,h,_=>yp h
 | [],l0,l,i+1,h,_=>by cases h
 | d :: ls,l0,l,0,h,c=>by
  have e:l0=l:=yp h
  subst e
  have h1:=(c 1 d rfl).1
  show ls.foldl _ (if d.length<l0.length then d else l0)=l0
  rw[if_neg (by omega)]
  refine zfu ls l0 l0 0 rfl fun j m hm=>?_
  cases j with
  | zero=>cases hm;exact⟨ye _,fun z=>absurd z (yQ _)⟩
  | succ j=>exact⟨(c (j+2) m hm).1,fun z=>absurd z (yaA _)⟩
 | d :: ls,l0,l,1,h,c=>by
  have e:d=l:=yp h
  subst e
  have h1:=(c 0 l0 rfl).2 (by omega)
  show ls.foldl _ (if d.length<l0.length then d else l0)=d
  rw[if_pos h1]
  refine zfu ls d d 0 rfl fun j m hm=>?_
  cases j with
  | zero=>cases hm;exact⟨ye _,fun z=>absurd z (yQ _)⟩
  | succ j=>exact⟨(c (j+2) m hm).1,fun z=>absurd z (yaA _)⟩
 | d :: ls,l0,l,i+2,h,c=>by
  have h0:=(c 0 l0 rfl).2 (by omega)
  have h1:=(c 1 d rfl).2 (by omega)
  show ls.foldl _ (if d.length<l0.length then d else l0)=l
  refine zfu ls _ l (i+1) h fun j m hm=>?_
  cases j with
  | zero=>
   have e:=yp hm
   have h2:l.length<m.length:=by
    rw[<- e]
    by_cases z:d.length<l0.length
    ·rw[if_pos z];exact h1
    ·rw[if_neg z];exact h0
   exact⟨ya8 h2,fun _=>h2⟩
  | succ j=>exact⟨(c (j+2) m hm).1,fun z=>(c (j+2) m hm).2 (by omega)⟩
theorem zoQ{ls:List (List Nat)}{l:List Nat}{i:Nat}(h:ls[i]?=some l)(c:∀(j:Nat) (m:List Nat),ls[j]?=some m->l.length<=m.length/\(j<i->l.length<m.length)):Rc.minL ls=l:=by
 cases ls with
 | nil=>cases h
 | cons l0 ls=>exact zfu ls l0 l i h c
theorem zbK{l:List Nat}{n k:Nat}(h:k<l.length)(hl:∀x∈l,x<n):l.getD k 0<n:=by
 rw[yg,yi h];exact hl _ (ybE h)
def LsOf(H:Hp)(as:List Addr)(ls:List (List Nat)):Prop:=as.length=ls.length/\∀(i:Nat) (a:Addr),as[i]?=some a->∃l,ls[i]?=some l/\H a=some (.lst (zax l))
theorem LsOf.nil{H:Hp}:LsOf H [] []:=⟨rfl,fun _ _ h=>nomatch h⟩
theorem LsOf.same{H H':Hp}{as:List Addr}{ls:List (List Nat)}(h:LsOf H as ls)(e:Same H H'):LsOf H' as ls:=⟨h.1,fun i a q=>by obtain⟨l,h1,h2⟩:=h.2 i a q;exact⟨l,h1,e.at h2⟩⟩
theorem LsOf.but{H H':Hp}{as:List Addr}{ls:List (List Nat)}{D:Addr}(h:LsOf H as ls)(e:LBut D H H')(n:D∉as):LsOf H' as ls:=
 ⟨h.1,fun i a q=>by obtain⟨l,h1,h2⟩:=h.2 i a q;exact⟨l,h1,e.lst h2 fun z=>n (z▸yb q)⟩⟩
theorem LsOf.snoc{H:Hp}{as:List Addr}{ls:List (List Nat)}{a:Addr}{l:List Nat}(h:LsOf H as ls)(ha:H a=some (.lst (zax l))):LsOf H (as++[a]) (ls++[l]):=
 ⟨by rw[ya,ya,h.1];rfl,fun i b q=>by
  rcases Nat.lt_trichotomy i as.length with hi | hi | hi
  ·rw[yA hi]at q
   rw[yA (by rw[<- h.1];exact hi)];exact h.2 i b q
  ·rw[hi,ybu]at q
   cases q
   exact⟨l,by rw[hi,h.1,ybu],ha⟩
  ·rw[yE (by rw[ya];simp only[y9];omega)]at q
   cases q⟩
def zg3(K:Fg):Sp:=fun vs H Q _=>∃(a:Addr) (i n:Nat) (as:List Addr) (F:Nat->Nat->Int),vs=[.ref a,.int i]/\H a=some (.lst (as.map V.ref))/\as.length=n/\Rows H as n F/\n<=9/\i<n /\
 ∀p H',H p=none->Same H H'->H' p=some (.lst (zax (Rc.reach n (fun i j=>decide (0<F i j)) i)))->Q (.ref p) H'
def zl8:=fun {K:Fg} {a:Addr} {i n:Nat} {as:List Addr} {F:Nat->Nat->Int} {H:Hp} {Q:VK} {E:XK} h hl hR h9 hi q=>@id (zg3 K [.ref a,.int i] H Q E) ⟨a,i,n,as,F,rfl,h,hl,hR,h9,hi,q⟩
def zfX(K:Fg):Sp:=fun vs H Q _=>∃(a b:Addr) (n:Nat) (as:List Addr) (F:Nat->Nat->Int) (ρ:Nat->Option Nat),vs=[.ref a,.ref b]/\H a=some (.lst (as.map V.ref))/\as.length=n/\Rows H as n F/\H b=some (.lst (zP n ρ))/\n<=9 /\
 ∀p H',H p=none->Same H H'->H' p=some (.lst (zax (Rc.circle n (fun i j=>decide (0<F i j)) fun i=>(ρ i).isSome)))->Q (.ref p) H'
def zkY:=fun {K:Fg} {a b:Addr} {n:Nat} {as:List Addr} {F:Nat->Nat->Int} {ρ:Nat->Option Nat} {H:Hp} {Q:VK} {E:XK} h hl hR hb h9 q=>@id (zfX K [.ref a,.ref b] H Q E) ⟨a,b,n,as,F,ρ,rfl,h,hl,hR,hb,h9,q⟩
theorem PRows.upd{H H':Hp}{as:List Addr}{F:Nat->List Rat}{j:Nat}{a:Addr}{vs:List V}{G:List Rat}(h:PRows H as F)(g:LBut a H H')(ha:as[j]?=some a)(h':H' a=some (.lst vs))(hv:IsQs H' vs G):PRows H' as (fun m=>if m=j then G else F m):=by
 refine⟨h.1,fun m b hb=>?_⟩
 by_cases e:m=j
 ·subst e
  rw[ha]at hb;cases hb
  show ∃vs,H' a=some (.lst vs)/\IsQs H' vs (if m=m then G else F m)
  rw[if_pos rfl]
  exact⟨_,h',hv⟩
 ·obtain⟨us,u1,u2⟩:=h.2 m b hb
  show ∃vs,H' b=some (.lst vs)/\IsQs H' vs (if m=j then G else F m)
  rw[if_neg e]
  exact⟨us,g.lst u1 fun z=>e (zbQ h.1 hb (z▸ha)),LBut.isQs g u2⟩
def zcc(n:Nat)(F:Nat->Nat->Int)(c:List Nat)(a b:Nat):Int:=if a=b then zaH (vec n (F (c.getD a 0)))else -F (c.getD b 0) (c.getD a 0)
def zkC(K:Fg):Sp:=fun vs H Q _=>∃(a b:Addr) (n:Nat) (as:List Addr) (F:Nat->Nat->Int) (c:List Nat),vs=[.ref a,.ref b]/\H a=some (.lst (as.map V.ref))/\as.length=n/\Rows H as n F/\H b=some (.lst (zax c))/\(∀x∈c,x<n)/\c.length<=9/\n<=9 /\
 ∀p H' bs,H p=none->Same H H'->H' p=some (.lst (List.map V.ref bs))->bs.length=c.length->PRows H' bs (fun a=>(List.range c.length).map fun b=>((zcc n F c a b:Int):Rat))->(∀b∈bs,H b=none)->Q (.ref p) H'
def zpn:=fun {K:Fg} {a b:Addr} {n:Nat} {as:List Addr} {F:Nat->Nat->Int} {c:List Nat} {H:Hp} {Q:VK} {E:XK} h hl hR hb hc c9 h9 q=>@id (zkC K [.ref a,.ref b] H Q E) ⟨a,b,n,as,F,c,rfl,h,hl,hR,hb,hc,c9,h9,q⟩
def zfi(K:Fg):Sp:=fun vs H Q _=>∃(a:Addr) (as:List Addr) (w:Nat) (T:Nat->Nat->Int) (k:Int),vs=[.ref a,.int k]/\H a=some (.lst (as.map V.ref))/\Rows H as w T/\0<=k/\k<as.length/\k<w/\as.length<=20/\(∃i,k.toNat<=i/\i<as.length/\T i k.toNat≠0) /\
 (∀p H' as' i,k.toNat<=i->i<as.length->T i k.toNat≠0->H p=none->Same H H'->H' p=some (.lst (as'.map V.ref))->as'.length=as.length->(∀b∈as',b∈as)->Rows H' as' w (Dt.swp T k.toNat i)->Q (.ref p) H')
def zg8:=fun {K:Fg} {a:Addr} {as:List Addr} {w:Nat} {T:Nat->Nat->Int} {k:Int} {H:Hp} {Q:VK} {E:XK} h1 h2 k0 k1 k2 hl q0 q1=>@id (zfi K [.ref a,.int k] H Q E) ⟨a,as,w,T,k,rfl,h1,h2,k0,k1,k2,hl,q0,q1⟩
def zhK(K:Fg)(z1 zb:Nat):Sp:=fun vs H Q _=>∃(a b:Addr) (n:Nat) (R:Nat->Nat->Rat),vs=[.ref a,.ref b]/\Sys H a b n R/\n<=9/\(∀l j,l<n->j<=n->SzQ (R l j) z1 zb)/\1<=zb/\20*zb<=8000/\z1<=100000/\n*(z1+(n+1)*zb+4)<=8990/\Dt.det n (Dt.cl R)≠0 /\
 (∀p H' vs (x:Nat->Rat),H p=none->Same H H'->H' p=some (.lst vs)->IsQs H' vs ((List.range n).map x)->(∀l,l<n->Dt.sm n (fun m=>R l m*x m)=R l n)->(∀m,m<n->SzQ (x m) (n*(z1+(n+1)*zb+4)+1) (n*(z1+(n+1)*zb+4)+1))->Q (.ref p) H')
def zfG:=fun {K:Fg} {z1 zb:Nat} {a b:Addr} {n:Nat} {R:Nat->Nat->Rat} {H:Hp} {Q:VK} {E:XK} h n1 hz h1 h2 h3 h4 q0 q1=>@id (zhK K z1 zb [.ref a,.ref b] H Q E) ⟨a,b,n,R,rfl,h,n1,hz,h1,h2,h3,h4,q0,q1⟩
def zeb(n:Nat)(F:Nat->Nat->Int)(c:List Nat)(x:Nat->Rat)(i:Nat):Rat:=sF c.length (fun a=>c.getD a 0) x i*((zaH (vec n (F i)):Int):Rat)
def zj1(K:Fg):Sp:=fun vs H Q _=>∃(a b d:Addr) (n:Nat) (as:List Addr) (F:Nat->Nat->Int) (c:List Nat) (ws:List V) (x:Nat->Rat),vs=[.ref a,.ref b,.ref d]/\H a=some (.lst (as.map V.ref))/\as.length=n/\Rows H as n F/\H b=some (.lst (zax c))/\(∀x∈c,x<n)/\c.Nodup/\c.length<=9/\n<=9/\H d=some (.lst ws)/\IsQs H ws ((List.range c.length).map x)/\(∀m,m<c.length->OkQ (x m))/\(∀i,i<n->OkQ ((zaH (vec n (F i)):Int):Rat)) /\
 ∀p H' vs,H p=none->Same H H'->H' p=some (.lst vs)->IsQs H' vs ((List.range n).map (zeb n F c x))->Q (.ref p) H'
def zhH:=fun {K:Fg} {a b d:Addr} {n:Nat} {as:List Addr} {F:Nat->Nat->Int} {c:List Nat} {ws:List V} {x:Nat->Rat} {H:Hp} {Q:VK} {E:XK} h hl hR hb hc nd c9 h9 hd hx z1 z2 q=>@id (zj1 K [.ref a,.ref b,.ref d] H Q E) ⟨a,b,d,n,as,F,c,ws,x,rfl,h,hl,hR,hb,hc,nd,c9,h9,hd,hx,z1,z2,q⟩
def zc1(n:Nat)(F:Nat->Nat->Int)(c:List Nat)(a b:Nat):Rat:=if a=0 then(if b=0 then 1 else 0) else((zcc n F c a b:Int):Rat)
def FlOk(n:Nat)(F:Nat->Nat->Int):Prop:=(∀i j,i<n->j<n->sz (F i j)<=59)/\∀i,i<n->sz (zaH (vec n (F i)))<=59
theorem FlOk.bal{n:Nat}{F:Nat->Nat->Int}{c:List Nat}(h:FlOk n F)(hc:∀x∈c,x<n){a b:Nat}(ha:a<c.length)(hb:b<c.length):sz (zcc n F c a b)<=60:=by
 unfold zcc
 split
 ·exact yh (h.2 _ (zbK ha hc)) (by decide)
 ·exact yh (ze1 _) (yh (h.1 _ _ (zbK hb hc) (zbK ha hc)) (by decide))
theorem zeW:sz (1:Int)<=1:=zbJ (by decide)
theorem FlOk.sum{n:Nat}{F:Nat->Nat->Int}(h:FlOk n F){i:Nat}(hi:i<n):OkQ ((zaH (vec n (F i)):Int):Rat):=by
 have:=h.2 i hi
 exact⟨yh (show sz (((zaH (vec n (F i)):Int):Rat).num)<=59 from this) (by decide),yh zeW (by decide)⟩
theorem zdG{x:Int}{z:Nat}(h:sz x<=z):SzQ ((x:Int):Rat) z 1:=⟨h,zeW⟩
theorem zen{n:Nat}(h:n<=9):n*(60+(n+1)*1+4)+1<=667:=by
 have:=yaX h (show 60+(n+1)*1+4<=74 by omega)
 omega
def zl1(K:Fg):Sp:=fun vs H Q _=>∃(a b:Addr) (n:Nat) (as:List Addr) (F:Nat->Nat->Int) (c:List Nat),vs=[.ref a,.ref b]/\H a=some (.lst (as.map V.ref))/\as.length=n/\Rows H as n F/\H b=some (.lst (zax c))/\(∀x∈c,x<n)/\c.Nodup/\1<=c.length/\c.length<=9/\n<=9/\FlOk n F/\Dt.det c.length (Dt.cl (zc1 n F c))≠0 /\
 ∀p H' vs (x:Nat->Rat),H p=none->Same H H'->H' p=some (.lst vs)->IsQs H' vs ((List.range n).map (zeb n F c x))->(∀l,l<c.length->Dt.sm c.length (fun m=>zc1 n F c l m*x m)=if l=0 then 1 else 0)->(∀m,m<c.length->SzQ (x m) 667 667)->Q (.ref p) H'
def zng:=fun {K:Fg} {a b:Addr} {n:Nat} {as:List Addr} {F:Nat->Nat->Int} {c:List Nat} {H:Hp} {Q:VK} {E:XK} h hl hR hb hc nd c1 c9 h9 z q0 q=>@id (zl1 K [.ref a,.ref b] H Q E) ⟨a,b,n,as,F,c,rfl,h,hl,hR,hb,hc,nd,c1,c9,h9,z,q0,q⟩
def shorts(n:Nat)(ρ:Nat->Option Nat):List Nat:=(List.range n).filter fun i=>(ρ i).isSome
theorem zlM{n:Nat}{ρ:Nat->Option Nat}:∀x∈shorts n ρ,x<n:=fun x h=>yN.mp (yam.mp h).1
theorem zmC{n:Nat}{ρ:Nat->Option Nat}:(shorts n ρ).Nodup:=ybD.filter _
theorem zkW{n:Nat}{ρ:Nat->Option Nat}:(shorts n ρ).length<=n:=by
 have:=ybh (fun i=>(ρ i).isSome) (List.range n)
 rw[yy]at this;exact this
def zls(K:Fg):Sp:=fun vs H Q _=>∃(a b d:Addr) (n:Nat) (as:List Addr) (F:Nat->Nat->Int) (ρ:Nat->Option Nat) (ps:List Int),vs=[.ref a,.ref b,.ref d]/\H a=some (.lst (as.map V.ref))/\as.length=n/\Rows H as n F/\H b=some (.lst (zP n ρ))/\H d=some (.lst (ps.map V.int))/\ps.length=n/\(∀p∈ps,sz p<=59)/\n<=9/\FlOk n F/\Dt.det (shorts n ρ).length (Dt.cl (fun a b=>((zcc n F (shorts n ρ) a b:Int):Rat)))≠0 /\
 ∀p H' vs (x:Nat->Rat),H p=none->Same H H'->H' p=some (.lst vs)->IsQs H' vs ((List.range n).map (zeb n F (shorts n ρ) x))->(∀l,l<(shorts n ρ).length->Dt.sm (shorts n ρ).length (fun m=>((zcc n F (shorts n ρ) l m:Int):Rat)*x m)=((ps.getD ((shorts n ρ).getD l 0) 0:Int):Rat))->(∀m,m<(shorts n ρ).length->SzQ (x m) 667 667)->Q (.ref p) H'
def znG:=fun {K:Fg} {a b d:Addr} {n:Nat} {as:List Addr} {F:Nat->Nat->Int} {ρ:Nat->Option Nat} {ps:List Int} {H:Hp} {Q:VK} {E:XK} h hl hR hb hd pl pz h9 z q0 q=>@id (zls K [.ref a,.ref b,.ref d] H Q E) ⟨a,b,d,n,as,F,ρ,ps,rfl,h,hl,hR,hb,hd,pl,pz,h9,z,q0,q⟩
def zlp(K:Fg):Sp:=fun vs H Q _=>∃(a b d e:Addr) (n:Nat) (as:List Addr) (ds:List Due) (l r:Nat->Rat) (us ws:List V),vs=[.ref a,.ref b,.ref d,.ref e]/\H a=some (.lst (as.map V.ref))/\as.length=n/\Rows H as 3 (zH ds)/\H b=some (.lst (zP n (stp ds l)))/\H d=some (.lst us)/\IsQs H us ((List.range n).map l)/\H e=some (.lst ws)/\IsQs H ws ((List.range n).map r)/\n<=9/\(∀i,i<n->0<r i->stp ds l i≠none/\OkQ (l i)/\OkQ (zbu ds l i)/\OkQ (zbu ds l i-l i)/\SzQ (r i) 8999 8999/\SzQ (zaf ds l r i) 60000 60000) /\
 (zad ds l r n=none->∀H',Same H H'->Q .non H')/\(∀x,zad ds l r n=some x->∀p H',Same H H'->IsQ H' p x->Q (.ref p) H')
def ziZ:=fun {K:Fg} {a b d e:Addr} {n:Nat} {as:List Addr} {ds:List Due} {l r:Nat->Rat} {us ws:List V} {H:Hp} {Q:VK} {E:XK} h hl hR hb hd hu he hw h9 z q1 q2=>@id (zlp K [.ref a,.ref b,.ref d,.ref e] H Q E) ⟨a,b,d,e,n,as,ds,l,r,us,ws,rfl,h,hl,hR,hb,hd,hu,he,hw,h9,z,q1,q2⟩
def zj0(K:Fg):Sp:=fun vs H Q _=>∃(d e s:Addr) (n:Nat) (l r:Nat->Rat) (t:Rat) (us ws:List V),vs=[.ref d,.ref e,.ref s]/\H d=some (.lst us)/\IsQs H us ((List.range n).map l)/\H e=some (.lst ws)/\IsQs H ws ((List.range n).map r)/\IsQ H s t/\n<=9/\OkQ t/\(∀i,i<n->OkQ (l i)/\OkQ (r i)/\OkQ (r i*t)) /\
 ∀p H' vs,H p=none->Same H H'->H' p=some (.lst vs)->IsQs H' vs ((List.range n).map fun i=>l i+r i*t)->Q (.ref p) H'
def zd5:=fun {K:Fg} {d e s:Addr} {n:Nat} {l r:Nat->Rat} {t:Rat} {us ws:List V} {H:Hp} {Q:VK} {E:XK} hd hu he hw hs h9 z0 z q=>@id (zj0 K [.ref d,.ref e,.ref s] H Q E) ⟨d,e,s,n,l,r,t,us,ws,rfl,hd,hu,he,hw,hs,h9,z0,z,q⟩
open PySem PySem.Spec PyProof.Rows Dt
theorem zhr{i j:Int}(h:((i:Int):Rat)<=((j:Int):Rat)):i<=j:=by exact_mod_cast h
theorem zlE(f:Nat->Int):∀n:Nat,((zaH (vec n f):Int):Rat)=sm n (fun j=>((f j:Int):Rat))
 | 0=>rfl
 | n+1=>by
  have ih:=zlE f n
  rw[zdI]at ih ⊢
  show((zbF f n+f n:Int):Rat)=sm n (fun j=>((f j:Int):Rat))+((f n:Int):Rat)
  rw[yav,ih]
section
variable {n:Nat}{ds:List Due}{l p:Nat->Rat}{c:List Nat}{x:Nat->Rat}{t:Rat}
abbrev flI(ds:List Due)(l:Nat->Rat):Nat->Nat->Int:=zap (stp ds l) ds
theorem zgB(i:Nat):((zaH (vec n (flI ds l i)):Int):Rat)=zW n ds l i:=zlE _ n
theorem zjC(a b:Nat):((zcc n (flI ds l) c a b:Int):Rat)=bal (cF ds l c) (cR n ds l c) a b:=by
 unfold zcc bal
 by_cases e:a=b
 ·rw[if_pos e,if_pos e];exact zgB _
 ·rw[if_neg e,if_neg e,yaB];rfl
theorem zln(a b:Nat):zc1 n (flI ds l) c a b=zcH (cF ds l c) (cR n ds l c) a b:=by
 unfold zc1 zcH
 by_cases e:a=0
 ·rw[if_pos e,if_pos e]
 ·rw[if_neg e,if_neg e];exact zjC a b
theorem zlr(i:Nat):zeb n (flI ds l) c x i=sF c.length (fun a=>c.getD a 0) x i*zW n ds l i:=by
 unfold zeb
 rw[zgB]
theorem zoi{m:Nat}{s:Nat->Nat}{x y:Nat->Rat}(h:∀a,a<m->x a=y a)(i:Nat):sF m s x i=sF m s y i:=sm_congr fun a ha=>by rw[h a ha]
theorem zi7(hd:∀d∈ds,zA n d)(hc:crL n ds l≠[])(hx:zcP n ds l (crL n ds l) x)(i:Nat):zeb n (flI ds l) (crL n ds l) x i=rtF n ds p l i:=by
 rw[zlr]
 unfold rtF shF
 rw[if_neg hc]
 have hy:zcP n ds l (crL n ds l) (zjy n ds l (crL n ds l)):=yaq ⟨x,hx⟩
 show _*_=_*_
 rw[zoi (znA hd (Rc.circle_ok hc) hx hy)]
theorem zhB(hd:∀d∈ds,zA n d)(hc:crL n ds l=[])(hx:zdi n ds p l (slL n ds l) x)(i:Nat):zeb n (flI ds l) (slL n ds l) x i=rtF n ds p l i:=by
 rw[zlr]
 unfold rtF shF
 rw[if_pos hc]
 have hy:zdi n ds p l (slL n ds l) (zgK n ds p l (slL n ds l)):=yaq ⟨x,hx⟩
 show _*_=_*_
 rw[zoi (znx hd hc hx hy)]
theorem zn0(hd:∀d∈ds,zA n d)(hc:crL n ds l≠[]):det (crL n ds l).length (cl (zc1 n (flI ds l) (crL n ds l)))≠0:=by
 obtain⟨m,hm⟩:∃m,(crL n ds l).length=m+1:=⟨(crL n ds l).length-1,by
  have:(crL n ds l).length≠0:=fun z=>hc (yX z)
  omega⟩
 intro z
 refine zj2 hd (Rc.circle_ok hc) hm ?_
 rw[hm]at z
 rw[<- z]
 exact det_congr fun j r _ _=>(zln r j).symm
theorem zlY(hd:∀d∈ds,zA n d)(hc:crL n ds l=[]):det (slL n ds l).length (cl (fun a b=>((zcc n (flI ds l) (slL n ds l) a b:Int):Rat)))≠0:=by
 have L:=zd0 hd hc (m:=(slL n ds l).length) (s:=fun a=>(slL n ds l).getD a 0) (fun a ha=>sl_mem.mp (zaF ha)) (za4 zdR)
 intro z
 refine L.det ?_
 rw[<- z]
 exact det_congr fun j r _ _=>(zjC r j).symm
theorem zno(h:∀a,a<c.length->sm c.length (fun b=>zc1 n (flI ds l) c a b*x b)=if a=0 then 1 else 0):zcP n ds l c x:=fun a ha=>by
 rw[<- h a ha]
 exact sm_congr fun b _=>by rw[zln]
theorem zn2(h:∀a,a<c.length->sm c.length (fun b=>((zcc n (flI ds l) c a b:Int):Rat)*x b)=p (c.getD a 0)):zdi n ds p l c x:=fun a ha=>by
 rw[<- h a ha]
 exact sm_congr fun b _=>by rw[zjC]
theorem zoP{ρ:Nat->Option Nat}{i j:Nat}{A:Int}(A0:0<=A)(ds:List Due):(∀d∈ds,d.a<=A)->zap ρ ds i j<=A*(ds.length:Int):=
 zcz (P:=fun ds=>(∀d∈ds,d.a<=A)->zap ρ ds i j<=A*(ds.length:Int)) (fun _=>by show(0:Int)<=A*((0:Nat):Int);omega) (fun es d ih h=>by
  have h1:=ih fun e he=>h e (yC _ he)
  have h2:=h d (yq _ (.head _))
  rw[zbs,ya,y9]
  have e:A*((es.length+1:Nat):Int)=A*(es.length:Int)+A:=by rw[Int.natCast_add,Int.mul_add];omega
  rw[e]
  split<;>omega) ds
theorem zlC{A:Int}(hd:∀d∈ds,zA n d)(hA:∀d∈ds,d.a<=A)(A0:0<=A)(i:Nat):0<=zaH (vec n (flI ds l i))/\zaH (vec n (flI ds l i))<=A*(ds.length:Int):=by
 have e:=zgB (n:=n) (ds:=ds) (l:=l) i
 cases hs:stp ds l i with
 | none=>
  have:zW n ds l i=0:=sm_zero fun j _=>by unfold flR;rw[zhj hs];rfl
  rw[this]at e
  have e0:zaH (vec n (flI ds l i))=0:=by exact_mod_cast e
  rw[e0]
  exact⟨yaS _,ybo A0 (by omega)⟩
 | some r=>
  have h1:zW n ds l i=((zH ds i r:Int):Rat):=ziJ hs ds fun d hm=>by
   have:=hd d hm
   exact⟨this.2.2.1,this.2.2.2.1,this.2.2.2.2.2.1⟩
  rw[h1]at e
  have e0:zaH (vec n (flI ds l i))=zH ds i r:=by exact_mod_cast e
  rw[e0]
  exact zmb ds (fun d hm=>⟨(hd d hm).2.2.2.2.2.2.2.1,hA d hm⟩) A0
theorem zqS(hd:∀d∈ds,zA n d)(hA:∀d∈ds,d.a<=1000000000000)(hl:ds.length<=64):FlOk n (flI ds l):=by
 have z:∀v:Int,0<=v->v<=1000000000000*(ds.length:Int)->sz v<=59:=fun v h0 h1=>zbJ (by
  have:v.natAbs<=64000000000000:=by omega
  exact yak this (by decide))
 exact⟨fun i j _ _=>z _ (zfx ds fun d hm=>(hd d hm).2.2.2.2.2.2.2.1) (zoP (by decide) ds hA),fun i _=>by
  have:=zlC (l:=l) hd hA (by decide) i
  exact z _ this.1 this.2⟩
theorem zlZ(hz:FlOk n (flI ds l))(nd:c.Nodup)(hx:∀a,a<c.length->SzQ (x a) 667 667){i:Nat}(hi:i<n):SzQ (zeb n (flI ds l) c x i) 726 668:=by
 have h1:SzQ (sF c.length (fun a=>c.getD a 0) x i) 667 667:=by
  rcases yag (∃a,a<c.length/\c.getD a 0=i) with⟨a,ha,e⟩ | w
  ·rw[<- e,zfp (s:=fun a=>c.getD a 0) (za4 nd) ha];exact hx a ha
  ·rw[zgt fun a ha e=>w ⟨a,ha,e⟩];exact znd (by decide)
 exact SzQ.mul h1 (zdG (hz.2 i hi)) (by decide) (by decide)
theorem zmc{q:Rat}{D:Nat}(hD:0<D)(h:Dv D q)(hD2:D<=2 ^ 7000)(q0:0<=q)(q1:q<=((1000000000000000:Int):Rat)):SzQ q 7051 7001:=by
 have hle:q.den<=2 ^ 7000:=yh (Nat.le_of_dvd hD (Dv.den hD h)) hD2
 refine⟨zbJ ?_,zbJ ?_⟩
 ·have n0:0<=q.num:=Rat.num_nonneg.mpr q0
  have e:=zow q
  have hd0:(0:Rat)<=(((q.den:Nat):Int):Rat):=zbd (by omega)
  have h1:((q.num:Int):Rat)<=((1000000000000000:Int):Rat)*(((q.den:Nat):Int):Rat):=by
   rw[e];exact yH q1 hd0
  rw[<- yP]at h1
  have h2:q.num<=1000000000000000*((q.den:Nat):Int):=zhr h1
  have h3:q.num.natAbs<=1000000000000000*q.den:=by clear hle hD2;omega
  have h4:1000000000000000*q.den<=2 ^ 50*2 ^ 7000:=yaX (by decide) hle
  rw[<- ya2]at h4
  exact yak (yh h3 h4) (Nat.pow_lt_pow_right (by decide) (by decide))
 ·rw[yaM]
  exact yak hle (Nat.pow_lt_pow_right (by decide) (by decide))
end
abbrev pQ(ps:List Int)(i:Nat):Rat:=((ps.getD i 0:Int):Rat)
set_option genInjectivity false in
set_option genSizeOf false in
structure Clr(n:Nat)(ds:List Due)(ps:List Int)(W P:Rat):Prop where
 n9:n<=9
 hd:∀d∈ds,zA n d
 ha:∀d∈ds,d.a<=1000000000000
 hl:ds.length<=64
 pl:ps.length=n
 pz:∀p∈ps,0<=p/\p<=100000000000000
 hW:∀l i,i<n->2*zW n ds l i<=W
 W1:1<=W
 hP:sm n (pQ ps)<=P
 P1:1<=P
 big:prodN (fun _=>prodN (fun _=>W) n*P*W) (zcw n ds+1)<=(((2 ^ 7000:Nat):Int):Rat)
section
variable {n:Nat}{ds:List Due}{ps:List Int}{W P:Rat}{l:Nat->Rat}{t:Rat}{k:Nat}
theorem Clr.p0(C:Clr n ds ps W P):∀i,i<n->0<=pQ ps i:=fun i hi=>by
 obtain⟨p,hp⟩:=zC (show i<ps.length by rw[C.pl];exact hi)
 unfold pQ
 rw[yg,hp]
 exact zbd (C.pz p (yb hp)).1
theorem Clr.pz'(C:Clr n ds ps W P):∀p∈ps,sz p<=59:=fun p hp=>zbJ (by
 have:=C.pz p hp
 exact yak (show p.natAbs<=100000000000000 by omega) (by decide))
theorem Clr.B1(C:Clr n ds ps W P):1<=prodN (fun _=>W) n*P*W:=by
 have h1:(1:Rat)<=prodN (fun _=>W) n:=zex (k:=0) C.W1 (yD _)
 have h2:=C.P1
 have h3:=C.W1
 have h4:(1:Rat)*1<=prodN (fun _=>W) n*P:=by
  refine yM (yH h1 (by decide)) (yJ h2 (by grind))
 have h5:(1:Rat)*1<=prodN (fun _=>W) n*P*W:=by
  refine yM (yH (show(1:Rat)<=prodN (fun _=>W) n*P by grind) (by decide)) (yJ h3 (by grind))
 grind
theorem Clr.dv(C:Clr n ds ps W P)(h:COk n ds (pQ ps) (prodN (fun _=>W) n*P*W) k l t):∃D:Nat,0<D/\D<=2 ^ 7000/\(∀i,i<n->Dv D (l i))/\Dv D t:=by
 obtain⟨D,D0,D1,hl,ht⟩:=h.dv
 refine⟨D,D0,?_,hl,ht⟩
 have h1:=yM (yM D1 (zex C.B1 h.le)) C.big
 exact Int.ofNat_le.mp (zhr h1)
theorem Clr.cum(C:Clr n ds ps W P)(i:Nat){r:Nat}(hr:r<=3):0<=zbF (zH ds i) r/\zbF (zH ds i) r<=300000000000000:=by
 have hf:∀j,j<3->0<=zH ds i j/\zH ds i j<=100000000000000:=fun j _=>by
  have:=zes (m:=i) (r:=j) ds fun d h=>⟨(C.hd d h).2.2.2.2.2.2.2.1,C.ha d h⟩
  have:=C.hl
  omega
 have:=zfn hf r hr
 omega
theorem Clr.lay(C:Clr n ds ps W P)(h:COk n ds (pQ ps) (prodN (fun _=>W) n*P*W) k l t){i:Nat}(hi:i<n):SzQ (l i) 7051 7001:=by
 obtain⟨D,D0,D1,hl,_⟩:=C.dv h
 refine zmc D0 (hl i hi) D1 (h.inv.lo i hi) (yM (h.inv.hi i hi) (zdc ?_))
 have:=(C.cum i (ye 3)).2
 omega
theorem Clr.top(C:Clr n ds ps W P)(h:COk n ds (pQ ps) (prodN (fun _=>W) n*P*W) k l t):SzQ t 7051 7001:=by
 obtain⟨D,D0,D1,_,ht⟩:=C.dv h
 exact zmc D0 ht D1 h.t0 (yM h.t1 (show((1:Int):Rat)<=_ from zdc (by decide)))
theorem Clr.shut(C:Clr n ds ps W P)(h:COk n ds (pQ ps) (prodN (fun _=>W) n*P*W) k l t):SzQ (1-t) 7053 7002:=by
 rw[ybv]
 exact SzQ.add (zdG (x:=1) zeW) (C.top h).neg (k:=7052) (by decide) (by decide) (by decide)
theorem Clr.endz(C:Clr n ds ps W P){i:Nat}(hs:stp ds l i≠none):SzQ (zbu ds l i) 50 1:=by
 obtain⟨ρ,hρ⟩:∃ρ,stp ds l i=some ρ:=by
  cases h:stp ds l i with
  | none=>exact absurd h hs
  | some ρ=>exact⟨ρ,rfl⟩
 have hρ3:ρ < 3:=(zcb hρ).1
 rw[zeY hρ]
 have:=C.cum i (show ρ+1<=3 by omega)
 exact zdG (zbJ (yak (show(zbF (zH ds i) (ρ+1)).natAbs<=300000000000000 by omega) (by decide)))
theorem Clr.gap(C:Clr n ds ps W P)(h:COk n ds (pQ ps) (prodN (fun _=>W) n*P*W) k l t){i:Nat}(hi:i<n)(hs:stp ds l i≠none):SzQ (zbu ds l i-l i) 7053 7002:=by
 rw[ybv]
 exact SzQ.add (C.endz hs) (C.lay h hi).neg (k:=7052) (by decide) (by decide) (by decide)
theorem Clr.room(C:Clr n ds ps W P)(h:COk n ds (pQ ps) (prodN (fun _=>W) n*P*W) k l t){r:Nat->Rat}{i:Nat}(hi:i<n)(hs:stp ds l i≠none)(hr:SzQ (r i) 726 668)(h0:0<r i):SzQ (zaf ds l r i) 7721 7728:=by
 unfold zaf
 rw[ybJ]
 have hn:(r i).num≠0:=fun z=>by
  have:r i=0:=Rat.num_eq_zero.mp z
  rw[this]at h0;exact absurd h0 (by decide)
 exact SzQ.mul (C.gap h hi hs) (hr.inv hn) (by decide) (by decide)
end
section
variable {n:Nat}{ds:List Due}{ps:List Int}{W P:Rat}{l:Nat->Rat}{t:Rat}{k:Nat}
theorem Clr.rooms(C:Clr n ds ps W P)(h:COk n ds (pQ ps) (prodN (fun _=>W) n*P*W) k l t)(hz:∀i,i<n->SzQ (rtF n ds (pQ ps) l i) 726 668):∀i,i<n->0<rtF n ds (pQ ps) l i->stp ds l i≠none/\OkQ (l i)/\OkQ (zbu ds l i)/\OkQ (zbu ds l i-l i)/\SzQ (rtF n ds (pQ ps) l i) 8999 8999/\SzQ (zaf ds l (rtF n ds (pQ ps) l) i) 60000 60000:=fun i hi hr=>by
 obtain⟨ρ,hρ⟩:=zeo C.hd hr
 have hs:stp ds l i≠none:=by rw[hρ];exact nofun
 exact⟨hs,(C.lay h hi).ok (by decide) (by decide),(C.endz hs).ok (by decide) (by decide),(C.gap h hi hs).ok (by decide) (by decide),(hz i hi).mono (by decide) (by decide),(C.room h hi hs (hz i hi) hr).mono (by decide) (by decide)⟩
theorem Clr.stepz(C:Clr n ds ps W P)(h:COk n ds (pQ ps) (prodN (fun _=>W) n*P*W) k l t)(hz:∀i,i<n->SzQ (rtF n ds (pQ ps) l i) 726 668){x:Rat}(hx:zad ds l (rtF n ds (pQ ps) l) n=some x):SzQ x 7721 7728:=by
 obtain⟨⟨i,hi,hr,rfl⟩,_⟩:=zbR hx
 obtain⟨ρ,hρ⟩:=zeo C.hd hr
 exact C.room h hi (by rw[hρ];exact nofun) (hz i hi) hr
theorem Clr.grow(C:Clr n ds ps W P)(h:COk n ds (pQ ps) (prodN (fun _=>W) n*P*W) k l t)(hz:∀i,i<n->SzQ (rtF n ds (pQ ps) l i) 726 668){x:Rat}(hx:SzQ x 7721 7728):OkQ x/\∀i,i<n->OkQ (l i)/\OkQ (rtF n ds (pQ ps) l i)/\OkQ (rtF n ds (pQ ps) l i*x):=
 ⟨hx.ok (by decide) (by decide),fun i hi=>⟨(C.lay h hi).ok (by decide) (by decide),(hz i hi).ok (by decide) (by decide),SzQ.ok (SzQ.mul (hz i hi) hx (k:=8447) (l:=8396) (by decide) (by decide)) (by decide) (by decide)⟩⟩
theorem Clr.cirRoom(C:Clr n ds ps W P)(h:COk n ds (pQ ps) (prodN (fun _=>W) n*P*W) k l t)(ha:Ans n ds (pQ ps) l)(hc:crL n ds l≠[]):∃x,zad ds l (rtF n ds (pQ ps) l) n=some x:=by
 obtain⟨s0,hb,hpos⟩:=zi2 C.hd C.p0 ha
 obtain⟨i,hi,hst,hsi⟩:=hpos hc
 have hr:0<rtF n ds (pQ ps) l i:=by
  cases g:stp ds l i with
  | none=>exact absurd g hst
  | some ρ=>exact ybp hsi (zfv C.hd (h.inv.lo i hi) g)
 cases hq:zad ds l (rtF n ds (pQ ps) l) n with
 | none=>exact absurd hr (zcO hq i hi)
 | some q=>exact⟨q,rfl⟩
end
theorem zmL{n:Nat}{ds:List Due}{p l:Nat->Rat}{t:Rat}(hc:crL n ds l=[])(h:zad ds l (rtF n ds p l) n=none):stF n ds p l t=1-t:=by
 unfold stF;rw[if_pos hc,h]
theorem zmR{n:Nat}{ds:List Due}{p l:Nat->Rat}{t q:Rat}(hc:crL n ds l=[])(h:zad ds l (rtF n ds p l) n=some q):stF n ds p l t=if 1-t<q then 1-t else q:=by
 unfold stF;rw[if_pos hc,h]
theorem zqQ{K:Fg}{H:Hp}{Q:VK}{a b:Addr}{q r:Rat}(h1:IsQ H a q)(h2:IsQ H b r)(k:Q (.bl (decide (q=r))) H):zaE K (.ref a) (.ref b) H Q:=by
 have hdq:(dQ q).depth<=1:=by simp[dQ,PyData.depth,PyData.depthAll]
 refine zku h1.rep h2.rep (by omega) ?_
 rw[zrp];exact k
def zhs(K:Fg):Sp:=fun vs H Q _=>∃(a u:Addr) (n:Nat) (ds:List Due) (ps:List Int) (W P:Rat),vs=[.ref a,.ref u]/\IsSh K H a ds/\H u=some (.lst (ps.map V.int))/\Clr n ds ps W P /\
 ∀p H' ws k,H p=none->Same H H'->H' p=some (.lst ws)->IsQs H' ws ((List.range n).map (cst n ds (pQ ps) k).1)->zc8 n ds (cst n ds (pQ ps) k).1 (cst n ds (pQ ps) k).2->(∀j,j<k->¬zc8 n ds (cst n ds (pQ ps) j).1 (cst n ds (pQ ps) j).2)->COk n ds (pQ ps) (prodN (fun _=>W) n*P*W) k (cst n ds (pQ ps) k).1 (cst n ds (pQ ps) k).2->Q (.ref p) H'
def zfI:=fun {K:Fg} {a u:Addr} {n:Nat} {ds:List Due} {ps:List Int} {W P:Rat} {H:Hp} {Q:VK} {E:XK} h hu C q=>@id (zhs K [.ref a,.ref u] H Q E) ⟨a,u,n,ds,ps,W,P,rfl,h,hu,C,q⟩
theorem zpf{K:Fg}{H:Hp}{Q:VK}{a b:Addr}{ns:List Int}(h1:H a=some (.lst (ns.map V.int)))(h2:H b=some (.lst []))(q:Q (.bl (!decide (ns=[]))) H):zbM K (.ref a) (.ref b) H Q:=by
 cases ns with
 | nil=>
  refine zgc (ns:=[]) (ms:=[]) (SqL.of h1) (SqL.of h2) rfl ?_
  exact q
 | cons x xs=>
  refine zh9 (.lst (SqL.of h1) (zce _)) (.lst (SqL.of h2) .nil) (by rw[zco,zcs];omega) ?_
  have e:PyData.eqv (.list ((x :: xs).map PyData.int)) (.list [])=false:=by
   rw[yaf];simp[PyData.eqv,PyData.eqvAll]
  rw[e]
  exact q
abbrev zdB(w:Nat):Rat:=(((2 ^ w:Nat):Int):Rat)
theorem zfO(a b:Nat):zdB a*zdB b=zdB (a+b):=by
 show _=(((2 ^ (a+b):Nat):Int):Rat)
 rw[ya2,Int.natCast_mul,yP]
theorem ze4(w:Nat):∀n:Nat,prodN (fun _=>zdB w) n=zdB (w*n)
 | 0=>rfl
 | n+1=>by
  show prodN (fun _=>zdB w) n*zdB w=_
  rw[ze4 w n,zfO,Nat.mul_succ]
theorem zko{a b:Nat}(h:a<=b):zdB a<=zdB b:=zdc (Int.ofNat_le.mpr (yaZ (by decide) h))
theorem ziN(a:Nat):1<=zdB a:=zko (yD a)
theorem zlF{f:Nat->Rat}{M:Int}:∀{n:Nat},(∀i,i<n->f i<=((M:Int):Rat))->sm n f<=(((n:Int)*M:Int):Rat)
 | 0,_=>by rw[show((0:Nat):Int)*M=0 by omega];exact yK
 | n+1,h=>by
  have h1:=zlF (n:=n) fun i hi=>h i (by omega)
  have h2:=h n (by omega)
  have e:(((n+1:Nat):Int)*M)=(n:Int)*M+M:=by rw[Int.natCast_add,Int.add_mul];omega
  rw[e,yav]
  show sm n f+f n<=_
  grind
theorem zqa{n:Nat}(ds:List Due):zcw n ds<=3*n:=zgG fun i _=>by
 have:=zgG (n:=3) (b:=1) (f:=fun r=>if 0<zH ds i r then 1 else 0) (fun r _=>by split<;>decide)
 exact this
theorem zju{n w:Nat}{ds:List Due}{ps:List Int}{A:Int}(n9:n<=9)(hd:∀d∈ds,zA n d/\d.a<=1000000000000)(hl:ds.length<=64)(pl:ps.length=n)(hp:zfz ps)(hA:∀d∈ds,d.a<=A)(A0:0<=A)(hw:2*(A*(ds.length:Int))<=((2 ^ w:Nat):Int))(hb:(w*n+50+w)*(zcw n ds+1)<=7000):Clr n ds ps (zdB w) (zdB 50) where
 n9:=n9
 hd:=fun d h=>(hd d h).1
 ha:=fun d h=>(hd d h).2
 hl:=hl
 pl:=pl
 pz:=hp
 hW:=fun l i _=>by
  have:=zlC (l:=l) (fun d h=>(hd d h).1) hA A0 i
  rw[<- zgB]
  have e:(2:Rat)*((zaH (vec n (flI ds l i)):Int):Rat)=((2*zaH (vec n (flI ds l i)):Int):Rat):=by rw[yP];rfl
  rw[e]
  exact zdc (by omega)
 W1:=ziN w
 hP:=by
  have h1:sm n (pQ ps)<=(((n:Int)*100000000000000:Int):Rat):=zlF fun i hi=>by
   obtain⟨p,hpi⟩:=zC (show i<ps.length by rw[pl];exact hi)
   unfold pQ
   rw[yg,hpi]
   exact zdc (hp p (yb hpi)).2
  refine yM h1 (zdc ?_)
  have:((2 ^ 50:Nat):Int)=1125899906842624:=by decide
  rw[this];omega
 P1:=ziN 50
 big:=by
  rw[ze4,zfO,zfO,ze4]
  exact zko hb
theorem zlx{n:Nat}{ds:List Due}{ps:List Int}(n9:n<=9)(hd:∀d∈ds,zA n d/\d.a<=1000000000000)(hl:ds.length<=64)(pl:ps.length=n)(hp:zfz ps)(hs:(∀d∈ds,d.a<=12)\/ds.length<=12\/(n<=6/\ds.length<=16)):∃W P,Clr n ds ps W P:=by
 have t1:=zqc (n:=n) ds fun d h=>(hd d h).1.2.2.2.2.2.2.2.1
 have t2:=zqa (n:=n) ds
 have e11:((2 ^ 11:Nat):Int)=2048:=by decide
 have e45:((2 ^ 45:Nat):Int)=35184372088832:=by decide
 rcases hs with h | h | ⟨h,h'⟩
 ·refine⟨_,_,zju (w:=11) (A:=12) n9 hd hl pl hp h (by decide) (by rw[e11];omega) ?_⟩
  exact yh (yaX (show 11*n+50+11<=160 by omega) (show zcw n ds+1<=28 by omega)) (by decide)
 ·refine⟨_,_,zju (w:=45) (A:=1000000000000) n9 hd hl pl hp (fun d h=>(hd d h).2) (by decide) (by rw[e45];omega) ?_⟩
  exact yh (yaX (show 45*n+50+45<=500 by omega) (show zcw n ds+1<=13 by omega)) (by decide)
 ·refine⟨_,_,zju (w:=45) (A:=1000000000000) n9 hd hl pl hp (fun d h=>(hd d h).2) (by decide) (by rw[e45];omega) ?_⟩
  exact yh (yaX (show 45*n+50+45<=365 by omega) (show zcw n ds+1<=17 by omega)) (by decide)
def zg5(K:Fg):Sp:=fun vs H Q _=>∃(a:Addr) (ns:List Int) (n c:Int),vs=[.ref a,.int n,.int c]/\SqL K H a (ns.map V.int)/\Light ns/\∀x,0<=x->x<=1000000000000->(x≠0->c<13\/(n<7/\c<17))->Q (.int x) H
def zlW:=fun {K:Fg} {a:Addr} {ns:List Int} {n c:Int} {H:Hp} {Q:VK} {E:XK} hS hz q=>@id (zg5 K [.ref a,.int n,.int c] H Q E) ⟨a,ns,n,c,rfl,hS,hz,q⟩
def zqN(qs:List Rat):Prop:=∀q∈qs,0<=q/\SzQ q 7051 7001
section
variable {n:Nat}{ds:List Due}{ps:List Int}{W P:Rat}{k:Nat}
abbrev zcY(n:Nat)(ds:List Due)(ps:List Int)(k:Nat):List Rat:=(List.range n).map (cst n ds (pQ ps) k).1
theorem znZ{i:Nat}(hi:i<n):(zcY n ds ps k).getD i 0=(cst n ds (pQ ps) k).1 i:=by
 rw[yg,yf,y4 hi];rfl
theorem zga:(zcY n ds ps k).length=n:=by rw[yc,yy]
theorem Clr.wide(C:Clr n ds ps W P)(h:COk n ds (pQ ps) (prodN (fun _=>W) n*P*W) k (cst n ds (pQ ps) k).1 (cst n ds (pQ ps) k).2):zqN (zcY n ds ps k):=fun q hq=>by
 obtain⟨i,hi,rfl⟩:=yaa.mp hq
 have hi':=yN.mp hi
 exact⟨h.inv.lo i hi',C.lay h hi'⟩
theorem znM{j k:Nat}(h1:zc8 n ds (cst n ds (pQ ps) j).1 (cst n ds (pQ ps) j).2)(h2:∀i,i<j->¬zc8 n ds (cst n ds (pQ ps) i).1 (cst n ds (pQ ps) i).2)(g1:zc8 n ds (cst n ds (pQ ps) k).1 (cst n ds (pQ ps) k).2)(g2:∀i,i<k->¬zc8 n ds (cst n ds (pQ ps) i).1 (cst n ds (pQ ps) i).2):j=k:=by
 rcases Nat.lt_trichotomy j k with h | h | h
 ·exact absurd h1 (g2 j h)
 ·exact h
 ·exact absurd g1 (h2 k h)
end
section
variable {n:Nat}{ds:List Due}{l x y p:Nat->Rat}
end
def LeL(rs rs':List Rat):Prop:=∀m,m<rs.length->rs.getD m 0<=rs'.getD m 0
section
variable {n:Nat}{ds:List Due}{ps:List Int}{W P:Rat}{k:Nat}
end
abbrev zrJ(n:Nat)(c:Int):List Rat:=(List.range n).map fun _=>((c:Int):Rat)
def zn7(ds:List Due)(ρ:Nat->Option Nat)(m i:Nat)(d:Due):Prop:=ds[i]?=some d/\d.p=(m:Int)/\0<d.a/\ρ m=some d.r.toNat
set_option genInjectivity false in
set_option genSizeOf false in
structure Arr(n:Nat)(ds:List Due)(ρ:Nat->Option Nat)(on:Nat->Option Nat)(arr:Nat->Bool)(τ:Nat->Nat):Prop where
 none:∀m,m<n->ρ m=Option.none->arr m=true/\on m=Option.none
 some:∀m i,m<n->on m=Option.some i->∃d,zn7 ds ρ m i d/\arr m=true/\arr d.q.toNat=true/\τ d.q.toNat < τ m
 away:∀m,m<n->arr m=false->on m=Option.none
 here:∀m,m<n->arr m=true->ρ m=Option.none\/∃i,on m=Option.some i
section
variable {n:Nat}{ds:List Due}{ρ on:Nat->Option Nat}{arr:Nat->Bool}{τ:Nat->Nat}
def above(τ:Nat->Nat):Nat->Nat
 | 0=>0
 | n+1=>max (above τ n) (τ n+1)
set_option genInjectivity false in
set_option genSizeOf false in
structure Pass(ds:List Due)(ρ:Nat->Option Nat)(arr arr':Nat->Bool)(i:Nat):Prop where
 up:∀m,arr m=true->arr' m=true
 all:∀j d m,j<i->zn7 ds ρ m j d->arr d.q.toNat=true->arr' m=true
def zrm(arr:Nat->Bool)(n:Nat):Nat:=nsum (fun m=>if arr m=true then 1 else 0) n
end
section
variable {n:Nat}{ds:List Due}{l:Nat->Rat}{arr arr':Nat->Bool}
end
inductive Road(ds:List Due)(on:Nat->Option Nat):Nat->List Nat->Prop
 | nil {m:Nat}:on m=none->Road ds on m []
 | cons {m i:Nat} {d:Due} {is:List Nat}:on m=some i->ds[i]?=some d->Road ds on d.q.toNat is->Road ds on m (i :: is)
def blL(n:Nat)(w:Nat->Bool):List V:=(List.range n).map fun m=>V.bl (w m)
theorem zoL{n:Nat}{w:Nat->Bool}:(blL n w).length=n:=by simp[blL]
theorem zkc{n i:Nat}{w:Nat->Bool}(h:i<n):(blL n w)[i]?=some (V.bl (w i)):=by simp[blL,h]
theorem zis{n:Nat}{w:Nat->Bool}:blL (n+1) w=blL n w++[V.bl (w n)]:=by unfold blL;rw[yG,yl];rfl
set_option genInjectivity false in
set_option genSizeOf false in
structure ArrB(n:Nat)(ds:List Due)(ρ on:Nat->Option Nat)(arr:Nat->Bool)(τ:Nat->Nat):Prop where
 A:Arr n ds ρ on arr τ
 B:∀m,m<n->τ m<=zrm arr n
section
variable {n i:Nat}{ds:List Due}{ρ on:Nat->Option Nat}{arr arr':Nat->Bool}{τ:Nat->Nat}
end
theorem zhN{n k:Nat}{ds:List Due}{ps:List Int}:zl5 ds (zcY n ds ps k)=zP n (stp ds (cst n ds (pQ ps) k).1):=by
 show zP (zcY n ds ps k).length _=_
 rw[zga]
 exact zer fun i hi=>by rw[znZ hi];rfl
set_option genInjectivity false in
set_option genSizeOf false in
structure Roads(n:Nat)(ds:List Due)(on:Nat->Option Nat)(rds:List (List Nat)):Prop where
 len:rds.length=n
 road:∀m rd,rds[m]?=some rd->Road ds on m rd/\rd.length<=9
set_option genInjectivity false in
set_option genSizeOf false in
structure DeepV(ds:List Due)(qs:List Rat)(D:Nat):Prop where
 pos:0<D
 lay:∀q∈qs,DvB D q
 zs:sz ((D*zpF ds:Nat):Int)<=7800
section
variable {n:Nat}{ds:List Due}{ps:List Int}{W P:Rat}{k:Nat}
end
def zrt(ds:List Due)(ps:List Int)(qs:List Rat)(m:Nat):Rat:=((ps.getD m 0:Int):Rat)+za5 ds (zmX ds qs) m-qs.getD m 0
abbrev zrE(ds:List Due)(ps:List Int)(qs:List Rat):List Rat:=(List.range ps.length).map (zrt ds ps qs)
section
variable {n:Nat}{ds:List Due}{ps ps':List Int}{W P W' P':Rat}{k k':Nat}
end
section
variable {n:Nat}{ds:List Due}{ps:List Int}{W P:Rat}{k:Nat}
end
section
variable {n:Nat}{ds:List Due}{ps:List Int}{W P:Rat}{k:Nat}
end
open PySem
theorem zeJ{ds:List Due}{n:Nat}{g g':Nat->Bool}(hd:∀d∈ds,zA n d)(h:∀m,m<n->g m=g' m)(m:Nat):∀i,zaT ds g i m=zaT ds g' i m
 | 0=>rfl
 | i+1=>by
  rw[zaT,zaT]
  cases e:ds[i]? with
  | none=>exact zeJ hd h m i
  | some d=>
   obtain⟨p0,p1,q0,q1,_⟩:=hd d (yb e)
   have e1:useful g m d↔useful g' m d:=by unfold useful;rw[h d.p.toNat (by omega),h d.q.toNat (by omega)]
   simp only
   by_cases u:useful g m d
   ·rw[if_pos u,if_pos (e1.mp u)]
   ·rw[if_neg u,if_neg (fun z=>u (e1.mpr z))];exact zeJ hd h m i
theorem zeN{ds:List Due}{t m:Nat}(h:goF ds (t+1) m=true):goF ds t m=true:=by
 rw[goF]at h
 cases e:zaT ds (goF ds t) ds.length m with
 | none=>rw[e]at h;cases h
 | some j=>
  obtain⟨d,_,u1,_,u3,_⟩:=zdw e
  rwa [show d.p.toNat=m by omega]at u3
def zb1(n:Nat)(g:Nat->Bool):Nat:=((List.range n).filter g).length
theorem zdt{n:Nat}{g:Nat->Bool}:zb1 (n+1) g=zb1 n g+if g n=true then 1 else 0:=by
 unfold zb1
 rw[yG,yat,ya]
 congr 1
 by_cases h:g n=true
 ·rw[if_pos h];simp[h]
 ·rw[if_neg h];simp[h]
theorem zop{n:Nat}{p q:Nat->Bool}(h:∀m,m<n->q m=true->p m=true):zb1 n q<=zb1 n p:=by
 induction n with
 | zero=>exact ye _
 | succ n ih=>
  have:=ih fun m hm=>h m (by omega)
  have hn:=h n (by omega)
  rw[zdt,zdt]
  by_cases e:q n=true
  ·rw[if_pos e,if_pos (hn e)];omega
  ·rw[if_neg e];split<;>omega
theorem zhg{n:Nat}{p q:Nat->Bool}(h:∀m,m<n->q m=true->p m=true)(hx:∃m,m<n/\p m=true/\q m=false):zb1 n q<zb1 n p:=by
 induction n with
 | zero=>obtain⟨m,hm,_⟩:=hx;omega
 | succ n ih=>
  obtain⟨m,hm,h1,h2⟩:=hx
  rw[zdt,zdt]
  by_cases e:m=n
  ·subst e
   have:=zop (n:=m) fun k hk=>h k (by omega)
   rw[if_pos h1,if_neg (by rw[h2];decide)];omega
  ·have:=ih (fun k hk=>h k (by omega)) ⟨m,by omega,h1,h2⟩
   have hn:=h n (by omega)
   by_cases e:q n=true
   ·rw[if_pos e,if_pos (hn e)];omega
   ·rw[if_neg e];split<;>omega
theorem znS{n:Nat}:zb1 n (fun _=>true)=n:=by
 induction n with
 | zero=>rfl
 | succ n ih=>rw[zdt,ih,if_pos rfl]
theorem zjg{ds:List Due}{n:Nat}(hd:∀d∈ds,zA n d):∀t,(∀m,m<n->goF ds t m=goF ds (t+1) m)\/zb1 n (goF ds (t+1))+(t+1)<=n
 | 0=>by
  by_cases s:∀m,m<n->goF ds 0 m=goF ds 1 m
  ·exact .inl s
  ·refine .inr ?_
   have:zb1 n (goF ds 1)<zb1 n (goF ds 0):=zhg (fun m _=>zeN) (yaE fun z=>s fun m hm=>by
    cases e:goF ds 1 m with
    | true=>exact zeN e
    | false=>exact absurd ⟨m,hm,rfl,e⟩ z)
   have e0:zb1 n (goF ds 0)=n:=znS
   show zb1 n (goF ds 1)+1<=n
   omega
 | t+1=>by
  rcases zjg hd t with s | c
  ·refine .inl fun m hm=>?_
   show(zaT ds (goF ds t) ds.length m).isSome=(zaT ds (goF ds (t+1)) ds.length m).isSome
   rw[zeJ hd s m ds.length]
  ·by_cases s:∀m,m<n->goF ds (t+1) m=goF ds (t+2) m
   ·exact .inl s
   ·refine .inr ?_
    have:zb1 n (goF ds (t+2))<zb1 n (goF ds (t+1)):=zhg (fun m _=>zeN) (yaE fun z=>s fun m hm=>by
     cases e:goF ds (t+2) m with
     | true=>exact zeN e
     | false=>
      cases e':goF ds (t+1) m with
      | false=>rfl
      | true=>exact absurd ⟨m,hm,e',e⟩ z)
    show zb1 n (goF ds (t+2))+(t+2)<=n
    omega
theorem zp5{ds:List Due}{n m j:Nat}(hd:∀d∈ds,zA n d)(hm:m<n)(h:zY ds n m=some j):∃d,ds[j]?=some d/\d.p=(m:Int)/\0<d.a/\∃k,zY ds n d.q.toNat=some k:=by
 obtain⟨t,rfl⟩:∃t,n=t+1:=⟨n-1,by omega⟩
 have hg:goF ds (t+1) m=true:=by rw[zY]at h;rw[goF,h];rfl
 obtain⟨d,hdj,u1,u2,u3,u4⟩:=zdw (show zaT ds (goF ds t) ds.length m=some j from h)
 obtain⟨p0,p1,q0,q1,_⟩:=hd d (yb hdj)
 refine⟨d,hdj,u1,u2,?_⟩
 have st:∀m,m<t+1->goF ds t m=goF ds (t+1) m:=by
  rcases zjg hd t with s | c
  ·exact s
  ·have:0<zb1 (t+1) (goF ds (t+1)):=by
    have e0:zb1 (t+1) (fun _=>false)=0:=by unfold zb1;simp
    have:=zhg (n:=t+1) (p:=goF ds (t+1)) (q:=fun _=>false) (fun _ _ z=>by cases z) ⟨m,hm,hg,rfl⟩
    omega
   omega
 have hq:goF ds (t+1) d.q.toNat=true:=by rw[<- st _ (by omega)];exact u4
 have hq':(zY ds (t+1) d.q.toNat).isSome=true:=hq
 exact ya9.mp hq'
def zcv(ds:List Due)(n m:Nat):Nat:=match zY ds n m with
 | some j=>match ds[j]? with
  | some d=>d.q.toNat
  | none=>0
 | none=>0
def zbt(ds:List Due)(n m:Nat):Int:=match zY ds n m with
 | some j=>j
 | none=>0
theorem zef{ds:List Due}{n m:Nat}(hd:∀d∈ds,zA n d)(hm:m<n)(h:zY ds n m≠none):∃j d,zY ds n m=some j/\ds[j]?=some d/\d.p=(m:Int)/\0<d.a/\d.q=(zcv ds n m:Int)/\zcv ds n m<n/\zY ds n (zcv ds n m)≠none/\zbt ds n m=(j:Int):=by
 cases e:zY ds n m with
 | none=>exact absurd e h
 | some j=>
  obtain⟨d,hdj,hp,ha,k,hk⟩:=zp5 hd hm e
  obtain⟨p0,p1,q0,q1,_⟩:=hd d (yb hdj)
  have en:zcv ds n m=d.q.toNat:=by unfold zcv;rw[e];simp only;rw[hdj]
  have ed:zbt ds n m=(j:Int):=by unfold zbt;rw[e]
  exact⟨j,d,rfl,hdj,hp,ha,by rw[en];omega,by rw[en];omega,by rw[en,hk];exact Option.some_ne_none k,ed⟩
def goL(ds:List Due)(n i:Nat):List Nat:=(List.range i).filter fun m=>(zY ds n m).isSome
theorem znf{ds:List Due}{n i:Nat}:goL ds n (i+1)=goL ds n i++if(zY ds n i).isSome=true then[i] else[]:=by
 unfold goL
 rw[yG,yat]
 congr 1
 by_cases h:(zY ds n i).isSome=true
 ·rw[if_pos h];simp[h]
 ·rw[if_neg h];simp[h]
theorem mem_goL{ds:List Due}{n i m:Nat}:m∈goL ds n i↔m<i/\(zY ds n m).isSome=true:=by unfold goL;simp
set_option genInjectivity false in
set_option genSizeOf false in
structure Walked(ds:List Due)(n:Nat)(ms:List Nat)(x:Nat):Prop where
 nd:ms.Nodup
 ok:∀m∈ms,m<n/\zY ds n m≠none
 at':x<n/\zY ds n x≠none
 nx:∀(i m:Nat),ms[i]?=some m->zcv ds n m=(ms++[x])[i+1]?.getD 0
theorem Walked.step{ds:List Due}{n:Nat}{ms:List Nat}{x:Nat}(hd:∀d∈ds,zA n d)(W:Walked ds n ms x)(hx:x∉ms):Walked ds n (ms++[x]) (zcv ds n x):=by
 obtain⟨j,d,h1,h2,h3,h4,h5,h6,h7,h8⟩:=zef hd W.at'.1 W.at'.2
 refine⟨ybc.mpr ⟨W.nd,by simp,fun a ha b hb e=>hx (by rw[yv]at hb;subst hb;subst e;exact ha)⟩,fun m hm=>?_,⟨h6,h7⟩,fun i m hm=>?_⟩
 ·rcases yT.mp hm with h | h
  ·exact W.ok m h
  ·rw[yv.mp h];exact W.at'
 ·by_cases hi:i<ms.length
  ·have e:=W.nx i m (by rw[yA hi]at hm;exact hm)
   rw[e,yA (l₁:=ms++[x]) (l₂:=[zcv ds n x]) (by rw[ya];show _<_+1;omega)]
  ·have hil:i=ms.length:=by
    have:=(yj.mp hm).1
    rw[ya]at this
    have:i<ms.length+1:=this
    omega
   subst hil
   rw[yU (ye _),Nat.sub_self]at hm
   cases hm
   rw[yU (by rw[ya];exact ye _)]
   simp
def zaz(ms:List Nat):List Int:=ms.map fun m:Nat=>(m:Int)
theorem zeF(ms ks:List Nat):zaz (ms++ks)=zaz ms++zaz ks:=by unfold zaz;rw[yl]
theorem natI_mem{ms:List Nat}{x:Nat}:(x:Int)∈zaz ms↔x∈ms:=by
 unfold zaz
 rw[yaa]
 exact⟨fun⟨y,hy,e⟩=>by rwa [show x=y by omega],fun h=>⟨x,h,rfl⟩⟩
theorem zcM{ms:List Nat}:(zaz ms).length=ms.length:=by unfold zaz;rw[yc]
theorem zeu{ms:List Nat}{i m:Nat}(h:ms[i]?=some m):(zaz ms)[i]?=some (m:Int):=by unfold zaz;rw[yf,h];rfl
def RingOf(ds:List Due)(n:Nat)(rs:List Int):Prop:=(rs=[]/\∀m,m<n->zY ds n m=none)\/∃ms:List Nat,ms≠[]/\ms.Nodup/\(∀m∈ms,m<n/\zY ds n m≠none)/\rs=ms.map (zbt ds n)/\∀(i m:Nat),ms[i]?=some m->zcv ds n m=ms[(i+1)%ms.length]?.getD 0
theorem Walked.ring{ds:List Due}{n:Nat}{ms:List Nat}{x j:Nat}(W:Walked ds n ms x)(hj:ms[j]?=some x):RingOf ds n ((ms.drop j).map (zbt ds n)):=by
 have hjl:j<ms.length:=(yj.mp hj).1
 refine .inr ⟨ms.drop j,fun z=>?_,W.nd.sublist (List.drop_sublist ..),fun m hm=>W.ok m (List.mem_of_mem_drop hm),rfl,fun i m hm=>?_⟩
 ·have:=congrArg List.length z
  rw[yaj,List.length_nil]at this;omega
 ·rw[yaQ]at hm
  have hl:=(yj.mp hm).1
  rw[W.nx (j+i) m hm,yaj]
  by_cases e:j+i+1<ms.length
  ·rw[yA e,ybF (by omega),yaQ];rfl
  ·have e1:j+i+1=ms.length:=by omega
   rw[e1,yU (ye _),Nat.sub_self,show i+1=ms.length-j by omega,Nat.mod_self,yaQ,Nat.add_zero,hj];rfl
def zix(K:Fg):Sp:=fun vs H Q _=>∃(n:Int) (a:Addr) (ds:List Due),vs=[.int n,.ref a]/\IsSh K H a ds/\1<=n/\n<=100/\ds.length<=1000/\(∀d∈ds,zA n d)/\∀p H' rs,H p=none->Same H H'->H' p=some (.lst (List.map V.int rs))->RingOf ds n.toNat rs->Q (.ref p) H'
def zm9:=fun {K:Fg} {n:Int} {a:Addr} {ds:List Due} {H:Hp} {Q:VK} {E:XK} h h0 h1 hl hd q=>@id (zix K [.int n,.ref a] H Q E) ⟨n,a,ds,rfl,h,h0,h1,hl,hd,q⟩
theorem znR{ms:List Int}{j:Nat}(h:j<=ms.length):zeE (ms.map V.int) (some (j:Int)) none=(ms.drop j).map V.int:=by
 unfold zeE
 rw[HT.sIx_nat,HT.sIx_none,yc,Nat.min_eq_left h,<- List.map_drop,yar (by rw[yc,yaj];exact ye _)]
def zon(d:Due):Due:=⟨d.q,d.p,d.r,d.a⟩
def zpW(ds:List Due):List Due:=ds.map zon
def zmF(ds:List Due)(S:Nat->Prop):Prop:=∀m,S m->∃d∈ds,d.p=(m:Int)/\0<d.a/\S d.q.toNat
theorem goF_step{ds:List Due}{t m:Nat}:goF ds (t+1) m=true↔∃d∈ds,d.p=(m:Int)/\0<d.a/\goF ds t m=true/\goF ds t d.q.toNat=true:=by
 rw[goF]
 constructor
 ·intro h
  cases e:zaT ds (goF ds t) ds.length m with
  | none=>rw[e]at h;cases h
  | some j=>
   obtain⟨d,hd,u1,u2,u3,u4⟩:=zdw e
   rw[show d.p.toNat=m by omega]at u3
   exact⟨d,yb hd,u1,u2,u3,u4⟩
 ·rintro⟨d,hd,u1,u2,u3,u4⟩
  cases e:zaT ds (goF ds t) ds.length m with
  | some j=>rfl
  | none=>
   obtain⟨k,hk,ek⟩:=yI hd
   exact absurd ⟨u1,u2,by rw[show d.p.toNat=m by omega];exact u3,u4⟩ (ze5 e k d hk (by rw[yi hk,ek]))
theorem zeG{ds:List Due}{S:Nat->Prop}(h:zmF ds S):∀t m,S m->goF ds t m=true
 | 0,_,_=>rfl
 | t+1,m,s=>by
  obtain⟨d,hd,u1,u2,u3⟩:=h m s
  exact goF_step.mpr ⟨d,hd,u1,u2,zeG h t m s,zeG h t _ u3⟩
theorem zpY{ds:List Due}{n m:Nat}(hn:1<=n):zY ds n m≠none↔goF ds n m=true:=by
 obtain⟨t,rfl⟩:∃t,n=t+1:=⟨n-1,by omega⟩
 show _↔(zY ds (t+1) m).isSome=true
 cases zY ds (t+1) m<;>simp
set_option genInjectivity false in
set_option genSizeOf false in
structure Round(ds:List Due)(n:Nat)(ms:List Nat):Prop where
 ne:ms≠[]
 nd:ms.Nodup
 ok:∀m∈ms,m<n/\zY ds n m≠none
 nx:∀(i m:Nat),ms[i]?=some m->zcv ds n m=ms[(i+1)%ms.length]?.getD 0
theorem RingOf.cases{ds:List Due}{n:Nat}{rs:List Int}(h:RingOf ds n rs):(rs=[]/\∀m,m<n->zY ds n m=none)\/∃ms,Round ds n ms/\rs=ms.map (zbt ds n):=by
 rcases h with h | ⟨ms,h1,h2,h3,h4,h5⟩
 ·exact .inl h
 ·exact .inr ⟨ms,⟨h1,h2,h3,h5⟩,h4⟩
theorem Round.back{ds:List Due}{n:Nat}{ms:List Nat}(R:Round ds n ms){m:Nat}(h:m∈ms):∃m'∈ms,zcv ds n m'=m:=by
 obtain⟨i,hi,ei⟩:=yI h
 have ei':ms[i]?=some m:=by rw[yi hi,ei]
 have key:∃j,j<ms.length/\(j+1)%ms.length=i:=by
  by_cases e:i=0
  ·exact⟨ms.length-1,by omega,by rw[show ms.length-1+1=ms.length by omega,Nat.mod_self,e]⟩
  ·exact⟨i-1,by omega,by rw[show i-1+1=i by omega,ybF hi]⟩
 obtain⟨j,hj,ej⟩:=key
 obtain⟨m',hm'⟩:=zC hj
 exact⟨m',yb hm',by rw[R.nx j m' hm',ej,ei'];rfl⟩
theorem Round.closed{ds:List Due}{n:Nat}{ms:List Nat}(hd:∀d∈ds,zA n d)(R:Round ds n ms):zmF (zpW ds) fun m=>m∈ms:=by
 intro m hm
 obtain⟨m',h',e⟩:=R.back hm
 obtain⟨j,d,w1,w2,w3,w4,w5,w6,w7,w8⟩:=zef hd (R.ok m' h').1 (R.ok m' h').2
 refine⟨zon d,yaa.mpr ⟨d,yb w2,rfl⟩,by show d.q=_;rw[w5,e],w4,?_⟩
 show d.p.toNat∈ms
 rwa [show d.p.toNat=m' by omega]
def zic(ds:List Due)(n t:Nat):List Nat:=(List.range n).filter fun m=>goF (zpW ds) t m
def Left(es:List Due)(ls:List Int)(ds:List Due):Prop:=ls.length=es.length/\ds=zr es fun i=>ls.getD i 0
theorem Left.self(ds:List Due):Left ds (ds.map Due.a) ds:=by
 refine⟨yc ..,?_⟩
 unfold zr
 refine y8 fun i=>?_
 rw[List.getElem?_mapIdx]
 cases e:ds[i]? with
 | none=>rfl
 | some d=>
  have:(ds.map Due.a).getD i 0=d.a:=by rw[yg,yf,e];rfl
  show some d=some (⟨d.p,d.q,d.r,(ds.map Due.a).getD i 0⟩:Due)
  rw[this]
open PySem PySem.Spec PyProof.Rows
section
variable {X:Cx}
def zie(K:Fg):List V->Hp->VK->Prop:=fun xs H Q=>∃a ns,xs=[.ref a]/\SqL K H a (List.map V.int ns)/\ns≠[]/\∀x,x∈ns->(∀y∈ns,x<=y)->Q (.int x) H
theorem zlX(hc:X.calm=true):CallR X (.builtin "min") (zie X.K):=by
 intro pins s σ H xs us Q I r h
 obtain⟨a,ns,rfl,hq,hne0,q⟩:=h
 obtain⟨u,rfl,r1⟩:=vals1 r
 cases r1
 obtain⟨its,rv,pl,hl,hlt⟩:=I.walk hq
 refine call_min_walkS (wpAny_pyIter_list pl ?_)
 have hne:a≠s.heap.objs.size:=yr hlt
 have hn:(its.toArray).size=ns.length:=by rw[yc]at hl;simpa using hl
 have hpos:0<ns.length:=ybl.mpr hne0
 refine⟨_,_,_,_,_,_,_,_,rfl,(Walks.list (prog:=X.prog) (w:=X.w) (A:=X.A.in1) (I.ok.hd hc) s.heap.objs.size a hne its.toArray).toS,⟨⟨_,Heap.get?_push_size _ rfl,rfl,rfl⟩,pl.at fun o e=>Heap.get?_push_of_some _ e⟩,fun b hb=>?_,by rw[hn];exact hpos,CmpOf.ints_lt (fun i=>ns.getD i 0) (fun i v hv=>ziQ rv hv),fun v s' hv hm=>?_⟩
 ·rw[Heap.size_push]
  simp only[yz,yas,or_false]at hb
  rcases hb with rfl | rfl
  ·exact yaG _
  ·exact ybb hlt
 ·obtain⟨t,rfl⟩:=ziQ rv hv
  obtain⟨b1,b2⟩:=argBest_lt (fun i=>ns.getD i 0) (its.toArray.size-1)
  rw[hn]at b1 b2 ⊢
  have hg:s'.gens=s.gens:=by have:=hm.gens;first | exact this | exact this.symm
  have hd:=hm.drawn
  have ho:=hm.os
  have I1:Inv X pins σ H { s with heap:=s'.heap,toks:=s'.toks }:=I.kept fun b o e=>hm.heap b o (fun z=>by
   simp only[yz,yas,or_false]at z
   subst z
   exact absurd (Heap.lt_size e) (yQ _)) (Heap.get?_push_of_some _ e)
  have e:({ s with heap:=s'.heap,toks:=s'.toks }:Shared)=s':=by
   cases s';cases s
   simp only at hg hd ho
   subst hg hd ho;rfl
  rw[e]at I1
  refine⟨.int (ns.getD (argBest (fun i j=>decide (ns.getD i 0<ns.getD j 0)) (ns.length-1)) 0),H,I1,⟨t,rfl⟩,q _ ?_ fun y hy=>?_⟩
  ·exact yb (zeM (by omega))
  ·obtain⟨i,hi,ei⟩:=yI hy
   have:=b2 i (by omega)
   rwa [show ns.getD i 0=y by rw[yg,yi hi,ei];rfl]at this
end
theorem zpN{K:Fg}{H:Hp}{Q:VK}{a:Addr}{ns:List Int}(h:SqL K H a (ns.map V.int))(ne:ns≠[])(q:∀x,x∈ns->(∀y∈ns,x<=y)->Q (.int x) H):zie K [.ref a] H Q:=⟨a,ns,rfl,h,ne,q⟩
theorem zm1{K:Fg}{H:Hp}{Q:VK}{a b:Addr}{ns:List Int}(h1:SqL K H a (ns.map V.int))(h2:SqL K H b [])(hne:ns≠[])(q:Q (.bl true) H):zbM K (.ref a) (.ref b) H Q:=by
 refine zh9 (.lst h1 (zce ns)) (.lst h2 .nil) (by rw[zco,zcs];omega) ?_
 cases ns with
 | nil=>exact absurd rfl hne
 | cons n ns=>
  have:PyData.eqv (.list ((n :: ns).map PyData.int)) (.list [])=false:=by simp[PyData.eqv,PyData.eqvAll]
  rw[this];exact q
theorem zbb{es:List Due}{f g:Nat->Int}(h:∀i,i<es.length->f i=g i):zr es f=zr es g:=by
 refine y8 fun i=>?_
 by_cases hi:i<es.length
 ·obtain⟨d,hd⟩:=zC hi
  rw[zba hd,zba hd,h i hi]
 ·rw[yE (by rw[zab];omega),yE (by rw[zab];omega)]
theorem zjx(es:List Due)(g:Nat->Int):Left es (vec es.length g) (zr es g):=by
 refine⟨zaa,zbb fun i hi=>?_⟩
 rw[yg,zay hi];rfl
def amF(es:List Due)(i:Nat):Int:=(es.map Due.a).getD i 0
theorem zkg(es:List Due):es.map Due.a=vec es.length (amF es):=by
 have:=zpX (es.map Due.a)
 rw[yc]at this
 exact this
theorem zdL(es:List Due):zr es (amF es)=es:=(Left.self es).2.symm
theorem zcq{es:List Due}{i:Nat}{d:Due}(h:es[i]?=some d):amF es i=d.a:=by
 unfold amF;rw[yg,yf,h];rfl
theorem ziK{es:List Due}{g:Nat->Int}{i:Nat}(hi:i<es.length):amF (zr es g) i=g i:=by
 obtain⟨d,hd⟩:=zC hi
 exact zcq (zba (m:=g) hd)
theorem zeB{n:Int}{es:List Due}{g:Nat->Int}(hd:∀d∈es,zA n d)(hg:∀i,i<es.length->0<=g i/\g i<=100000000000000):∀d∈zr es g,zA n d:=by
 intro d h
 obtain⟨i,hi,ei⟩:=yI h
 have hi':i<es.length:=by rw[zab]at hi;exact hi
 obtain⟨e,he⟩:=zC hi'
 have h2:=zba (m:=g) he
 rw[yi hi,ei]at h2
 cases h2
 obtain⟨p0,p1,q0,q1,pq,r0,r1,a0,a1⟩:=hd e (yb he)
 exact⟨p0,p1,q0,q1,pq,r0,r1,(hg i hi').1,(hg i hi').2⟩
def zaB(ds:List Due)(n m:Nat):Nat:=(zbt ds n m).toNat
theorem Round.num{es:List Due}{g:Nat->Int}{n:Nat}{ms:List Nat}(hd:∀d∈zr es g,zA n d)(R:Round (zr es g) n ms){m:Nat}(hm:m∈ms) :
  ∃e,es[zaB (zr es g) n m]?=some e/\0<g (zaB (zr es g) n m)/\e.p=(m:Int)/\e.q=(zcv (zr es g) n m:Int)/\zbt (zr es g) n m=(zaB (zr es g) n m:Int):=by
 obtain⟨j,d,w1,w2,w3,w4,w5,w6,w7,w8⟩:=zef hd (R.ok m hm).1 (R.ok m hm).2
 have ej:zaB (zr es g) n m=j:=by unfold zaB;rw[w8];rfl
 have hj:j<es.length:=by have:=(yj.mp w2).1;rwa [zab]at this
 obtain⟨e,he⟩:=zC hj
 rw[zba he]at w2
 cases w2
 rw[ej]
 exact⟨e,he,w4,w3,w5,w8⟩
theorem Round.num_inj{es:List Due}{g:Nat->Int}{n:Nat}{ms:List Nat}(hd:∀d∈zr es g,zA n d)(R:Round (zr es g) n ms){m m':Nat}(hm:m∈ms)(hm':m'∈ms)(e:zaB (zr es g) n m=zaB (zr es g) n m'):m=m':=by
 obtain⟨d,h1,_,h2,_⟩:=R.num hd hm
 obtain⟨d',h1',_,h2',_⟩:=R.num hd hm'
 rw[<- e,h1]at h1'
 cases h1'
 omega
theorem Round.num_new{es:List Due}{g:Nat->Int}{n:Nat}{ms:List Nat}(hd:∀d∈zr es g,zA n d)(R:Round (zr es g) n ms){k x:Nat}(hx:ms[k]?=some x):zaB (zr es g) n x∉(ms.take k).map (zaB (zr es g) n):=by
 intro z
 obtain⟨y,hy,ey⟩:=yaa.mp z
 have hy':=List.mem_of_mem_take hy
 have:=R.num_inj hd hy' (yb hx) ey
 subst this
 obtain⟨u,hu,eu⟩:=yI hy
 rw[ybz]at hu
 rw[List.getElem_take]at eu
 have a1:ms[u]?=some y:=by rw[yi (by omega),eu]
 have:u=k:=zbQ R.nd a1 hx
 omega
def zcU(g:Nat->Int)(js:List Nat)(f:Int)(i:Nat):Int:=if i∈js then g i-f else g i
theorem zhC{g:Nat->Int}{js:List Nat}{f:Int}{j:Nat}(h:j∉js)(i:Nat):zcU g (js++[j]) f i=if i=j then g j-f else zcU g js f i:=by
 unfold zcU
 by_cases e:i=j
 ·subst e;rw[if_pos (by simp),if_pos rfl]
 ·rw[if_neg e]
  by_cases e':i∈js
  ·rw[if_pos (by simp[e']),if_pos e']
  ·rw[if_neg (by simp[e,e']),if_neg e']
theorem zf3{g:Nat->Int}{js:List Nat}{f:Int}{j:Nat}(h:j∉js):zcU g js f j=g j:=if_neg h
set_option genInjectivity false in
set_option genSizeOf false in
structure CutAt(es:List Due)(n:Nat)(g:Nat->Int)(ms:List Nat)(f:Int)(g':Nat->Int):Prop where
 rd:Round (zr es g) n ms
 le:∀m∈ms,f<=g (zaB (zr es g) n m)
 at':∃m∈ms,f=g (zaB (zr es g) n m)
 eq:∀i,g' i=zcU g (ms.map (zaB (zr es g) n)) f i
section
variable {es:List Due}{n:Nat}{g g':Nat->Int}{ms:List Nat}{f:Int}
theorem CutAt.pos(hd:∀d∈zr es g,zA n d)(C:CutAt es n g ms f g'):0<f:=by
 obtain⟨m,hm,e⟩:=C.at'
 obtain⟨_,_,h,_⟩:=C.rd.num hd hm
 omega
theorem CutAt.bnd(hd:∀d∈zr es g,zA n d)(C:CutAt es n g ms f g'){i:Nat}(h0:0<=g i):0<=g' i/\g' i<=g i:=by
 have hp:=C.pos hd
 rw[C.eq i]
 unfold zcU
 by_cases e:i∈ms.map (zaB (zr es g) n)
 ·rw[if_pos e]
  obtain⟨m,hm,rfl⟩:=yaa.mp e
  have:=C.le m hm
  omega
 ·rw[if_neg e];omega
def zcx:Nat->(Nat->Int)->Nat
 | 0,_=>0
 | k+1,g=>zcx k g+if 0<g k then 1 else 0
theorem zi5:∀k g,zcx k g<=k
 | 0,_=>ye _
 | k+1,g=>by have:=zi5 k g;unfold zcx;split<;>omega
theorem zkk:∀k,(∀i,i<k->g' i<=g i)->zcx k g'<=zcx k g
 | 0,_=>ye _
 | k+1,h=>by
  have h1:=zkk k fun i hi=>h i (by omega)
  have h2:=h k (by omega)
  unfold zcx
  split<;>split<;>omega
theorem zj3:∀k,(∀i,i<k->g' i<=g i)->∀j,j<k->0<g j->g' j<=0->zcx k g'<zcx k g
 | 0,_,j,hj,_,_=>absurd hj (by omega)
 | k+1,h,j,hj,h1,h2=>by
  have h4:=h k (by omega)
  by_cases e:j=k
  ·subst e
   have h3:=zkk j fun i hi=>h i (by omega)
   unfold zcx
   rw[if_pos h1,if_neg (by omega)];omega
  ·have h3:=zj3 k (fun i hi=>h i (by omega)) j (by omega) h1 h2
   unfold zcx
   split<;>split<;>omega
theorem CutAt.cnt(hd:∀d∈zr es g,zA n d)(C:CutAt es n g ms f g')(h0:∀i,i<es.length->0<=g i):zcx es.length g'<zcx es.length g:=by
 obtain⟨m,hm,e⟩:=C.at'
 obtain⟨d,h1,h2,_⟩:=C.rd.num hd hm
 have hj:=(yj.mp h1).1
 refine zj3 _ (fun i hi=>(C.bnd hd (h0 i hi)).2) _ hj h2 ?_
 rw[C.eq,zcU,if_pos (yaa.mpr ⟨m,hm,rfl⟩)]
 omega
theorem ziU{es:List Due}{g:Nat->Int}{j:Nat}{e:Due}{v:Int}(he:es[j]?=some e)(m:Nat):∀t,t<=es.length->zdj ((zr es fun i=>if i=j then v else g i).take t) m=zdj ((zr es g).take t) m+if j<t/\e.p=(m:Int)then v-g j else 0
 | 0,_=>by rw[if_neg (by omega)];rfl
 | t+1,ht=>by
  obtain⟨d,hdt⟩:=zC (show t<es.length by omega)
  rw[za9 hdt,za9 hdt,zct,zct,ziU he m t (by omega)]
  show(if d.p=(m:Int)then _+(if t=j then v else g t)else _)=(if d.p=(m:Int)then _+g t else _)+_
  by_cases ej:t=j
  ·subst ej
   rw[he]at hdt;cases hdt
   by_cases ep:e.p=(m:Int)
   ·rw[if_pos ep,if_pos ep,if_pos rfl,if_neg (by omega),if_pos ⟨by omega,ep⟩];omega
   ·rw[if_neg ep,if_neg ep,if_neg (by omega),if_neg (fun z=>ep z.2)]
  ·by_cases ep:d.p=(m:Int)
   ·rw[if_pos ep,if_pos ep,if_neg ej]
    by_cases z:j<t/\e.p=(m:Int)
    ·rw[if_pos z,if_pos ⟨by omega,z.2⟩];omega
    ·rw[if_neg z,if_neg (fun y=>z ⟨by omega,y.2⟩)];omega
   ·rw[if_neg ep,if_neg ep]
    by_cases z:j<t/\e.p=(m:Int)
    ·rw[if_pos z,if_pos ⟨by omega,z.2⟩]
    ·rw[if_neg z,if_neg (fun y=>z ⟨by omega,y.2⟩)]
theorem zgq{es:List Due}{g:Nat->Int}{j:Nat}{e:Due}{v:Int}(he:es[j]?=some e)(m:Nat):∀t,t<=es.length->zb8 ((zr es fun i=>if i=j then v else g i).take t) m=zb8 ((zr es g).take t) m+if j<t/\e.q=(m:Int)then v-g j else 0
 | 0,_=>by rw[if_neg (by omega)];rfl
 | t+1,ht=>by
  obtain⟨d,hdt⟩:=zC (show t<es.length by omega)
  rw[za9 hdt,za9 hdt,zbN,zbN,zgq he m t (by omega)]
  show(if d.q=(m:Int)then _+(if t=j then v else g t)else _)=(if d.q=(m:Int)then _+g t else _)+_
  by_cases ej:t=j
  ·subst ej
   rw[he]at hdt;cases hdt
   by_cases ep:e.q=(m:Int)
   ·rw[if_pos ep,if_pos ep,if_pos rfl,if_neg (by omega),if_pos ⟨by omega,ep⟩];omega
   ·rw[if_neg ep,if_neg ep,if_neg (by omega),if_neg (fun z=>ep z.2)]
  ·by_cases ep:d.q=(m:Int)
   ·rw[if_pos ep,if_pos ep,if_neg ej]
    by_cases z:j<t/\e.q=(m:Int)
    ·rw[if_pos z,if_pos ⟨by omega,z.2⟩];omega
    ·rw[if_neg z,if_neg (fun y=>z ⟨by omega,y.2⟩)];omega
   ·rw[if_neg ep,if_neg ep]
    by_cases z:j<t/\e.q=(m:Int)
    ·rw[if_pos z,if_pos ⟨by omega,z.2⟩]
    ·rw[if_neg z,if_neg (fun y=>z ⟨by omega,y.2⟩)]
theorem zmH{es:List Due}{g:Nat->Int}{j:Nat}{e:Due}{v:Int}(he:es[j]?=some e)(m:Nat):za1 (zr es fun i=>if i=j then v else g i) m=za1 (zr es g) m+(if e.q=(m:Int)then v-g j else 0)-(if e.p=(m:Int)then v-g j else 0):=by
 have hj:=(yj.mp he).1
 have h1:=ziU (g:=g) (v:=v) he m es.length (ye _)
 have h2:=zgq (g:=g) (v:=v) he m es.length (ye _)
 have l1:∀g:Nat->Int,(zr es g).take es.length=zr es g:=fun g=>yar (by rw[zab];exact ye _)
 rw[l1,l1]at h1 h2
 unfold za1
 rw[h1,h2]
 by_cases a:e.q=(m:Int)
 ·rw[if_pos a,if_pos ⟨hj,a⟩]
  by_cases b:e.p=(m:Int)
  ·rw[if_pos b,if_pos ⟨hj,b⟩];omega
  ·rw[if_neg b,if_neg fun z=>b z.2];omega
 ·rw[if_neg a,if_neg fun z=>a z.2]
  by_cases b:e.p=(m:Int)
  ·rw[if_pos b,if_pos ⟨hj,b⟩];omega
  ·rw[if_neg b,if_neg fun z=>b z.2];omega
theorem zhI(hd:∀d∈zr es g,zA n d)(R:Round (zr es g) n ms)(f:Int)(m:Nat){m0:Nat}(h0:ms[0]?=some m0):∀k,1<=k->k<=ms.length ->
  za1 (zr es (zcU g ((ms.take k).map (zaB (zr es g) n)) f)) m=za1 (zr es g) m+(if m0=m then f else 0)-(if ms[k%ms.length]?.getD 0=m then f else 0)
 | 0,h,_=>absurd h (by omega)
 | k+1,_,hk=>by
  obtain⟨x,hx⟩:=zC (show k<ms.length by omega)
  obtain⟨e,e1,e2,e3,e4,e5⟩:=R.num hd (yb hx)
  have hnx:=R.nx k x hx
  have hnot:=R.num_new hd hx
  have hw:zr es (zcU g ((ms.take (k+1)).map (zaB (zr es g) n)) f)=zr es (fun i=>if i=zaB (zr es g) n x then g (zaB (zr es g) n x)-f else zcU g ((ms.take k).map (zaB (zr es g) n)) f i):=by
   rw[zam hx,yl]
   exact zbb fun i _=>zhC hnot i
  rw[hw,zmH e1,zf3 hnot,e3,e4,hnx]
  have last:(if(x:Int)=(m:Int)then g (zaB (zr es g) n x)-f-g (zaB (zr es g) n x)else 0)=(if x=m then -f else 0):=by
   by_cases a:x=m
   ·subst a;rw[if_pos rfl,if_pos rfl];omega
   ·rw[if_neg a,if_neg (by omega)]
  have next:(if((ms[(k+1)%ms.length]?.getD 0:Nat):Int)=(m:Int)then g (zaB (zr es g) n x)-f-g (zaB (zr es g) n x)else 0)=(if ms[(k+1)%ms.length]?.getD 0=m then -f else 0):=by
   by_cases a:ms[(k+1)%ms.length]?.getD 0=m
   ·rw[if_pos a,if_pos (by omega)];omega
   ·rw[if_neg a,if_neg (by omega)]
  rw[last,next]
  by_cases ek:k=0
  ·subst ek
   rw[h0]at hx;cases hx
   have:zr es (zcU g ((ms.take 0).map (zaB (zr es g) n)) f)=zr es g:=zbb fun i _=>if_neg (by simp)
   rw[this]
   split<;>split<;>omega
  ·rw[zhI hd R f m h0 k (by omega) (by omega),ybF (show k<ms.length by omega),hx]
   show _+_-(if x=m then f else 0)+_-_=_
   split<;>split<;>split<;>omega
theorem CutAt.nets(hd:∀d∈zr es g,zA n d)(C:CutAt es n g ms f g')(m:Nat):za1 (zr es g') m=za1 (zr es g) m:=by
 have hl:0<ms.length:=ybl.mpr C.rd.ne
 obtain⟨m0,h0⟩:=zC hl
 have:=zhI hd C.rd f m h0 ms.length hl (ye _)
 rw[yF,Nat.mod_self,h0]at this
 rw[zbb (f:=g') fun i _=>C.eq i,this]
 show _+_-(if m0=m then f else 0)=_
 omega
end
def Cuts(es:List Due)(n:Nat)(L:Nat->Nat->Int)(cs:List (List Nat × Int)):Prop:=∀(t:Nat) (c:List Nat × Int),cs[t]?=some c->CutAt es n (L t) c.1 c.2 (L (t+1))
section
variable {es:List Due}{n:Nat}{L:Nat->Nat->Int}{cs:List (List Nat × Int)}
theorem Cuts.bnd(hd:∀d∈es,zA n d)(C:Cuts es n L cs)(h0:∀i,i<es.length->L 0 i=amF es i):∀t,t<=cs.length->∀i,i<es.length->0<=L t i/\L t i<=amF es i
 | 0,_,i,hi=>by
  obtain⟨e,he⟩:=zC hi
  obtain⟨_,_,_,_,_,_,_,a0,_⟩:=hd e (yb he)
  rw[h0 i hi,zcq he];omega
 | t+1,ht,i,hi=>by
  have h1:=C.bnd hd h0 t (by omega) i hi
  obtain⟨c,hc⟩:=zC (show t<cs.length by omega)
  have h2:=(C t c hc).bnd (zeB hd fun i hi=>by
   have:=C.bnd hd h0 t (by omega) i hi
   obtain⟨e,he⟩:=zC hi
   obtain⟨_,_,_,_,_,_,_,a0,a1⟩:=hd e (yb he)
   rw[zcq he]at this;omega) h1.1
  omega
theorem Cuts.ok(hd:∀d∈es,zA n d)(C:Cuts es n L cs)(h0:∀i,i<es.length->L 0 i=amF es i){t:Nat}(ht:t<=cs.length):∀d∈zr es (L t),zA n d:=
 zeB hd fun i hi=>by
  have:=C.bnd hd h0 t ht i hi
  obtain⟨e,he⟩:=zC hi
  obtain⟨_,_,_,_,_,_,_,a0,a1⟩:=hd e (yb he)
  rw[zcq he]at this;omega
theorem Cuts.nets(hd:∀d∈es,zA n d)(C:Cuts es n L cs)(h0:∀i,i<es.length->L 0 i=amF es i)(m:Nat):∀t,t<=cs.length->za1 (zr es (L t)) m=za1 es m
 | 0,_=>by rw[zbb h0,zdL]
 | t+1,ht=>by
  obtain⟨c,hc⟩:=zC (show t<cs.length by omega)
  rw[(C t c hc).nets (C.ok hd h0 (by omega)),C.nets hd h0 m t (by omega)]
theorem Cuts.snoc{ms:List Nat}{f:Int}{g':Nat->Int}(C:Cuts es n L cs)(c:CutAt es n (L cs.length) ms f g'):Cuts es n (fun t=>if t=cs.length+1 then g' else L t) (cs++[(ms,f)]):=by
 intro t d hd
 rw[yaY]at hd
 split at hd
 ·rename_i ht
  show CutAt es n (if t=cs.length+1 then g' else L t) d.1 d.2 (if t+1=cs.length+1 then g' else L (t+1))
  rw[if_neg (by omega),if_neg (by omega)]
  exact C t d hd
 ·rename_i ht
  have e0:t-cs.length=0:=by
   cases e:t-cs.length with
   | zero=>rfl
   | succ k=>rw[e]at hd;cases hd
  rw[e0]at hd;cases hd
  obtain rfl:t=cs.length:=by omega
  show CutAt es n (if cs.length=cs.length+1 then g' else L cs.length) ms f (if cs.length+1=cs.length+1 then g' else L (cs.length+1))
  rw[if_neg (by omega),if_pos rfl]
  exact c
end
def IsCuts(es:List Due)(n:Nat)(L:Nat->Nat->Int)(bad:List Addr)(cs:List (List Nat × Int))(H:Hp)(vs:List V):Prop:=
 vs.length=cs.length/\∀(t:Nat) (c:List Nat × Int),cs[t]?=some c->∃(b r:Addr),vs[t]?=some (V.ref b)/\H b=some (HO.tup [.ref r,.int c.2])/\H r=some (.lst ((c.1.map (zbt (zr es (L t)) n)).map V.int))/\r∉bad
section
variable {es:List Due}{n:Nat}{L L':Nat->Nat->Int}{cs:List (List Nat × Int)}{bad:List Addr}{H H':Hp}{vs:List V}
theorem IsCuts.same(h:IsCuts es n L bad cs H vs)(e:Same H H'):IsCuts es n L bad cs H' vs:=
 ⟨h.1,fun t c hc=>by obtain⟨b,r,h1,h2,h3,h4⟩:=h.2 t c hc;exact⟨b,r,h1,e.at h2,e.at h3,h4⟩⟩
theorem IsCuts.but{a:Addr}(h:IsCuts es n L bad cs H vs)(g:LBut a H H')(ha:a∈bad):IsCuts es n L bad cs H' vs:=
 ⟨h.1,fun t c hc=>by obtain⟨b,r,h1,h2,h3,h4⟩:=h.2 t c hc;exact⟨b,r,h1,g.tup h2,g.lst h3 (fun z=>h4 (z▸ha)),h4⟩⟩
theorem IsCuts.congr(h:IsCuts es n L bad cs H vs)(e:∀t,t<cs.length->L t=L' t):IsCuts es n L' bad cs H vs:=
 ⟨h.1,fun t c hc=>by
  obtain⟨b,r,h1,h2,h3,h4⟩:=h.2 t c hc
  rw[e t (yj.mp hc).1]at h3
  exact⟨b,r,h1,h2,h3,h4⟩⟩
theorem IsCuts.snoc{b r:Addr}{ms:List Nat}{f:Int}(h:IsCuts es n L bad cs H vs)(hb:H b=some (.tup [.ref r,.int f]))(hr:H r=some (.lst ((ms.map (zbt (zr es (L cs.length)) n)).map V.int)))(hn:r∉bad):IsCuts es n L bad (cs++[(ms,f)]) H (vs++[.ref b]):=by
 refine⟨by rw[ya,ya,h.1];rfl,fun t c hc=>?_⟩
 rw[yaY]at hc
 split at hc
 ·rename_i ht
  obtain⟨b',r',h1,h2,h3,h4⟩:=h.2 t c hc
  exact⟨b',r',by rw[yA (by rw[h.1];exact ht)];exact h1,h2,h3,h4⟩
 ·rename_i ht
  have e0:t-cs.length=0:=by
   cases e:t-cs.length with
   | zero=>rfl
   | succ k=>rw[e]at hc;cases hc
  rw[e0]at hc;cases hc
  obtain rfl:t=cs.length:=by omega
  exact⟨b,r,by rw[yU (by rw[h.1];exact ye _),h.1,Nat.sub_self];rfl,hb,hr,hn⟩
end
theorem Round.rest{ds:List Due}{n:Nat}{ms:List Nat}(hd:∀d∈ds,zA n d)(R:Round ds n ms):zic ds n n≠[]:=by
 intro e
 obtain⟨x,hx⟩:=List.exists_mem_of_ne_nil _ R.ne
 have g:=zeG (R.closed hd) n x hx
 have:x∈zic ds n n:=yam.mpr ⟨yN.mpr (R.ok x hx).1,g⟩
 rw[e]at this;cases this
theorem Cuts.none{es:List Due}{n:Nat}{L:Nat->Nat->Int}{cs:List (List Nat × Int)}(hd:∀d∈es,zA n d)(C:Cuts es n L cs)(h0:∀i,i<es.length->L 0 i=amF es i)(h:zic es n n=[]):cs=[]:=by
 cases cs with
 | nil=>rfl
 | cons c cs=>
  have:=(C 0 c rfl).rd
  rw[zbb h0,zdL]at this
  exact absurd h (this.rest hd)
def zmB(es:List Due)(n:Int)(a l c:Addr)(H:Hp)(q:Nat)(σ:St)(H':Hp):Prop:=∃(r:Addr) (rs:List Int) (vs:List V) (L:Nat->Nat->Int) (cs:List (List Nat × Int)) (f5 f6:Option V),σ=[some (.int n),some (.ref a),some (.ref l),some (.ref c),some (.ref r),f5,f6]/\H' l=some (.lst ((vec es.length (L cs.length)).map V.int))/\H' c=some (.lst vs)/\H' r=some (.lst (rs.map V.int))/\r∉[l,c]/\IsCuts es n.toNat L [l,c] cs H' vs/\Cuts es n.toNat L cs/\(∀i,i<es.length->L 0 i=amF es i)/\RingOf (zr es (L cs.length)) n.toNat rs/\cs.length+zcx es.length (L cs.length)<=es.length/\Same H H'/\q=zcx es.length (L cs.length)
def zkL(K:Fg):Sp:=fun vs H Q _=>∃(n:Int) (a:Addr) (es:List Due),vs=[.int n,.ref a]/\IsSh K H a es/\1<=n/\n<=100/\es.length<=1000/\(∀d∈es,zA n d) /\
 ∀p l c H' vs L cs,H p=none->H l=none->H c=none->Same H H'->H' p=some (.tup [.ref l,.ref c])->H' l=some (.lst ((vec es.length (L cs.length)).map V.int))->H' c=some (.lst vs)->IsCuts es n.toNat L [l,c] cs H' vs->Cuts es n.toNat L cs->(∀i,i<es.length->L 0 i=amF es i)->RingOf (zr es (L cs.length)) n.toNat []->cs.length<=es.length->Q (.ref p) H'
def zjZ:=fun {K:Fg} {n:Int} {a:Addr} {es:List Due} {H:Hp} {Q:VK} {E:XK} h h0 h1 hl hd q=>@id (zkL K [.int n,.ref a] H Q E) ⟨n,a,es,rfl,h,h0,h1,hl,hd,q⟩
open PySem PySem.Spec PyProof.Rows Dt
set_option genInjectivity false in
set_option genSizeOf false in
structure Gr(n:Nat)(ds:List Due)(ps:List Int)(qs:List Rat):Prop where
 len:qs.length=n
 nn:∀q∈qs,0<=q
 fix:∀m,m<n->qs.getD m 0=zoc ds ps qs m
 top:∀s:List Rat,s.length=n->(∀q∈s,0<=q)->(∀m,m<n->s.getD m 0<=zoc ds ps s m)->LeL s qs
section
variable {n:Nat}{ds:List Due}{g:Nat->Int}{ps:List Int}{qs qs':List Rat}{full:Nat->Bool}
set_option genInjectivity false in
set_option genSizeOf false in
structure SafeC(n:Nat)(ds:List Due)(full:Nat->Bool)(g:Nat->Int):Prop where
 bd:∀i,i<ds.length->0<=g i/\g i<=amF ds i
 off:∀i d,ds[i]?=some d->(full d.p.toNat=false\/full d.q.toNat=false)->g i=d.a
 net:∀m,m<n->za1 (zr ds g) m=za1 ds m
theorem zmN{d:Due}{i:Nat}(hi:ds[i]?=some d):(⟨d.p,d.q,d.r,g i⟩:Due)∈zr ds g:=yb (zba hi)
abbrev zrI(n:Nat)(ds':List Due)(full:Nat->Bool)(qs:List Rat):List Rat:=(List.range n).map fun m=>if full m=true then zky ds' m else qs.getD m 0
end
def zgj(ds:List Due)(l:Nat->Rat)(m:Nat):Bool:=(stp ds l m).isNone
section
variable {n:Nat}{ds:List Due}{ps:List Int}{W P:Rat}{k:Nat}
end
section
variable {X:Cx}
end
section
variable {n:Nat}{ds:List Due}{ps:List Int}{W P:Rat}{k:Nat}
end
theorem zhL{ds:List Due}{f g:Nat->Int}:zr (zr ds f) g=zr ds g:=by
 refine y8 fun i=>?_
 cases e:ds[i]? with
 | none=>
  have:=yau.mp e
  rw[yE (by rw[zab,zab];omega),yE (by rw[zab];omega)]
 | some d=>rw[zba (zba e),zba e]
theorem zja{ds:List Due}{x y z:Nat->Int}(h:∀i,i<ds.length->z i=x i+y i)(m:Nat):za1 (zr ds z) m=za1 (zr ds x) m+za1 (zr ds y) m:=by
 have key:∀t,t<=ds.length->zb8 ((zr ds z).take t) m=zb8 ((zr ds x).take t) m+zb8 ((zr ds y).take t) m/\zdj ((zr ds z).take t) m=zdj ((zr ds x).take t) m+zdj ((zr ds y).take t) m:=by
  intro t
  induction t with
  | zero=>intro _;exact⟨rfl,rfl⟩
  | succ t ih=>
   intro ht
   obtain⟨d,hd⟩:=zC (show t<ds.length by omega)
   obtain⟨h1,h2⟩:=ih (by omega)
   have hz:=h t (by omega)
   rw[za9 hd,za9 hd,za9 hd,zbN,zbN,zbN,zct,zct,zct,h1,h2]
   dsimp only
   rw[hz]
   constructor
   ·split<;>omega
   ·split<;>omega
 obtain⟨h1,h2⟩:=key ds.length (ye _)
 rw[yar (by rw[zab];exact ye _),yar (by rw[zab];exact ye _),yar (by rw[zab];exact ye _)]at h1 h2
 unfold za1
 omega
def za8(ds:List Due)(full:Nat->Bool)(i:Nat):Bool:=match ds[i]? with
 | some d=>full d.p.toNat&&full d.q.toNat
 | none=>false
def zaN(ds:List Due)(full:Nat->Bool)(g:Nat->Int)(i:Nat):Int:=if za8 ds full i=true then g i else 0
section
variable {n:Nat}{ds:List Due}{full:Nat->Bool}{L:Nat->Nat->Int}{cs:List (List Nat × Int)}{g:Nat->Int}
theorem zd8{i:Nat}{d:Due}(h:ds[i]?=some d):za8 ds full i=(full d.p.toNat&&full d.q.toNat):=by unfold za8;rw[h]
def zcR(ds:List Due)(full:Nat->Bool)(g:Nat->Int)(i:Nat):Int:=if za8 ds full i=true then g i else amF ds i
theorem zmD(hd:∀d∈ds,zA n d){i:Nat}(hi:i<ds.length):0<=amF ds i/\amF ds i<=100000000000000:=by
 obtain⟨d,he⟩:=zC hi
 obtain⟨_,_,_,_,_,_,_,a0,a1⟩:=hd d (yb he)
 rw[zcq he];omega
theorem zd7(hd:∀d∈ds,zA n d):∀d∈zr ds (zaN ds full (amF ds)),zA n d:=zeB hd fun i hi=>by
 have:=zmD hd hi
 unfold zaN
 split<;>omega
theorem zoS(hd:∀d∈ds,zA n d)(C:Cuts (zr ds (zaN ds full (amF ds))) n L cs)(h0:∀i,i<(zr ds (zaN ds full (amF ds))).length->L 0 i=amF (zr ds (zaN ds full (amF ds))) i):SafeC n ds full (zcR ds full (L cs.length))/\∀i,i<ds.length->zaN ds full (zcR ds full (L cs.length)) i=L cs.length i:=by
 have hb:=C.bnd (zd7 hd) h0 cs.length (ye _)
 have hb':∀i,i<ds.length->0<=L cs.length i/\L cs.length i<=zaN ds full (amF ds) i:=fun i hi=>by
  have:=hb i (by rw[zab];exact hi)
  rwa [ziK hi]at this
 have off:∀i,i<ds.length->za8 ds full i≠true->L cs.length i=0:=fun i hi z=>by
  have:=hb' i hi
  unfold zaN at this
  rw[if_neg z]at this
  omega
 refine⟨⟨fun i hi=>?_,fun i d hi z=>?_,fun m hm=>?_⟩,fun i hi=>?_⟩
 ·have h1:=hb' i hi
  have h2:=zmD hd hi
  unfold zcR
  unfold zaN at h1
  split
  ·rename_i z;rw[if_pos z]at h1;exact h1
  ·omega
 ·unfold zcR
  rw[zd8 hi,if_neg (by rcases z with z | z<;>simp[z]),zcq hi]
 ·have h1:=C.nets (zd7 hd) h0 m cs.length (ye _)
  rw[zhL]at h1
  have e1:=zja (ds:=ds) (x:=L cs.length) (y:=fun i=>if za8 ds full i=true then 0 else amF ds i) (z:=zcR ds full (L cs.length)) (fun i hi=>by
   unfold zcR
   by_cases z:za8 ds full i=true
   ·simp[z]
   ·have:=off i hi z
    simp[z,this]) m
  have e2:=zja (ds:=ds) (x:=zaN ds full (amF ds)) (y:=fun i=>if za8 ds full i=true then 0 else amF ds i) (z:=amF ds) (fun i hi=>by
   unfold zaN
   by_cases z:za8 ds full i=true<;>simp[z]) m
  rw[zdL]at e2
  rw[e1,e2,h1]
 ·unfold zaN zcR
  by_cases z:za8 ds full i=true
  ·simp[z]
  ·have:=off i hi z
   simp[z,this]
end
def zml(K:Fg):Sp:=fun vs H Q _=>∃(a u:Addr) (n:Nat) (ds:List Due) (ps:List Int) (W P:Rat),vs=[.ref a,.ref u]/\IsSh K H a ds/\H u=some (.lst (ps.map V.int))/\Clr n ds ps W P/\1<=n /\
 ∀p H' g k,H p=none->Same H H'->H' p=some (.lst ((vec ds.length g).map V.int))->SafeC n ds (zgj ds (cst n ds (pQ ps) k).1) g->RingOf (zr ds (zaN ds (zgj ds (cst n ds (pQ ps) k).1) g)) n []->(zic (zr ds (zaN ds (zgj ds (cst n ds (pQ ps) k).1) (amF ds))) n n=[]->∀i,i<ds.length->g i=amF ds i)->zc8 n ds (cst n ds (pQ ps) k).1 (cst n ds (pQ ps) k).2->(∀j,j<k->¬zc8 n ds (cst n ds (pQ ps) j).1 (cst n ds (pQ ps) j).2)->COk n ds (pQ ps) (prodN (fun _=>W) n*P*W) k (cst n ds (pQ ps) k).1 (cst n ds (pQ ps) k).2->Q (.ref p) H'
def zm3:=fun {K:Fg} {a u:Addr} {n:Nat} {ds:List Due} {ps:List Int} {W P:Rat} {H:Hp} {Q:VK} {E:XK} h hu C n1 q=>@id (zml K [.ref a,.ref u] H Q E) ⟨a,u,n,ds,ps,W,P,rfl,h,hu,C,n1,q⟩
theorem ziC{ds:List Due}{ms:List Int}{g:Nat->Int}(h:ms=vec ds.length g):zr ds (fun i=>ms.getD i 0)=zr ds g:=zbb fun i hi=>by
 rw[h,yg,zay hi];rfl
def ziT(d:Due):List V:=[.int d.p,.int d.q]
def zcE(es:List Due)(rs:List Int)(m:Int):Bool:=es.any fun d=>decide (d.p=m/\d.q∈rs)
theorem paysF_iff{es:List Due}{rs:List Int}{m:Int}:zcE es rs m=true↔∃d∈es,d.p=m/\d.q∈rs:=by unfold zcE;simp
def zbB(ds:List Due)(n t:Nat):List Nat:=(List.range n).filter fun m=>goF ds t m
theorem zmG{ds:List Due}{n:Nat}:zaz (zbB ds n 0)=vec n fun i=>(i:Int):=by
 unfold zbB zaz
 rw[show(fun m=>goF ds 0 m)=fun _=>true from rfl,List.filter_eq_self.mpr (fun a _=>rfl)]
 rfl
theorem zph{ds:List Due}{n t:Nat}:(zbB ds n t).length<=n:=by
 unfold zbB
 have:=ybh (fun m=>goF ds t m) (List.range n)
 rwa [yy]at this
theorem znK{ds:List Due}{n t:Nat}(hd:∀d∈ds,zA n d/\0<d.a):zbB ds n (t+1)=(zbB ds n t).filter fun m:Nat=>zcE ds (zaz (zbB ds n t)) (m:Int):=by
 unfold zbB
 rw[List.filter_filter]
 refine List.filter_congr fun m hm=>?_
 have hm':=yN.mp hm
 rw[ya4,goF_step,y3,paysF_iff]
 constructor
 ·rintro⟨d,h1,h2,h3,h4,h5⟩
  obtain⟨⟨p0,p1,q0,q1,_⟩,_⟩:=hd d h1
  refine⟨⟨d,h1,h2,?_⟩,h4⟩
  unfold zaz
  refine yaa.mpr ⟨d.q.toNat,yam.mpr ⟨yN.mpr (by omega),h5⟩,by omega⟩
 ·rintro⟨⟨d,h1,h2,h3⟩,h4⟩
  unfold zaz at h3
  obtain⟨j,hj,ej⟩:=yaa.mp h3
  have:=(yam.mp hj).2
  refine⟨d,h1,h2,(hd d h1).2,h4,?_⟩
  rw[show d.q.toNat=j by omega];exact this
theorem zjf{es ds:List Due}(h:∀d∈es,∃e∈ds,e.p=d.p/\e.q=d.q/\0<e.a):∀(t m:Nat),goF es t m=true->goF ds t m=true
 | 0,_,_=>rfl
 | t+1,m,g=>by
  obtain⟨d,h1,h2,h3,h4,h5⟩:=goF_step.mp g
  obtain⟨e,e1,e2,e3,e4⟩:=h d h1
  exact goF_step.mpr ⟨e,e1,by rw[e2];exact h2,e4,zjf h t m h4,by rw[e3];exact zjf h t _ h5⟩
theorem znm{es ds:List Due}{n:Nat}(n1:1<=n)(h:∀d∈es,∃e∈ds,e.p=d.p/\e.q=d.q/\0<e.a)(R:RingOf ds n []):zbB es n n=[]:=by
 have hno:∀m,m<n->zY ds n m=none:=by
  rcases R.cases with h | ⟨ms,R,e⟩
  ·exact h.2
  ·exact absurd (ya3.mp e.symm) R.ne
 unfold zbB
 refine List.filter_eq_nil_iff.mpr fun m hm z=>?_
 exact(zpY n1).mpr (zjf h n m z) (hno m (yN.mp hm))
def ze9(K:Fg):Sp:=fun vs H Q _=>∃(m:Int) (r a:Addr) (rs:List Int) (xs:List V) (es:List Due),vs=[.int m,.ref r,.ref a]/\H r=some (.lst (rs.map V.int))/\H a=some (.lst xs)/\IsTs ziT H xs es/\Q (.bl (zcE es rs m)) H
def zjP:=fun {K:Fg} {m:Int} {r a:Addr} {rs:List Int} {xs:List V} {es:List Due} {H:Hp} {Q:VK} {E:XK} h1 h2 h3 q=>@id (ze9 K [.int m,.ref r,.ref a] H Q E) ⟨m,r,a,rs,xs,es,rfl,h1,h2,h3,q⟩
def zfH(K:Fg):Sp:=fun vs H Q _=>∃(n:Int) (a:Addr) (xs:List V) (es:List Due),vs=[.int n,.ref a]/\H a=some (.lst xs)/\IsTs ziT H xs es/\1<=n/\n<=100/\(∀d∈es,zA n d/\0<d.a)/\zbB es n.toNat n.toNat=[]/\∀H',Same H H'->Q (.bl true) H'
def zhP:=fun {K:Fg} {n:Int} {a:Addr} {xs:List V} {es:List Due} {H:Hp} {Q:VK} {E:XK} h2 h3 n0 n1 hd hf q=>@id (zfH K [.int n,.ref a] H Q E) ⟨n,a,xs,es,rfl,h2,h3,n0,n1,hd,hf,q⟩
def zgY(K:Fg):Sp:=fun vs H Q _=>∃(n:Int) (a l:Addr) (ds:List Due) (ms:List Int),vs=[.ref a,.ref l,.int n]/\IsSh K H a ds/\H l=some (.lst (ms.map V.int))/\ds.length<=ms.length/\ds.length<=64/\0<=n/\n<=1000/\(∀d∈ds,zA n d)/\∀p H',H p=none->Same H H'->H' p=some (.lst ((vec n.toNat (za1 (zr ds fun i=>ms.getD i 0))).map V.int))->Q (.ref p) H'
def zfg:=fun {K:Fg} {n:Int} {a l:Addr} {ds:List Due} {ms:List Int} {H:Hp} {Q:VK} {E:XK} h hl hm h64 n0 n1 hd q=>@id (zgY K [.ref a,.ref l,.int n] H Q E) ⟨n,a,l,ds,ms,rfl,h,hl,hm,h64,n0,n1,hd,q⟩
def zj9(K:Fg):Sp:=fun vs H Q _=>∃(a l b:Addr) (n:Nat) (ds:List Due) (ρ:Nat->Option Nat) (g:Nat->Int),vs=[.ref a,.ref l,.ref b]/\IsSh K H a ds/\H l=some (.lst ((vec ds.length g).map V.int))/\H b=some (.lst (zP n ρ))/\ds.length<=64/\(∀d∈ds,zA n d)/\SafeC n ds (fun m=>(ρ m).isNone) g/\Q (.bl true) H
def zmq:=fun {K:Fg} {a l b:Addr} {n:Nat} {ds:List Due} {ρ:Nat->Option Nat} {g:Nat->Int} {H:Hp} {Q:VK} {E:XK} h hl hb h64 hd S q=>@id (zj9 K [.ref a,.ref l,.ref b] H Q E) ⟨a,l,b,n,ds,ρ,g,rfl,h,hl,hb,h64,hd,S,q⟩
end Internal
namespace Internal.K
open PySem Internal
local macro_rules | `(tactic| walk_at "z")=>`(tactic| first
 | assumption
 | exact sz200 (by omega) (by omega)
 | ((with_reducible apply zdT);(focus walk_at "z");walk_at "z")
 | exact szL (by decide) (by omega) (by omega)
 | ((with_reducible apply yh (m:=_));(focus assumption);omega))
local macro_rules | `(tactic| walk_at "h")=>`(tactic| first
 | assumption
 | (with_reducible exact Same.refl _)
 | ((with_reducible apply Same.isQ);(focus assumption);walk_at "h")
 | ((with_reducible apply LBut.isQ);(focus assumption);walk_at "h")
 | ((with_reducible apply IsQs.same);(focus assumption);walk_at "h")
 | ((with_reducible apply LBut.isQs);(focus assumption);walk_at "h")
 | ((with_reducible apply Same.at);(focus assumption);walk_at "h")
 | ((with_reducible apply LBut.tup);(focus assumption);walk_at "h")
 | ((with_reducible apply LBut.lst);(focus assumption);(focus walk_at "h");walk_at "h")
 | ((with_reducible apply SqL.keep);(focus (show SqL _ _ _ _;assumption));walk_at "h")
 | ((with_reducible apply SqL.of);walk_at "h")
 | ((with_reducible apply Same.after);(focus assumption);walk_at "h")
 | ((with_reducible apply LBut.same);(focus assumption);(focus walk_at "h");walk_at "h")
 | ((with_reducible apply Same.none);(focus assumption);walk_at "h")
 | ((with_reducible apply Same.isTs);(focus assumption);walk_at "h")
 | ((with_reducible apply LBut.isTs);(focus assumption);walk_at "h")
 | ((with_reducible apply Same.isSh);(focus assumption);walk_at "h")
 | ((with_reducible apply IsSh.of);(focus walk_at "h");walk_at "h")
 | ((with_reducible apply zpr);(focus assumption);walk_at "h")
 | ((with_reducible apply zem);(focus assumption);walk_at "h"))
local macro_rules | `(tactic| walk_at "x1")=>`(tactic| first
 | ((with_reducible apply zq4);(focus (exact rfl)))
 | (with_reducible (first
   | apply zru
   | apply zqb
   | apply zoa
   | apply zqH
   | apply zq7
   | apply zrn
   | apply zq0
   | apply zqi
   | apply zqZ
   | apply zpD
   | apply zpx
   | apply zpp
   | apply zgn
   | apply zik
   | apply zpj
   | apply zoF))
 | (with_reducible refine zqn (by assumption) ?_)
 | (with_reducible refine zqf (by assumption) ?_)
 | (with_reducible refine zqJ (fun _=>?_) (fun _=>?_))
 | (with_reducible refine zqy (fun _=>?_) (fun _=>?_))
 | (with_reducible refine zpt (fun _=>?_) (fun _=>?_))
 | (with_reducible refine zpJ (fun _=>?_) (fun _=>?_))
 | (with_reducible (first
   | apply zqL
   | apply zq5))
 | ((with_reducible show rIx _ (V.ref _) (V.int _) _ _);first
   | refine zl9 (by assumption) (by rfl) ?_
   | refine zj5 (by assumption) (by omega) (by omega) ?_
   | refine zoK (by assumption) (by omega) (by assumption) ?_
   | refine zl9 (by walk_at "h") (by rfl) ?_
   | refine zj5 (by walk_at "h") (by omega) (by omega) ?_
   | refine zgf (by walk_at "h") (by assumption) ?_
   | refine zlc (by walk_at "h") (by assumption) ?_
   | refine zgf (by walk_at "h") (by rfl) ?_)
 | ((with_reducible show zcX _ [V.int _,_] _ _);refine zh8 ?_)
 | ((with_reducible show zcX _ [V.bl _,_] _ _);refine zh8 ?_)
 | (with_reducible (first
   | apply zqj
   | apply zpP))
 | ((with_reducible show zcX _ [V.ref _,V.ty "tuple"] _ _);refine zh8 ?_;first | refine IsQ.isT (by walk_at "h") ?_ | refine zmv (by walk_at "h") ?_ | refine x_isLT (by walk_at "h") ?_)
 | ((with_reducible show zcX _ [V.ref _,V.ty "list"] _ _);refine zh8 ?_;first | refine zqz (by walk_at "h") ?_ | refine x_isTL (by walk_at "h") ?_)
 | ((with_reducible show zfd _ [] _);refine zdo (by first | decide | simp) (fun _ _ _ _ _=>?_))
 | ((with_reducible show zfd _ [_] _);refine zdo (by first | decide | simp) (fun _ _ _ _ _=>?_))
 | ((with_reducible show zfd _ (_ :: _ :: _ :: _) _);refine zdo (by first | decide | simp) (fun _ _ _ _ _=>?_))
 | ((with_reducible show za7 _ [V.ref _] _ _);first | refine IsQ.len (by walk_at "h") ?_ | refine zqk (by walk_at "h") ?_ | refine x_lenT' (by walk_at "h") ?_)
 | (with_reducible (first
   | apply zmr
   | apply zo5))
 | ((with_reducible show ziF _ _ _ _ _);refine znF (by walk_at "h") (by first | decide | omega) ?_)
 | ((with_reducible show zi9 _ _ _ _);refine znV (by walk_at "h") (by walk_at "h") (by walk_at "h") (by walk_at "h") ?_)
 | ((with_reducible show zg0 _ _ _ _);refine zll (by walk_at "h") (by walk_at "h") (by walk_at "h") (by walk_at "h") ?_)
 | ((with_reducible show zhf _ _ _ _);refine zlv (by walk_at "h") (by walk_at "h") (by walk_at "h") (by walk_at "h") ?_)
 | (with_reducible (first
   | apply zqC
   | apply zp0
   | apply znC
   | apply zps
   | apply zrb))
 | ((with_reducible show zm4 _ _ _ _ _ _);refine zqA rfl ?_)
 | (with_reducible (first
   | apply zqv
   | apply zou))
 | ((with_reducible show zbr _ _ _ (V.ref _) _ _ _);refine zqm (by assumption) rfl ?_)
 | ((with_reducible show zet _ (V.ref _) (V.int _) _ _);first
   | refine zmJ (by walk_at "h") (by omega) (by omega) ?_
   | refine zlk (by walk_at "h") (by assumption) ?_)
 | ((with_reducible show zgv (V.ref _) (V.int _) (V.int _) _ _);refine zmW (by walk_at "h") (by omega) (by omega) (fun _ _ _=>?_))
 | ((with_reducible show zd2 (V.ref _) (V.int _) _ _);first | refine znP (by walk_at "h") (by omega) (by omega) (fun _ _ _ _ _=>?_) | refine znX (by walk_at "h") (by omega) (by omega) (fun _ _ _ _ _=>?_) | refine zpc (by walk_at "h") (by omega) (by omega) (fun _ _ _ _ _=>?_))
 | ((with_reducible show rIn _ false (V.int _) (V.ref _) _ _);refine zrd (by walk_at "h") ?_)
 | ((with_reducible show rIn _ true (V.int _) (V.ref _) _ _);refine zpl (by walk_at "h") ?_)
 | ((with_reducible show zgd [V.int _] _ _);refine zne (fun _ _ _ _ _=>?_))
 | ((with_reducible show zew [V.ref _] _ _);refine zmx (by walk_at "h") (by omega) (by omega) (fun _ _ _ _ _=>?_))
 | ((with_reducible show zjm _ _ _ _ _);refine zm8 (by walk_at "h") (by omega) (by omega) (by omega) (by assumption) (fun _ _ _ _ _=>?_))
 | ((with_reducible show zix _ _ _ _ _);refine zm9 (by walk_at "h") (by omega) (by omega) (by omega) (by assumption) (fun _ _ _ _ _ _ _=>?_))
 | ((with_reducible show zgH _ _ _ _ _);refine zly (by walk_at "h") (by assumption) (by omega) (by omega) (by omega) (by omega) (fun _ _ _ _=>?_))
 | ((with_reducible show zkL _ _ _ _ _);refine zjZ (by walk_at "h") (by omega) (by omega) (by omega) (by assumption) (fun _ _ _ _ _ _ _ _ _ _ _ _ _ _ _ _ _ _ _=>?_))
 | ((with_reducible show zie _ [V.ref _] _ _);first | refine x_minK (by walk_at "h") (by assumption) ?_ | refine zpN (by walk_at "h") (by assumption) (fun _ _ _=>?_))
 | ((with_reducible show zfM _ _ _ _ _);refine zkT (by walk_at "h") (by assumption) (by omega) (by omega) (by omega) (fun _ _ _=>?_))
 | ((with_reducible show zgQ _ _ _ _ _);refine zmu (by walk_at "h") (by assumption) (fun _ _ _=>?_))
 | ((with_reducible show zf6 _ _ _ _ _);refine zk1 (by walk_at "h") (by assumption) (by omega) (by omega) (fun _ _ _ _=>?_))
 | ((with_reducible show zgV _ _ _ _ _);refine zl3 (by walk_at "h") (by omega) (by omega) (by assumption) (fun _ _ _ _ _ _ _ _ _=>?_))
 | ((with_reducible show zio _ _ _ _);refine znH (by omega) (by omega) ?_)
 | ((with_reducible show zf5 _ _ _ _ _);refine zkX (by walk_at "h") (by assumption) (by walk_at "h") (by assumption) (fun _ _=>?_))
 | ((with_reducible show zgZ _ _ _ _ _);refine zlw (by walk_at "h") (by walk_at "h") (by omega) (by assumption) (fun _ _ _ _ _ _ _ _ _=>?_))
 | ((with_reducible show zg3 _ _ _ _ _);refine zl8 (by walk_at "h") (by assumption) (by walk_at "h") (by omega) (by omega) (fun _ _ _ _ _=>?_))
 | ((with_reducible show zfX _ _ _ _ _);refine zkY (by walk_at "h") (by assumption) (by walk_at "h") (by walk_at "h") (by omega) (fun _ _ _ _ _=>?_))
 | ((with_reducible show zh6 _ _ _ _);refine zqu (by walk_at "h") ?_)
 | ((with_reducible show zkC _ _ _ _ _);refine zpn (by walk_at "h") (by assumption) (by walk_at "h") (by walk_at "h") (by assumption) (by omega) (by omega) (fun _ _ _ _ _ _ _ _ _=>?_))
 | ((with_reducible show zfA _ _ _ _ _);refine ze8 (by walk_at "h") (by walk_at "h") (by walk_at "h") (by assumption) (by omega) (by omega) (by assumption) (fun _ _ _ _ _=>?_))
 | (with_reducible refine zqp ?_)
 | ((with_reducible show zks _ [V.int _,V.int _,V.int _] _);refine zo7 (by omega) (by omega) (by omega) (by omega) ?_)
 | ((with_reducible show zg1 _ _ _ _);refine zl4 (by walk_at "h") (by walk_at "h") (by assumption) (by assumption) (by assumption) ?_)
 | ((with_reducible show ze9 _ _ _ _ _);refine zjP (by walk_at "h") (by walk_at "h") (by walk_at "h") ?_)
 | ((with_reducible show zgY _ _ _ _ _);refine zfg (by walk_at "h") (by walk_at "h") (by omega) (by omega) (by omega) (by assumption) (fun _ _ _ _ _=>?_))
 | ((with_reducible show zfQ _ _ _ _ _);refine zkK (by walk_at "h") (by assumption) (by omega) (by omega) (by omega) (by omega) (fun _ _ _=>?_))
 | ((with_reducible show zff _ _ _ _ _);refine zjH (by walk_at "h") (by assumption) (by omega) (by omega) (by omega) (by omega) (fun _ _ _ _ _ _ _ _=>?_))
 | ((with_reducible show zg5 _ _ _ _ _);refine zlW (by walk_at "h") (by assumption) (fun _ _ _ _=>?_))
 | ((with_reducible show zeV _ _ _ _ _);refine zjU (by walk_at "h") (by assumption) (by omega) (by omega) (by omega) (by omega) (fun _ _ _ _=>?_))
 | ((with_reducible show ziI _ _ _ _ _);refine zm5 (by walk_at "h") (by assumption) (by omega) (by omega) (by omega) (by omega) (by omega) (by omega) (fun _ _ _ _ _ _ _ _ _=>?_))
 | ((with_reducible show zfS _ _ _ _ _);refine zkw (by walk_at "h") (by assumption) (by omega) (by omega) (by omega) (by omega) (by assumption) (by omega) (by omega) (fun _ _ _ _ _ _ _ _ _ _ _=>?_))
 | ((with_reducible show zeU _ _ _ _);refine zjG (by walk_at "h") ?_)
 | ((with_reducible show zgb _ _ _ _ _);refine zkZ (by walk_at "h") (by walk_at "h") (by first | assumption | omega) ?_)
 | ((with_reducible show zhh _ _ _ _ _);refine zlD (by walk_at "h") (by walk_at "h") (by omega) (by omega) (by assumption) (fun _ _ _ _ _=>?_))
 | ((with_reducible show zfY _ [V.ref _] _ _);refine zgi (by walk_at "h") ?_)
 | ((with_reducible show zkI _ [V.int _] _);refine zo6 (by omega) (by omega) ?_)
 | ((with_reducible show zle _ [V.int _,V.int _] _);refine zoN (by omega) (by omega) (by omega) (by omega) ?_)
 | ((with_reducible show znb _ _ (V.ref _) _);refine zq8 (by walk_at "h") ?_)
 | ((with_reducible show zkV _ _ [V.ref _] _);refine zoo (by walk_at "h") ?_)
 | ((with_reducible show zm6 _ _ [V.ref _,V.ref _] _);refine zp4 (by walk_at "h") (by walk_at "h") ?_)
 | ((with_reducible show zfL _ _ _ _ _);refine zkD (by walk_at "h") (by omega) (by omega) (by assumption) (fun _ _ _ _ _ _ _ _ _=>?_))
 | ((with_reducible show zea _ _ _ _ _);refine zh3 (by walk_at "h") (by omega) (fun _ _ _ _ _=>?_))
 | ((with_reducible show ziv _ _ _ _ _);refine znn (by walk_at "h") (by walk_at "h") (by omega) (by omega) (fun _ _ _ _ _ _ _=>?_))
 | ((with_reducible show zft (Itr _ _) _ _ zkA (tC (V.int _)) _ _ _);refine zoM rfl (by omega) (fun _ _ _ _ _=>?_))
 | ((with_reducible show zaE _ (V.ref _) (V.ref _) _ _);first | refine zjA (by walk_at "h") (by walk_at "h") rfl ?_ | refine x_eqSh (by walk_at "h") (by walk_at "h") rfl ?_ | refine x_eqQs (by walk_at "h") (by walk_at "h") (by walk_at "h") (by walk_at "h") ?_)
 | ((with_reducible show zbM _ (V.ref _) (V.ref _) _ _);first | refine zgc (by walk_at "h") (by walk_at "h") rfl ?_ | refine x_neRows (by walk_at "h") (by walk_at "h") (by walk_at "h") (by walk_at "h") (by omega) (fun _ _ _ _=>rfl) ?_ | refine zqh (by walk_at "h") (by walk_at "h") rfl ?_ | refine x_neQs (by walk_at "h") (by walk_at "h") (by walk_at "h") (by walk_at "h") ?_)
 | (with_reducible (first
   | apply zpq
   | apply zpM
   | apply zq2
   | apply zrv
   | apply zpB
   | apply zo2))
 | ((with_reducible show tyV _ "list" (V.ref _) _/\_);refine zqR (by walk_at "h") ?_)
 | ((with_reducible show zb9 (V.ref _) [_] _ _);refine zmm (by walk_at "h") (by omega) (fun _ _ _=>?_))
 | ((with_reducible show zeO _ _ _ _ _);refine zim (by walk_at "h") (by walk_at "h") (by omega) (by omega) (by omega) (by assumption) (by assumption) (by assumption) (fun _ _ _ _ _=>?_))
 | ((with_reducible show zi0 _ _ _ _);refine zn1 (by omega) (by walk_at "z") ?_)
 | ((with_reducible show NewQ _ _ _);intro _ _ _ _)
 | ((with_reducible show znQ _ _ _);refine zpE (by first | decide | simp) (fun _ _ _ _ _=>?_))
 | ((with_reducible show zb7 _ _ _ _);refine zlH (by walk_at "h") (fun _ _ _ _ _=>?_))
 | ((with_reducible show zf0 _ _ _ _ _ _);refine zqw (by walk_at "h") (fun _ _ _ _ _=>?_))
 | ((with_reducible show zha _ _ _ _ _);refine zhM (by walk_at "h") (by walk_at "h") (by walk_at "h") (by walk_at "h") ?_)
 | ((with_reducible show zg9 _ _ _ _ _);refine zmE (by walk_at "h") (by walk_at "h") (by walk_at "h") (by walk_at "h") ?_)
 | ((with_reducible show zkE _ _ _ _);refine zqO (by first | decide | omega) ?_)
 | ((with_reducible show zd2 _ _ _ _);refine zk5 (by first | assumption | (apply CMulS.of;(focus walk_at "z");(focus walk_at "z");first | decide | omega)) ?_)
 | ((with_reducible show zid _ _ _ _);refine zq9 (by first | walk_at "h" | decide) (by first | walk_at "h" | exact szL (by decide) (by decide) (by decide)) ?_)
 | ((with_reducible show rI zk8 _ _ _ _ _);refine zqW ⟨by decide,by decide,by decide⟩ rfl ?_;(try simp only[Int.reduceToNat,Int.reducePow]))
 | ((with_reducible show Ends.nx _ _ _);dsimp only[List.set,Ends.gone]))
local macro_rules | `(tactic| walk_at "x")=>`(tactic| repeat' (walk_at "x1"))
def top(i:Nat):Stmt:=PySem.Challenge.pw_quits_k44_safe_cut.main.body.getD i (.Pass ⟨0,0,0,0⟩)
abbrev zci:Stmt:=top 5
abbrev zdO:Stmt:=top 7
abbrev zdS:Stmt:=top 8
abbrev zc7:Stmt:=top 9
abbrev zdb:Stmt:=top 10
abbrev zdM:Stmt:=top 11
abbrev zda:Stmt:=top 12
abbrev zc6:Stmt:=top 13
abbrev zcK:Stmt:=top 15
abbrev zbo:Stmt:=top 16
abbrev zaQ:Stmt:=top 17
abbrev zcj:Stmt:=top 19
abbrev zcJ:Stmt:=top 21
abbrev zbz:Stmt:=top 22
abbrev zbp:Stmt:=top 23
abbrev zdd:Stmt:=top 24
abbrev zbG:Stmt:=top 25
abbrev zch:Stmt:=top 27
abbrev zbX:Stmt:=top 28
abbrev zaI:Stmt:=top 29
abbrev zbZ:Stmt:=top 30
abbrev zbU:Stmt:=top 31
abbrev zaD:Stmt:=top 32
abbrev zaK:Stmt:=top 33
abbrev zb3:Stmt:=top 34
abbrev zbg:Stmt:=top 35
abbrev zdf:Stmt:=top 36
abbrev zcL:Stmt:=top 38
abbrev za6:Stmt:=top 39
abbrev zbh:Stmt:=top 40
abbrev zep:Stmt:=top 42
abbrev zdh:Stmt:=top 44
abbrev zbY:Stmt:=top 46
abbrev zbD:Stmt:=top 48
abbrev zby:Stmt:=top 49
abbrev zbi:Stmt:=top 50
abbrev zbv:Stmt:=top 51
abbrev zbk:Stmt:=top 52
abbrev zbw:Stmt:=top 53
abbrev za2:Stmt:=top 54
abbrev zb2:Stmt:=top 55
abbrev zbf:Stmt:=top 56
abbrev zbe:Stmt:=top 57
abbrev za3:Stmt:=top 58
abbrev zbj:Stmt:=top 59
abbrev zaS:Stmt:=top 60
abbrev zaR:Stmt:=top 61
abbrev zbm:Stmt:=top 62
abbrev zbE:Stmt:=top 63
abbrev zbn:Stmt:=top 64
abbrev zbx:Stmt:=top 65
abbrev zaJ:Stmt:=top 66
abbrev zaM:Stmt:=top 67
abbrev zbA:Stmt:=top 68
abbrev zev:Stmt:=top 69
theorem sc_divisor:FnScope ["one", "other", "kept", "rest", "further"] ["one", "other"] (zi zci):=⟨rfl,rfl,rfl,by decide +kernel,rfl,by decide +kernel,by decide +kernel⟩
theorem sc_part:FnScope ["top", "bottom", "common"] ["top", "bottom"] (zi zdO):=⟨rfl,rfl,rfl,by decide +kernel,rfl,by decide +kernel,by decide +kernel⟩
theorem sc_plus:FnScope ["one", "other", "shared", "top", "common"] ["one", "other"] (zi zdS):=⟨rfl,rfl,rfl,by decide +kernel,rfl,by decide +kernel,by decide +kernel⟩
theorem zmK:FnScope ["one", "other"] ["one", "other"] (zi zc7):=⟨rfl,rfl,rfl,by decide +kernel,rfl,by decide +kernel,by decide +kernel⟩
theorem sc_times:FnScope ["one", "other", "down", "across", "top", "bottom"] ["one", "other"] (zi zdb):=⟨rfl,rfl,rfl,by decide +kernel,rfl,by decide +kernel,by decide +kernel⟩
theorem zoR:FnScope ["one", "other"] ["one", "other"] (zi zdM):=⟨rfl,rfl,rfl,by decide +kernel,rfl,by decide +kernel,by decide +kernel⟩
theorem znO:FnScope ["one", "other"] ["one", "other"] (zi zda):=⟨rfl,rfl,rfl,by decide +kernel,rfl,by decide +kernel,by decide +kernel⟩
theorem zm7:FnScope ["one", "other"] ["one", "other"] (zi zc6):=⟨rfl,rfl,rfl,by decide +kernel,rfl,by decide +kernel,by decide +kernel⟩
theorem sc_ranked:FnScope ["many", "sheet", "sums", "payer", "payee", "rank", "amount"] ["many", "sheet"] (zi zcK):=⟨rfl,rfl,rfl,by decide +kernel,rfl,by decide +kernel,by decide +kernel⟩
theorem zhU:FnScope ["sheet"] ["sheet"] (zi zbo):=⟨rfl,rfl,rfl,by decide +kernel,rfl,by decide +kernel,by decide +kernel⟩
theorem zgy:FnScope ["sheet", "amounts"] ["sheet", "amounts"] (zi zaQ):=⟨rfl,rfl,rfl,by decide +kernel,rfl,by decide +kernel,by decide +kernel⟩
theorem sc_stop_of:FnScope ["owed", "lay", "end", "rank", "here"] ["owed", "lay"] (zi zcj):=⟨rfl,rfl,rfl,by decide +kernel,rfl,by decide +kernel,by decide +kernel⟩
theorem sc_solved:FnScope ["rows", "right", "count", "table", "before", "place"] ["rows", "right"] (zi zcJ):=⟨rfl,rfl,rfl,by decide +kernel,rfl,by decide +kernel,by decide +kernel⟩
theorem sc_whole_row:FnScope ["row", "common", "top", "bottom"] ["row"] (zi zbz):=⟨rfl,rfl,rfl,by decide +kernel,rfl,by decide +kernel,by decide +kernel⟩
theorem sc_with_first:FnScope ["table", "place", "found", "swapped"] ["table", "place"] (zi zbp):=⟨rfl,rfl,rfl,by decide +kernel,rfl,by decide +kernel,by decide +kernel⟩
theorem sc_swept:FnScope ["table", "place", "before", "sweeper", "made", "number", "row"] ["table", "place", "before"] (zi zdd):=⟨rfl,rfl,rfl,by decide +kernel,rfl,by decide +kernel,by decide +kernel⟩
theorem sc_swept_row:FnScope ["row", "sweeper", "place", "before", "keep", "take"] ["row", "sweeper", "place", "before"] (zi zbG):=⟨rfl,rfl,rfl,by decide +kernel,rfl,by decide +kernel,by decide +kernel⟩
theorem sc_cleared:FnScope ["sheet", "purses", "owed", "lays", "opened", "ranks", "flows", "circle", "rates", "step", "shut"] ["sheet", "purses"] (zi zch):=⟨rfl,rfl,rfl,by decide +kernel,rfl,by decide +kernel,by decide +kernel⟩
theorem sc_flows_of:FnScope ["sheet", "ranks", "flows", "payer", "payee", "rank", "amount"] ["sheet", "ranks"] (zi zbX):=⟨rfl,rfl,rfl,by decide +kernel,rfl,by decide +kernel,by decide +kernel⟩
theorem sc_closed_circle:FnScope ["flows", "ranks", "circles", "member", "reached"] ["flows", "ranks"] (zi zaI):=⟨rfl,rfl,rfl,by decide +kernel,rfl,by decide +kernel,by decide +kernel⟩
theorem sc_reach_of:FnScope ["flows", "member", "reached", "place", "here"] ["flows", "member"] (zi zbZ):=⟨rfl,rfl,rfl,by decide +kernel,rfl,by decide +kernel,by decide +kernel⟩
theorem sc_balances:FnScope ["flows", "members", "rows", "place", "member"] ["flows", "members"] (zi zbU):=⟨rfl,rfl,rfl,by decide +kernel,rfl,by decide +kernel,by decide +kernel⟩
theorem sc_circling_rates:FnScope ["flows", "circle", "rows", "right"] ["flows", "circle"] (zi zaD):=⟨rfl,rfl,rfl,by decide +kernel,rfl,by decide +kernel,by decide +kernel⟩
theorem sc_opening_rates:FnScope ["flows", "ranks", "purses", "short", "right"] ["flows", "ranks", "purses"] (zi zaK):=⟨rfl,rfl,rfl,by decide +kernel,rfl,by decide +kernel,by decide +kernel⟩
theorem sc_rates_of:FnScope ["flows", "members", "shares", "rates", "place", "member"] ["flows", "members", "shares"] (zi zb3):=⟨rfl,rfl,rfl,by decide +kernel,rfl,by decide +kernel,by decide +kernel⟩
theorem sc_least_room:FnScope ["owed", "ranks", "lays", "rates", "room", "member", "rate", "end", "here"] ["owed", "ranks", "lays", "rates"] (zi zbg):=⟨rfl,rfl,rfl,by decide +kernel,rfl,by decide +kernel,by decide +kernel⟩
theorem zny:FnScope ["lays", "rates", "step"] ["lays", "rates", "step"] (zi zdf):=⟨rfl,rfl,rfl,by decide +kernel,rfl,by decide +kernel,by decide +kernel⟩
theorem sc_a_ring:FnScope ["many", "sheet", "onward", "going", "payers", "member"] ["many", "sheet"] (zi zcL):=⟨rfl,rfl,rfl,by decide +kernel,rfl,by decide +kernel,by decide +kernel⟩
theorem sc_ways_onward:FnScope ["many", "sheet", "going", "onward", "turn"] ["many", "sheet"] (zi za6):=⟨rfl,rfl,rfl,by decide +kernel,rfl,by decide +kernel,by decide +kernel⟩
theorem sc_dues_among:FnScope ["sheet", "going", "onward", "number", "due"] ["sheet", "going"] (zi zbh):=⟨rfl,rfl,rfl,by decide +kernel,rfl,by decide +kernel,by decide +kernel⟩
theorem sc_cut:FnScope ["many", "sheet", "left", "cuts", "ring", "fewest", "number"] ["many", "sheet"] (zi zep):=⟨rfl,rfl,rfl,by decide +kernel,rfl,by decide +kernel,by decide +kernel⟩
theorem sc_stops:FnScope ["sheet", "lays", "owed"] ["sheet", "lays"] (zi zdh):=⟨rfl,rfl,rfl,by decide +kernel,rfl,by decide +kernel,by decide +kernel⟩
theorem sc_safe_cut:FnScope ["sheet", "purses", "ranks", "free", "amounts", "within", "left"] ["sheet", "purses"] (zi zbY):=⟨rfl,rfl,rfl,by decide +kernel,rfl,by decide +kernel,by decide +kernel⟩
theorem zil:FnScope ["_law_script", "_law_k"] ["_law_script", "_law_k"] (zi zbD):=⟨rfl,rfl,rfl,by decide +kernel,rfl,by decide +kernel,by decide +kernel⟩
theorem ziq:FnScope ["_law_script", "_law_k", "_law_prime", "_law_many_here"] ["_law_script", "_law_k", "_law_prime", "_law_many_here"] (zi zby):=⟨rfl,rfl,rfl,by decide +kernel,rfl,by decide +kernel,by decide +kernel⟩
theorem sc__law_great:FnScope ["_law_script", "_law_k", "_law_most_here", "_law_mixed"] ["_law_script", "_law_k", "_law_most_here"] (zi zbi):=⟨rfl,rfl,rfl,by decide +kernel,rfl,by decide +kernel,by decide +kernel⟩
theorem sc__law_many:FnScope ["_law_script", "_law_way"] ["_law_script"] (zi zbv):=⟨rfl,rfl,rfl,by decide +kernel,rfl,by decide +kernel,by decide +kernel⟩
theorem sc__law_count:FnScope ["_law_script", "_law_many_here", "_law_way"] ["_law_script", "_law_many_here"] (zi zbk):=⟨rfl,rfl,rfl,by decide +kernel,rfl,by decide +kernel,by decide +kernel⟩
theorem zjE:FnScope ["_law_script", "_law_many_here", "_law_count_here"] ["_law_script", "_law_many_here", "_law_count_here"] (zi zbw):=⟨rfl,rfl,rfl,by decide +kernel,rfl,by decide +kernel,by decide +kernel⟩
theorem sc__law_amount:FnScope ["_law_script", "_law_k", "_law_most_here", "_law_way"] ["_law_script", "_law_k", "_law_most_here"] (zi za2):=⟨rfl,rfl,rfl,by decide +kernel,rfl,by decide +kernel,by decide +kernel⟩
theorem sc__law_due:FnScope ["_law_script", "_law_k", "_law_many_here", "_law_most_here", "_law_shape", "_law_payer", "_law_payee", "_law_rank"] ["_law_script", "_law_k", "_law_many_here", "_law_most_here"] (zi zb2):=⟨rfl,rfl,rfl,by decide +kernel,rfl,by decide +kernel,by decide +kernel⟩
theorem zhZ:FnScope ["_law_script", "_law_many_here", "_law_count_here", "_law_most_here"] ["_law_script", "_law_many_here", "_law_count_here", "_law_most_here"] (zi zbf):=⟨rfl,rfl,rfl,by decide +kernel,rfl,by decide +kernel,by decide +kernel⟩
theorem sc__law_purse:FnScope ["_law_script", "_law_k", "_law_way", "_law_most_here", "_law_here"] ["_law_script", "_law_k", "_law_way", "_law_most_here"] (zi zbe):=⟨rfl,rfl,rfl,by decide +kernel,rfl,by decide +kernel,by decide +kernel⟩
theorem sc__law_purses:FnScope ["_law_script", "_law_many_here", "_law_most_here", "_law_way"] ["_law_script", "_law_many_here", "_law_most_here"] (zi za3):=⟨rfl,rfl,rfl,by decide +kernel,rfl,by decide +kernel,by decide +kernel⟩
theorem zh2:FnScope ["_law_thing"] ["_law_thing"] (zi zbj):=⟨rfl,rfl,rfl,by decide +kernel,rfl,by decide +kernel,by decide +kernel⟩
theorem sc__law_divisor:FnScope ["_law_one", "_law_other", "_law_rest"] ["_law_one", "_law_other"] (zi zaS):=⟨rfl,rfl,rfl,by decide +kernel,rfl,by decide +kernel,by decide +kernel⟩
theorem zgr:FnScope ["_law_thing"] ["_law_thing"] (zi zaR):=⟨rfl,rfl,rfl,by decide +kernel,rfl,by decide +kernel,by decide +kernel⟩
theorem sc__law_parts:FnScope ["_law_told", "_law_many_here", "_law_one"] ["_law_told", "_law_many_here"] (zi zbm):=⟨rfl,rfl,rfl,by decide +kernel,rfl,by decide +kernel,by decide +kernel⟩
theorem sc__law_sums:FnScope ["_law_sheet_here", "_law_many_here", "_law_made", "_law_due_here"] ["_law_sheet_here", "_law_many_here"] (zi zbE):=⟨rfl,rfl,rfl,by decide +kernel,rfl,by decide +kernel,by decide +kernel⟩
theorem sc__law_stand:FnScope ["_law_sheet_here", "_law_lays", "_law_sums_here", "_law_made", "_law_k", "_law_here", "_law_rank"] ["_law_sheet_here", "_law_lays"] (zi zbn):=⟨rfl,rfl,rfl,by decide +kernel,rfl,by decide +kernel,by decide +kernel⟩
theorem sc__law_nets:FnScope ["_law_sheet_here", "_law_amounts", "_law_many_here", "_law_made", "_law_k"] ["_law_sheet_here", "_law_amounts", "_law_many_here"] (zi zbx):=⟨rfl,rfl,rfl,by decide +kernel,rfl,by decide +kernel,by decide +kernel⟩
theorem sc__law_pays_one:FnScope ["_law_member", "_law_rest", "_law_ways", "_law_way"] ["_law_member", "_law_rest", "_law_ways"] (zi zaJ):=⟨rfl,rfl,rfl,by decide +kernel,rfl,by decide +kernel,by decide +kernel⟩
theorem sc__law_ringless:FnScope ["_law_many_here", "_law_ways", "_law_rest", "_law_turn"] ["_law_many_here", "_law_ways"] (zi zaM):=⟨rfl,rfl,rfl,by decide +kernel,rfl,by decide +kernel,by decide +kernel⟩
theorem sc__law_left:FnScope ["_law_sheet_here", "_law_told", "_law_stand_here", "_law_k"] ["_law_sheet_here", "_law_told", "_law_stand_here"] (zi zbA):=⟨rfl,rfl,rfl,by decide +kernel,rfl,by decide +kernel,by decide +kernel⟩
theorem sc_law:FnScope ["_law_script", "_law_many_here", "_law_count_here", "_law_most_here", "_law_sheet_here", "_law_purses_here", "_law_lays", "_law_stand_here", "_law_handed", "_law_told", "_law_ways", "_law_k"] ["_law_script"] (zi zev):=⟨rfl,rfl,rfl,by decide +kernel,rfl,by decide +kernel,by decide +kernel⟩
theorem zk9{α:Type}{us:List α}(h:us.length=0):us=[]:=yX h
theorem zec{α:Type}{us:List α}{n:Nat}(h:us.length=n+1):∃a vs,us=a :: vs/\vs.length=n:=by
 cases us with
 | nil=>cases h
 | cons a vs=>exact⟨a,vs,rfl,Nat.succ.inj h⟩
theorem len1{α:Type}{us:List α}(h:us.length=1):∃a0,us=[a0]:=by
 obtain⟨a0,us0,rfl,h0⟩:=zec h
 obtain rfl:=zk9 h0
 exact⟨a0,rfl⟩
theorem len2{α:Type}{us:List α}(h:us.length=2):∃a0 a1,us=[a0,a1]:=by
 obtain⟨a0,us0,rfl,h0⟩:=zec h
 obtain⟨a1,us1,rfl,h1⟩:=zec h0
 obtain rfl:=zk9 h1
 exact⟨a0,a1,rfl⟩
theorem len3{α:Type}{us:List α}(h:us.length=3):∃a0 a1 a2,us=[a0,a1,a2]:=by
 obtain⟨a0,us0,rfl,h0⟩:=zec h
 obtain⟨a1,us1,rfl,h1⟩:=zec h0
 obtain⟨a2,us2,rfl,h2⟩:=zec h1
 obtain rfl:=zk9 h2
 exact⟨a0,a1,a2,rfl⟩
theorem len4{α:Type}{us:List α}(h:us.length=4):∃a0 a1 a2 a3,us=[a0,a1,a2,a3]:=by
 obtain⟨a0,us0,rfl,h0⟩:=zec h
 obtain⟨a1,us1,rfl,h1⟩:=zec h0
 obtain⟨a2,us2,rfl,h2⟩:=zec h1
 obtain⟨a3,us3,rfl,h3⟩:=zec h2
 obtain rfl:=zk9 h3
 exact⟨a0,a1,a2,a3,rfl⟩
set_option genInjectivity false in
set_option genSizeOf false in
set_option genInjectivity false in
set_option genSizeOf false in
structure Dfn(K:Fg)(mg:Str->Option Value)(x qual:Str)(st:Stmt)(ps:List Str) where
 a:Addr
 fd:FuncData
 F:Fun K x qual st a fd
 b:Binds K fd ps []
 m:mg x=some (.ref a)
set_option genInjectivity false in
set_option genSizeOf false in
set_option genInjectivity false in
set_option genSizeOf false in
structure Txt(K:Fg)(mg:Str->Option Value) where
 c_NoAnswer:Addr
 m_NoAnswer:mg "NoAnswer" = some (.ref c_NoAnswer)
 c_NoPart:Addr
 m_NoPart:mg "NoPart" = some (.ref c_NoPart)
 e_NoAnswer:zeH K c_NoAnswer=true
 i_NoAnswer_NoAnswer:PySem.W.kitOne K (.ref c_NoAnswer) (.ref c_NoAnswer)=some true
 i_NoAnswer_NoPart:PySem.W.kitOne K (.ref c_NoAnswer) (.ref c_NoPart)=some false
 e_NoPart:zeH K c_NoPart=true
 i_NoPart_NoAnswer:PySem.W.kitOne K (.ref c_NoPart) (.ref c_NoAnswer)=some false
 i_NoPart_NoPart:PySem.W.kitOne K (.ref c_NoPart) (.ref c_NoPart)=some true
 d_divisor:Dfn K mg "divisor" "divisor" zci ["one", "other"]
 d_part:Dfn K mg "part" "part" zdO ["top", "bottom"]
 d_plus:Dfn K mg "plus" "plus" zdS ["one", "other"]
 d_minus:Dfn K mg "minus" "minus" zc7 ["one", "other"]
 d_times:Dfn K mg "times" "times" zdb ["one", "other"]
 d_over:Dfn K mg "over" "over" zdM ["one", "other"]
 d_under:Dfn K mg "under" "under" zda ["one", "other"]
 d_least:Dfn K mg "least" "least" zc6 ["one", "other"]
 d_ranked:Dfn K mg "ranked" "ranked" zcK ["many", "sheet"]
 d_amounts_of:Dfn K mg "amounts_of" "amounts_of" zbo ["sheet"]
 d_with_amounts:Dfn K mg "with_amounts" "with_amounts" zaQ ["sheet", "amounts"]
 d_stop_of:Dfn K mg "stop_of" "stop_of" zcj ["owed", "lay"]
 d_solved:Dfn K mg "solved" "solved" zcJ ["rows", "right"]
 d_whole_row:Dfn K mg "whole_row" "whole_row" zbz ["row"]
 d_with_first:Dfn K mg "with_first" "with_first" zbp ["table", "place"]
 d_swept:Dfn K mg "swept" "swept" zdd ["table", "place", "before"]
 d_swept_row:Dfn K mg "swept_row" "swept_row" zbG ["row", "sweeper", "place", "before"]
 d_cleared:Dfn K mg "cleared" "cleared" zch ["sheet", "purses"]
 d_flows_of:Dfn K mg "flows_of" "flows_of" zbX ["sheet", "ranks"]
 d_closed_circle:Dfn K mg "closed_circle" "closed_circle" zaI ["flows", "ranks"]
 d_reach_of:Dfn K mg "reach_of" "reach_of" zbZ ["flows", "member"]
 d_balances:Dfn K mg "balances" "balances" zbU ["flows", "members"]
 d_circling_rates:Dfn K mg "circling_rates" "circling_rates" zaD ["flows", "circle"]
 d_opening_rates:Dfn K mg "opening_rates" "opening_rates" zaK ["flows", "ranks", "purses"]
 d_rates_of:Dfn K mg "rates_of" "rates_of" zb3 ["flows", "members", "shares"]
 d_least_room:Dfn K mg "least_room" "least_room" zbg ["owed", "ranks", "lays", "rates"]
 d_grown:Dfn K mg "grown" "grown" zdf ["lays", "rates", "step"]
 d_a_ring:Dfn K mg "a_ring" "a_ring" zcL ["many", "sheet"]
 d_ways_onward:Dfn K mg "ways_onward" "ways_onward" za6 ["many", "sheet"]
 d_dues_among:Dfn K mg "dues_among" "dues_among" zbh ["sheet", "going"]
 d_cut:Dfn K mg "cut" "cut" zep ["many", "sheet"]
 d_stops:Dfn K mg "stops" "stops" zdh ["sheet", "lays"]
 d_safe_cut:Dfn K mg "safe_cut" "safe_cut" zbY ["sheet", "purses"]
 d__law_cell:Dfn K mg "_law_cell" "_law_cell" zbD ["_law_script", "_law_k"]
 d__law_draw:Dfn K mg "_law_draw" "_law_draw" zby ["_law_script", "_law_k", "_law_prime", "_law_many_here"]
 d__law_great:Dfn K mg "_law_great" "_law_great" zbi ["_law_script", "_law_k", "_law_most_here"]
 d__law_many:Dfn K mg "_law_many" "_law_many" zbv ["_law_script"]
 d__law_count:Dfn K mg "_law_count" "_law_count" zbk ["_law_script", "_law_many_here"]
 d__law_most:Dfn K mg "_law_most" "_law_most" zbw ["_law_script", "_law_many_here", "_law_count_here"]
 d__law_amount:Dfn K mg "_law_amount" "_law_amount" za2 ["_law_script", "_law_k", "_law_most_here"]
 d__law_due:Dfn K mg "_law_due" "_law_due" zb2 ["_law_script", "_law_k", "_law_many_here", "_law_most_here"]
 d__law_sheet:Dfn K mg "_law_sheet" "_law_sheet" zbf ["_law_script", "_law_many_here", "_law_count_here", "_law_most_here"]
 d__law_purse:Dfn K mg "_law_purse" "_law_purse" zbe ["_law_script", "_law_k", "_law_way", "_law_most_here"]
 d__law_purses:Dfn K mg "_law_purses" "_law_purses" za3 ["_law_script", "_law_many_here", "_law_most_here"]
 d__law_whole:Dfn K mg "_law_whole" "_law_whole" zbj ["_law_thing"]
 d__law_divisor:Dfn K mg "_law_divisor" "_law_divisor" zaS ["_law_one", "_law_other"]
 d__law_is_part:Dfn K mg "_law_is_part" "_law_is_part" zaR ["_law_thing"]
 d__law_parts:Dfn K mg "_law_parts" "_law_parts" zbm ["_law_told", "_law_many_here"]
 d__law_sums:Dfn K mg "_law_sums" "_law_sums" zbE ["_law_sheet_here", "_law_many_here"]
 d__law_stand:Dfn K mg "_law_stand" "_law_stand" zbn ["_law_sheet_here", "_law_lays"]
 d__law_nets:Dfn K mg "_law_nets" "_law_nets" zbx ["_law_sheet_here", "_law_amounts", "_law_many_here"]
 d__law_pays_one:Dfn K mg "_law_pays_one" "_law_pays_one" zaJ ["_law_member", "_law_rest", "_law_ways"]
 d__law_ringless:Dfn K mg "_law_ringless" "_law_ringless" zaM ["_law_many_here", "_law_ways"]
 d__law_left:Dfn K mg "_law_left" "_law_left" zbA ["_law_sheet_here", "_law_told", "_law_stand_here"]
 d_law:Dfn K mg "law" "law" zev ["_law_script"]
 bl_law:∀(s:Shared) (v:Value),BindsTo s d_law.fd ⟨[v],[]⟩ [("_law_script",v)]
 z_abs:mg "abs" = none
 z_all:mg "all" = none
 z_bool:mg "bool" = none
 z_enumerate:mg "enumerate" = none
 z_int:mg "int" = none
 z_isinstance:mg "isinstance" = none
 z_len:mg "len" = none
 z_list:mg "list" = none
 z_min:mg "min" = none
 z_range:mg "range" = none
 z_sum:mg "sum" = none
 z_tuple:mg "tuple" = none
 z_zip:mg "zip" = none
def txt_mk{K:Fg}{h:Heap}{mg:Str->Option Value}(X:K.In h)(G:h.Ns mainGlobals mg)
 {c_NoAnswer:Addr}
 {c_NoPart:Addr}
 {f0:Addr} {o0 v0 e0 p0 q0 t0:Value} {d0 n0:Option Addr} {r0:Array (Option Value)}
 {f1:Addr} {o1 v1 e1 p1 q1 t1:Value} {d1 n1:Option Addr} {r1:Array (Option Value)}
 {f2:Addr} {o2 v2 e2 p2 q2 t2:Value} {d2 n2:Option Addr} {r2:Array (Option Value)}
 {f3:Addr} {o3 v3 e3 p3 q3 t3:Value} {d3 n3:Option Addr} {r3:Array (Option Value)}
 {f4:Addr} {o4 v4 e4 p4 q4 t4:Value} {d4 n4:Option Addr} {r4:Array (Option Value)}
 {f5:Addr} {o5 v5 e5 p5 q5 t5:Value} {d5 n5:Option Addr} {r5:Array (Option Value)}
 {f6:Addr} {o6 v6 e6 p6 q6 t6:Value} {d6 n6:Option Addr} {r6:Array (Option Value)}
 {f7:Addr} {o7 v7 e7 p7 q7 t7:Value} {d7 n7:Option Addr} {r7:Array (Option Value)}
 {f8:Addr} {o8 v8 e8 p8 q8 t8:Value} {d8 n8:Option Addr} {r8:Array (Option Value)}
 {f9:Addr} {o9 v9 e9 p9 q9 t9:Value} {d9 n9:Option Addr} {r9:Array (Option Value)}
 {f10:Addr} {o10 v10 e10 p10 q10 t10:Value} {d10 n10:Option Addr} {r10:Array (Option Value)}
 {f11:Addr} {o11 v11 e11 p11 q11 t11:Value} {d11 n11:Option Addr} {r11:Array (Option Value)}
 {f12:Addr} {o12 v12 e12 p12 q12 t12:Value} {d12 n12:Option Addr} {r12:Array (Option Value)}
 {f13:Addr} {o13 v13 e13 p13 q13 t13:Value} {d13 n13:Option Addr} {r13:Array (Option Value)}
 {f14:Addr} {o14 v14 e14 p14 q14 t14:Value} {d14 n14:Option Addr} {r14:Array (Option Value)}
 {f15:Addr} {o15 v15 e15 p15 q15 t15:Value} {d15 n15:Option Addr} {r15:Array (Option Value)}
 {f16:Addr} {o16 v16 e16 p16 q16 t16:Value} {d16 n16:Option Addr} {r16:Array (Option Value)}
 {f17:Addr} {o17 v17 e17 p17 q17 t17:Value} {d17 n17:Option Addr} {r17:Array (Option Value)}
 {f18:Addr} {o18 v18 e18 p18 q18 t18:Value} {d18 n18:Option Addr} {r18:Array (Option Value)}
 {f19:Addr} {o19 v19 e19 p19 q19 t19:Value} {d19 n19:Option Addr} {r19:Array (Option Value)}
 {f20:Addr} {o20 v20 e20 p20 q20 t20:Value} {d20 n20:Option Addr} {r20:Array (Option Value)}
 {f21:Addr} {o21 v21 e21 p21 q21 t21:Value} {d21 n21:Option Addr} {r21:Array (Option Value)}
 {f22:Addr} {o22 v22 e22 p22 q22 t22:Value} {d22 n22:Option Addr} {r22:Array (Option Value)}
 {f23:Addr} {o23 v23 e23 p23 q23 t23:Value} {d23 n23:Option Addr} {r23:Array (Option Value)}
 {f24:Addr} {o24 v24 e24 p24 q24 t24:Value} {d24 n24:Option Addr} {r24:Array (Option Value)}
 {f25:Addr} {o25 v25 e25 p25 q25 t25:Value} {d25 n25:Option Addr} {r25:Array (Option Value)}
 {f26:Addr} {o26 v26 e26 p26 q26 t26:Value} {d26 n26:Option Addr} {r26:Array (Option Value)}
 {f27:Addr} {o27 v27 e27 p27 q27 t27:Value} {d27 n27:Option Addr} {r27:Array (Option Value)}
 {f28:Addr} {o28 v28 e28 p28 q28 t28:Value} {d28 n28:Option Addr} {r28:Array (Option Value)}
 {f29:Addr} {o29 v29 e29 p29 q29 t29:Value} {d29 n29:Option Addr} {r29:Array (Option Value)}
 {f30:Addr} {o30 v30 e30 p30 q30 t30:Value} {d30 n30:Option Addr} {r30:Array (Option Value)}
 {f31:Addr} {o31 v31 e31 p31 q31 t31:Value} {d31 n31:Option Addr} {r31:Array (Option Value)}
 {f32:Addr} {o32 v32 e32 p32 q32 t32:Value} {d32 n32:Option Addr} {r32:Array (Option Value)}
 {f33:Addr} {o33 v33 e33 p33 q33 t33:Value} {d33 n33:Option Addr} {r33:Array (Option Value)}
 {f34:Addr} {o34 v34 e34 p34 q34 t34:Value} {d34 n34:Option Addr} {r34:Array (Option Value)}
 {f35:Addr} {o35 v35 e35 p35 q35 t35:Value} {d35 n35:Option Addr} {r35:Array (Option Value)}
 {f36:Addr} {o36 v36 e36 p36 q36 t36:Value} {d36 n36:Option Addr} {r36:Array (Option Value)}
 {f37:Addr} {o37 v37 e37 p37 q37 t37:Value} {d37 n37:Option Addr} {r37:Array (Option Value)}
 {f38:Addr} {o38 v38 e38 p38 q38 t38:Value} {d38 n38:Option Addr} {r38:Array (Option Value)}
 {f39:Addr} {o39 v39 e39 p39 q39 t39:Value} {d39 n39:Option Addr} {r39:Array (Option Value)}
 {f40:Addr} {o40 v40 e40 p40 q40 t40:Value} {d40 n40:Option Addr} {r40:Array (Option Value)}
 {f41:Addr} {o41 v41 e41 p41 q41 t41:Value} {d41 n41:Option Addr} {r41:Array (Option Value)}
 {f42:Addr} {o42 v42 e42 p42 q42 t42:Value} {d42 n42:Option Addr} {r42:Array (Option Value)}
 {f43:Addr} {o43 v43 e43 p43 q43 t43:Value} {d43 n43:Option Addr} {r43:Array (Option Value)}
 {f44:Addr} {o44 v44 e44 p44 q44 t44:Value} {d44 n44:Option Addr} {r44:Array (Option Value)}
 {f45:Addr} {o45 v45 e45 p45 q45 t45:Value} {d45 n45:Option Addr} {r45:Array (Option Value)}
 {f46:Addr} {o46 v46 e46 p46 q46 t46:Value} {d46 n46:Option Addr} {r46:Array (Option Value)}
 {f47:Addr} {o47 v47 e47 p47 q47 t47:Value} {d47 n47:Option Addr} {r47:Array (Option Value)}
 {f48:Addr} {o48 v48 e48 p48 q48 t48:Value} {d48 n48:Option Addr} {r48:Array (Option Value)}
 {f49:Addr} {o49 v49 e49 p49 q49 t49:Value} {d49 n49:Option Addr} {r49:Array (Option Value)}
 {f50:Addr} {o50 v50 e50 p50 q50 t50:Value} {d50 n50:Option Addr} {r50:Array (Option Value)}
 {f51:Addr} {o51 v51 e51 p51 q51 t51:Value} {d51 n51:Option Addr} {r51:Array (Option Value)}
 {f52:Addr} {o52 v52 e52 p52 q52 t52:Value} {d52 n52:Option Addr} {r52:Array (Option Value)}
 {f53:Addr} {o53 v53 e53 p53 q53 t53:Value} {d53 n53:Option Addr} {r53:Array (Option Value)}
 {f54:Addr} {o54 v54 e54 p54 q54 t54:Value} {d54 n54:Option Addr} {r54:Array (Option Value)}
 (m_NoAnswer:PySem.W.nsIn K mainGlobals "NoAnswer" = some (some (.ref c_NoAnswer)))
 (m_NoPart:PySem.W.nsIn K mainGlobals "NoPart" = some (some (.ref c_NoPart)))
 (hd_NoAnswer:PySem.W.hasDictIn K c_NoAnswer=true) (ty_NoAnswer:PySem.W.typeIn K (.ref c_NoAnswer)=some (.type "type"))
 (hd_NoPart:PySem.W.hasDictIn K c_NoPart=true) (ty_NoPart:PySem.W.typeIn K (.ref c_NoPart)=some (.type "type"))
 (sn_:PySem.W.specialIn K (.builtin "object.__class__") "__get__" = some (some (.builtin "getset_descriptor.__get__"))) (tk_:PySem.W.takesIn K (.builtin "object.__class__")=some true)
 (x_NoAnswer:PySem.W.excIn K c_NoAnswer [.type "ValueError",.type "Exception",.type "BaseException",.type "object"] "ValueError.__new__" = true) (ga_NoAnswer:PySem.W.findIn K (.ref c_NoAnswer) "__getattribute__" = some (some (.builtin "BaseException.__getattribute__"))) (gn_NoAnswer:PySem.W.findIn K (.ref c_NoAnswer) "__getattr__" = some none) (be_NoAnswer:PySem.W.mroIn K c_NoAnswer (.type "BaseException")=some true) (fa_NoAnswer:PySem.W.findIn K (.ref c_NoAnswer) "__class__" = some (some (.builtin "object.__class__"))) (mo_NoAnswer:PySem.W.mroIn K c_NoAnswer (.type "object")=some true)
 (s_NoAnswer_NoAnswer:PySem.W.subIn K (.ref c_NoAnswer) (.ref c_NoAnswer)=some true)
 (s_NoAnswer_NoPart:PySem.W.subIn K (.ref c_NoAnswer) (.ref c_NoPart)=some false)
 (n_NoAnswer_NoPart:c_NoAnswer≠c_NoPart)
 (x_NoPart:PySem.W.excIn K c_NoPart [.type "ValueError",.type "Exception",.type "BaseException",.type "object"] "ValueError.__new__" = true) (ga_NoPart:PySem.W.findIn K (.ref c_NoPart) "__getattribute__" = some (some (.builtin "BaseException.__getattribute__"))) (gn_NoPart:PySem.W.findIn K (.ref c_NoPart) "__getattr__" = some none) (be_NoPart:PySem.W.mroIn K c_NoPart (.type "BaseException")=some true) (fa_NoPart:PySem.W.findIn K (.ref c_NoPart) "__class__" = some (some (.builtin "object.__class__"))) (mo_NoPart:PySem.W.mroIn K c_NoPart (.type "object")=some true)
 (s_NoPart_NoAnswer:PySem.W.subIn K (.ref c_NoPart) (.ref c_NoAnswer)=some false)
 (n_NoPart_NoAnswer:c_NoPart≠c_NoAnswer)
 (s_NoPart_NoPart:PySem.W.subIn K (.ref c_NoPart) (.ref c_NoPart)=some true)
 (a0:PySem.W.nsIn K mainGlobals "divisor" = some (some (.ref f0))) (l0:K.lookup f0=some ⟨o0,d0,.func (PySem.W.fnOf "divisor" "divisor" (zE zci) (zD zci) (zi zci) .none v0 e0 p0 n0 q0 t0),r0⟩) (c0:PySem.W.codeIn K q0 "divisor" = true) (k0:PySem.W.keepIn K (.ref f0)=true)
 (a1:PySem.W.nsIn K mainGlobals "part" = some (some (.ref f1))) (l1:K.lookup f1=some ⟨o1,d1,.func (PySem.W.fnOf "part" "part" (zE zdO) (zD zdO) (zi zdO) .none v1 e1 p1 n1 q1 t1),r1⟩) (c1:PySem.W.codeIn K q1 "part" = true) (k1:PySem.W.keepIn K (.ref f1)=true)
 (a2:PySem.W.nsIn K mainGlobals "plus" = some (some (.ref f2))) (l2:K.lookup f2=some ⟨o2,d2,.func (PySem.W.fnOf "plus" "plus" (zE zdS) (zD zdS) (zi zdS) .none v2 e2 p2 n2 q2 t2),r2⟩) (c2:PySem.W.codeIn K q2 "plus" = true) (k2:PySem.W.keepIn K (.ref f2)=true)
 (a3:PySem.W.nsIn K mainGlobals "minus" = some (some (.ref f3))) (l3:K.lookup f3=some ⟨o3,d3,.func (PySem.W.fnOf "minus" "minus" (zE zc7) (zD zc7) (zi zc7) .none v3 e3 p3 n3 q3 t3),r3⟩) (c3:PySem.W.codeIn K q3 "minus" = true) (k3:PySem.W.keepIn K (.ref f3)=true)
 (a4:PySem.W.nsIn K mainGlobals "times" = some (some (.ref f4))) (l4:K.lookup f4=some ⟨o4,d4,.func (PySem.W.fnOf "times" "times" (zE zdb) (zD zdb) (zi zdb) .none v4 e4 p4 n4 q4 t4),r4⟩) (c4:PySem.W.codeIn K q4 "times" = true) (k4:PySem.W.keepIn K (.ref f4)=true)
 (a5:PySem.W.nsIn K mainGlobals "over" = some (some (.ref f5))) (l5:K.lookup f5=some ⟨o5,d5,.func (PySem.W.fnOf "over" "over" (zE zdM) (zD zdM) (zi zdM) .none v5 e5 p5 n5 q5 t5),r5⟩) (c5:PySem.W.codeIn K q5 "over" = true) (k5:PySem.W.keepIn K (.ref f5)=true)
 (a6:PySem.W.nsIn K mainGlobals "under" = some (some (.ref f6))) (l6:K.lookup f6=some ⟨o6,d6,.func (PySem.W.fnOf "under" "under" (zE zda) (zD zda) (zi zda) .none v6 e6 p6 n6 q6 t6),r6⟩) (c6:PySem.W.codeIn K q6 "under" = true) (k6:PySem.W.keepIn K (.ref f6)=true)
 (a7:PySem.W.nsIn K mainGlobals "least" = some (some (.ref f7))) (l7:K.lookup f7=some ⟨o7,d7,.func (PySem.W.fnOf "least" "least" (zE zc6) (zD zc6) (zi zc6) .none v7 e7 p7 n7 q7 t7),r7⟩) (c7:PySem.W.codeIn K q7 "least" = true) (k7:PySem.W.keepIn K (.ref f7)=true)
 (a8:PySem.W.nsIn K mainGlobals "ranked" = some (some (.ref f8))) (l8:K.lookup f8=some ⟨o8,d8,.func (PySem.W.fnOf "ranked" "ranked" (zE zcK) (zD zcK) (zi zcK) .none v8 e8 p8 n8 q8 t8),r8⟩) (c8:PySem.W.codeIn K q8 "ranked" = true) (k8:PySem.W.keepIn K (.ref f8)=true)
 (a9:PySem.W.nsIn K mainGlobals "amounts_of" = some (some (.ref f9))) (l9:K.lookup f9=some ⟨o9,d9,.func (PySem.W.fnOf "amounts_of" "amounts_of" (zE zbo) (zD zbo) (zi zbo) .none v9 e9 p9 n9 q9 t9),r9⟩) (c9:PySem.W.codeIn K q9 "amounts_of" = true) (k9:PySem.W.keepIn K (.ref f9)=true)
 (a10:PySem.W.nsIn K mainGlobals "with_amounts" = some (some (.ref f10))) (l10:K.lookup f10=some ⟨o10,d10,.func (PySem.W.fnOf "with_amounts" "with_amounts" (zE zaQ) (zD zaQ) (zi zaQ) .none v10 e10 p10 n10 q10 t10),r10⟩) (c10:PySem.W.codeIn K q10 "with_amounts" = true) (k10:PySem.W.keepIn K (.ref f10)=true)
 (a11:PySem.W.nsIn K mainGlobals "stop_of" = some (some (.ref f11))) (l11:K.lookup f11=some ⟨o11,d11,.func (PySem.W.fnOf "stop_of" "stop_of" (zE zcj) (zD zcj) (zi zcj) .none v11 e11 p11 n11 q11 t11),r11⟩) (c11:PySem.W.codeIn K q11 "stop_of" = true) (k11:PySem.W.keepIn K (.ref f11)=true)
 (a12:PySem.W.nsIn K mainGlobals "solved" = some (some (.ref f12))) (l12:K.lookup f12=some ⟨o12,d12,.func (PySem.W.fnOf "solved" "solved" (zE zcJ) (zD zcJ) (zi zcJ) .none v12 e12 p12 n12 q12 t12),r12⟩) (c12:PySem.W.codeIn K q12 "solved" = true) (k12:PySem.W.keepIn K (.ref f12)=true)
 (a13:PySem.W.nsIn K mainGlobals "whole_row" = some (some (.ref f13))) (l13:K.lookup f13=some ⟨o13,d13,.func (PySem.W.fnOf "whole_row" "whole_row" (zE zbz) (zD zbz) (zi zbz) .none v13 e13 p13 n13 q13 t13),r13⟩) (c13:PySem.W.codeIn K q13 "whole_row" = true) (k13:PySem.W.keepIn K (.ref f13)=true)
 (a14:PySem.W.nsIn K mainGlobals "with_first" = some (some (.ref f14))) (l14:K.lookup f14=some ⟨o14,d14,.func (PySem.W.fnOf "with_first" "with_first" (zE zbp) (zD zbp) (zi zbp) .none v14 e14 p14 n14 q14 t14),r14⟩) (c14:PySem.W.codeIn K q14 "with_first" = true) (k14:PySem.W.keepIn K (.ref f14)=true)
 (a15:PySem.W.nsIn K mainGlobals "swept" = some (some (.ref f15))) (l15:K.lookup f15=some ⟨o15,d15,.func (PySem.W.fnOf "swept" "swept" (zE zdd) (zD zdd) (zi zdd) .none v15 e15 p15 n15 q15 t15),r15⟩) (c15:PySem.W.codeIn K q15 "swept" = true) (k15:PySem.W.keepIn K (.ref f15)=true)
 (a16:PySem.W.nsIn K mainGlobals "swept_row" = some (some (.ref f16))) (l16:K.lookup f16=some ⟨o16,d16,.func (PySem.W.fnOf "swept_row" "swept_row" (zE zbG) (zD zbG) (zi zbG) .none v16 e16 p16 n16 q16 t16),r16⟩) (c16:PySem.W.codeIn K q16 "swept_row" = true) (k16:PySem.W.keepIn K (.ref f16)=true)
 (a17:PySem.W.nsIn K mainGlobals "cleared" = some (some (.ref f17))) (l17:K.lookup f17=some ⟨o17,d17,.func (PySem.W.fnOf "cleared" "cleared" (zE zch) (zD zch) (zi zch) .none v17 e17 p17 n17 q17 t17),r17⟩) (c17:PySem.W.codeIn K q17 "cleared" = true) (k17:PySem.W.keepIn K (.ref f17)=true)
 (a18:PySem.W.nsIn K mainGlobals "flows_of" = some (some (.ref f18))) (l18:K.lookup f18=some ⟨o18,d18,.func (PySem.W.fnOf "flows_of" "flows_of" (zE zbX) (zD zbX) (zi zbX) .none v18 e18 p18 n18 q18 t18),r18⟩) (c18:PySem.W.codeIn K q18 "flows_of" = true) (k18:PySem.W.keepIn K (.ref f18)=true)
 (a19:PySem.W.nsIn K mainGlobals "closed_circle" = some (some (.ref f19))) (l19:K.lookup f19=some ⟨o19,d19,.func (PySem.W.fnOf "closed_circle" "closed_circle" (zE zaI) (zD zaI) (zi zaI) .none v19 e19 p19 n19 q19 t19),r19⟩) (c19:PySem.W.codeIn K q19 "closed_circle" = true) (k19:PySem.W.keepIn K (.ref f19)=true)
 (a20:PySem.W.nsIn K mainGlobals "reach_of" = some (some (.ref f20))) (l20:K.lookup f20=some ⟨o20,d20,.func (PySem.W.fnOf "reach_of" "reach_of" (zE zbZ) (zD zbZ) (zi zbZ) .none v20 e20 p20 n20 q20 t20),r20⟩) (c20:PySem.W.codeIn K q20 "reach_of" = true) (k20:PySem.W.keepIn K (.ref f20)=true)
 (a21:PySem.W.nsIn K mainGlobals "balances" = some (some (.ref f21))) (l21:K.lookup f21=some ⟨o21,d21,.func (PySem.W.fnOf "balances" "balances" (zE zbU) (zD zbU) (zi zbU) .none v21 e21 p21 n21 q21 t21),r21⟩) (c21:PySem.W.codeIn K q21 "balances" = true) (k21:PySem.W.keepIn K (.ref f21)=true)
 (a22:PySem.W.nsIn K mainGlobals "circling_rates" = some (some (.ref f22))) (l22:K.lookup f22=some ⟨o22,d22,.func (PySem.W.fnOf "circling_rates" "circling_rates" (zE zaD) (zD zaD) (zi zaD) .none v22 e22 p22 n22 q22 t22),r22⟩) (c22:PySem.W.codeIn K q22 "circling_rates" = true) (k22:PySem.W.keepIn K (.ref f22)=true)
 (a23:PySem.W.nsIn K mainGlobals "opening_rates" = some (some (.ref f23))) (l23:K.lookup f23=some ⟨o23,d23,.func (PySem.W.fnOf "opening_rates" "opening_rates" (zE zaK) (zD zaK) (zi zaK) .none v23 e23 p23 n23 q23 t23),r23⟩) (c23:PySem.W.codeIn K q23 "opening_rates" = true) (k23:PySem.W.keepIn K (.ref f23)=true)
 (a24:PySem.W.nsIn K mainGlobals "rates_of" = some (some (.ref f24))) (l24:K.lookup f24=some ⟨o24,d24,.func (PySem.W.fnOf "rates_of" "rates_of" (zE zb3) (zD zb3) (zi zb3) .none v24 e24 p24 n24 q24 t24),r24⟩) (c24:PySem.W.codeIn K q24 "rates_of" = true) (k24:PySem.W.keepIn K (.ref f24)=true)
 (a25:PySem.W.nsIn K mainGlobals "least_room" = some (some (.ref f25))) (l25:K.lookup f25=some ⟨o25,d25,.func (PySem.W.fnOf "least_room" "least_room" (zE zbg) (zD zbg) (zi zbg) .none v25 e25 p25 n25 q25 t25),r25⟩) (c25:PySem.W.codeIn K q25 "least_room" = true) (k25:PySem.W.keepIn K (.ref f25)=true)
 (a26:PySem.W.nsIn K mainGlobals "grown" = some (some (.ref f26))) (l26:K.lookup f26=some ⟨o26,d26,.func (PySem.W.fnOf "grown" "grown" (zE zdf) (zD zdf) (zi zdf) .none v26 e26 p26 n26 q26 t26),r26⟩) (c26:PySem.W.codeIn K q26 "grown" = true) (k26:PySem.W.keepIn K (.ref f26)=true)
 (a27:PySem.W.nsIn K mainGlobals "a_ring" = some (some (.ref f27))) (l27:K.lookup f27=some ⟨o27,d27,.func (PySem.W.fnOf "a_ring" "a_ring" (zE zcL) (zD zcL) (zi zcL) .none v27 e27 p27 n27 q27 t27),r27⟩) (c27:PySem.W.codeIn K q27 "a_ring" = true) (k27:PySem.W.keepIn K (.ref f27)=true)
 (a28:PySem.W.nsIn K mainGlobals "ways_onward" = some (some (.ref f28))) (l28:K.lookup f28=some ⟨o28,d28,.func (PySem.W.fnOf "ways_onward" "ways_onward" (zE za6) (zD za6) (zi za6) .none v28 e28 p28 n28 q28 t28),r28⟩) (c28:PySem.W.codeIn K q28 "ways_onward" = true) (k28:PySem.W.keepIn K (.ref f28)=true)
 (a29:PySem.W.nsIn K mainGlobals "dues_among" = some (some (.ref f29))) (l29:K.lookup f29=some ⟨o29,d29,.func (PySem.W.fnOf "dues_among" "dues_among" (zE zbh) (zD zbh) (zi zbh) .none v29 e29 p29 n29 q29 t29),r29⟩) (c29:PySem.W.codeIn K q29 "dues_among" = true) (k29:PySem.W.keepIn K (.ref f29)=true)
 (a30:PySem.W.nsIn K mainGlobals "cut" = some (some (.ref f30))) (l30:K.lookup f30=some ⟨o30,d30,.func (PySem.W.fnOf "cut" "cut" (zE zep) (zD zep) (zi zep) .none v30 e30 p30 n30 q30 t30),r30⟩) (c30:PySem.W.codeIn K q30 "cut" = true) (k30:PySem.W.keepIn K (.ref f30)=true)
 (a31:PySem.W.nsIn K mainGlobals "stops" = some (some (.ref f31))) (l31:K.lookup f31=some ⟨o31,d31,.func (PySem.W.fnOf "stops" "stops" (zE zdh) (zD zdh) (zi zdh) .none v31 e31 p31 n31 q31 t31),r31⟩) (c31:PySem.W.codeIn K q31 "stops" = true) (k31:PySem.W.keepIn K (.ref f31)=true)
 (a32:PySem.W.nsIn K mainGlobals "safe_cut" = some (some (.ref f32))) (l32:K.lookup f32=some ⟨o32,d32,.func (PySem.W.fnOf "safe_cut" "safe_cut" (zE zbY) (zD zbY) (zi zbY) .none v32 e32 p32 n32 q32 t32),r32⟩) (c32:PySem.W.codeIn K q32 "safe_cut" = true) (k32:PySem.W.keepIn K (.ref f32)=true)
 (a33:PySem.W.nsIn K mainGlobals "_law_cell" = some (some (.ref f33))) (l33:K.lookup f33=some ⟨o33,d33,.func (PySem.W.fnOf "_law_cell" "_law_cell" (zE zbD) (zD zbD) (zi zbD) .none v33 e33 p33 n33 q33 t33),r33⟩) (c33:PySem.W.codeIn K q33 "_law_cell" = true) (k33:PySem.W.keepIn K (.ref f33)=true)
 (a34:PySem.W.nsIn K mainGlobals "_law_draw" = some (some (.ref f34))) (l34:K.lookup f34=some ⟨o34,d34,.func (PySem.W.fnOf "_law_draw" "_law_draw" (zE zby) (zD zby) (zi zby) .none v34 e34 p34 n34 q34 t34),r34⟩) (c34:PySem.W.codeIn K q34 "_law_draw" = true) (k34:PySem.W.keepIn K (.ref f34)=true)
 (a35:PySem.W.nsIn K mainGlobals "_law_great" = some (some (.ref f35))) (l35:K.lookup f35=some ⟨o35,d35,.func (PySem.W.fnOf "_law_great" "_law_great" (zE zbi) (zD zbi) (zi zbi) .none v35 e35 p35 n35 q35 t35),r35⟩) (c35:PySem.W.codeIn K q35 "_law_great" = true) (k35:PySem.W.keepIn K (.ref f35)=true)
 (a36:PySem.W.nsIn K mainGlobals "_law_many" = some (some (.ref f36))) (l36:K.lookup f36=some ⟨o36,d36,.func (PySem.W.fnOf "_law_many" "_law_many" (zE zbv) (zD zbv) (zi zbv) .none v36 e36 p36 n36 q36 t36),r36⟩) (c36:PySem.W.codeIn K q36 "_law_many" = true) (k36:PySem.W.keepIn K (.ref f36)=true)
 (a37:PySem.W.nsIn K mainGlobals "_law_count" = some (some (.ref f37))) (l37:K.lookup f37=some ⟨o37,d37,.func (PySem.W.fnOf "_law_count" "_law_count" (zE zbk) (zD zbk) (zi zbk) .none v37 e37 p37 n37 q37 t37),r37⟩) (c37:PySem.W.codeIn K q37 "_law_count" = true) (k37:PySem.W.keepIn K (.ref f37)=true)
 (a38:PySem.W.nsIn K mainGlobals "_law_most" = some (some (.ref f38))) (l38:K.lookup f38=some ⟨o38,d38,.func (PySem.W.fnOf "_law_most" "_law_most" (zE zbw) (zD zbw) (zi zbw) .none v38 e38 p38 n38 q38 t38),r38⟩) (c38:PySem.W.codeIn K q38 "_law_most" = true) (k38:PySem.W.keepIn K (.ref f38)=true)
 (a39:PySem.W.nsIn K mainGlobals "_law_amount" = some (some (.ref f39))) (l39:K.lookup f39=some ⟨o39,d39,.func (PySem.W.fnOf "_law_amount" "_law_amount" (zE za2) (zD za2) (zi za2) .none v39 e39 p39 n39 q39 t39),r39⟩) (c39:PySem.W.codeIn K q39 "_law_amount" = true) (k39:PySem.W.keepIn K (.ref f39)=true)
 (a40:PySem.W.nsIn K mainGlobals "_law_due" = some (some (.ref f40))) (l40:K.lookup f40=some ⟨o40,d40,.func (PySem.W.fnOf "_law_due" "_law_due" (zE zb2) (zD zb2) (zi zb2) .none v40 e40 p40 n40 q40 t40),r40⟩) (c40:PySem.W.codeIn K q40 "_law_due" = true) (k40:PySem.W.keepIn K (.ref f40)=true)
 (a41:PySem.W.nsIn K mainGlobals "_law_sheet" = some (some (.ref f41))) (l41:K.lookup f41=some ⟨o41,d41,.func (PySem.W.fnOf "_law_sheet" "_law_sheet" (zE zbf) (zD zbf) (zi zbf) .none v41 e41 p41 n41 q41 t41),r41⟩) (c41:PySem.W.codeIn K q41 "_law_sheet" = true) (k41:PySem.W.keepIn K (.ref f41)=true)
 (a42:PySem.W.nsIn K mainGlobals "_law_purse" = some (some (.ref f42))) (l42:K.lookup f42=some ⟨o42,d42,.func (PySem.W.fnOf "_law_purse" "_law_purse" (zE zbe) (zD zbe) (zi zbe) .none v42 e42 p42 n42 q42 t42),r42⟩) (c42:PySem.W.codeIn K q42 "_law_purse" = true) (k42:PySem.W.keepIn K (.ref f42)=true)
 (a43:PySem.W.nsIn K mainGlobals "_law_purses" = some (some (.ref f43))) (l43:K.lookup f43=some ⟨o43,d43,.func (PySem.W.fnOf "_law_purses" "_law_purses" (zE za3) (zD za3) (zi za3) .none v43 e43 p43 n43 q43 t43),r43⟩) (c43:PySem.W.codeIn K q43 "_law_purses" = true) (k43:PySem.W.keepIn K (.ref f43)=true)
 (a44:PySem.W.nsIn K mainGlobals "_law_whole" = some (some (.ref f44))) (l44:K.lookup f44=some ⟨o44,d44,.func (PySem.W.fnOf "_law_whole" "_law_whole" (zE zbj) (zD zbj) (zi zbj) .none v44 e44 p44 n44 q44 t44),r44⟩) (c44:PySem.W.codeIn K q44 "_law_whole" = true) (k44:PySem.W.keepIn K (.ref f44)=true)
 (a45:PySem.W.nsIn K mainGlobals "_law_divisor" = some (some (.ref f45))) (l45:K.lookup f45=some ⟨o45,d45,.func (PySem.W.fnOf "_law_divisor" "_law_divisor" (zE zaS) (zD zaS) (zi zaS) .none v45 e45 p45 n45 q45 t45),r45⟩) (c45:PySem.W.codeIn K q45 "_law_divisor" = true) (k45:PySem.W.keepIn K (.ref f45)=true)
 (a46:PySem.W.nsIn K mainGlobals "_law_is_part" = some (some (.ref f46))) (l46:K.lookup f46=some ⟨o46,d46,.func (PySem.W.fnOf "_law_is_part" "_law_is_part" (zE zaR) (zD zaR) (zi zaR) .none v46 e46 p46 n46 q46 t46),r46⟩) (c46:PySem.W.codeIn K q46 "_law_is_part" = true) (k46:PySem.W.keepIn K (.ref f46)=true)
 (a47:PySem.W.nsIn K mainGlobals "_law_parts" = some (some (.ref f47))) (l47:K.lookup f47=some ⟨o47,d47,.func (PySem.W.fnOf "_law_parts" "_law_parts" (zE zbm) (zD zbm) (zi zbm) .none v47 e47 p47 n47 q47 t47),r47⟩) (c47:PySem.W.codeIn K q47 "_law_parts" = true) (k47:PySem.W.keepIn K (.ref f47)=true)
 (a48:PySem.W.nsIn K mainGlobals "_law_sums" = some (some (.ref f48))) (l48:K.lookup f48=some ⟨o48,d48,.func (PySem.W.fnOf "_law_sums" "_law_sums" (zE zbE) (zD zbE) (zi zbE) .none v48 e48 p48 n48 q48 t48),r48⟩) (c48:PySem.W.codeIn K q48 "_law_sums" = true) (k48:PySem.W.keepIn K (.ref f48)=true)
 (a49:PySem.W.nsIn K mainGlobals "_law_stand" = some (some (.ref f49))) (l49:K.lookup f49=some ⟨o49,d49,.func (PySem.W.fnOf "_law_stand" "_law_stand" (zE zbn) (zD zbn) (zi zbn) .none v49 e49 p49 n49 q49 t49),r49⟩) (c49:PySem.W.codeIn K q49 "_law_stand" = true) (k49:PySem.W.keepIn K (.ref f49)=true)
 (a50:PySem.W.nsIn K mainGlobals "_law_nets" = some (some (.ref f50))) (l50:K.lookup f50=some ⟨o50,d50,.func (PySem.W.fnOf "_law_nets" "_law_nets" (zE zbx) (zD zbx) (zi zbx) .none v50 e50 p50 n50 q50 t50),r50⟩) (c50:PySem.W.codeIn K q50 "_law_nets" = true) (k50:PySem.W.keepIn K (.ref f50)=true)
 (a51:PySem.W.nsIn K mainGlobals "_law_pays_one" = some (some (.ref f51))) (l51:K.lookup f51=some ⟨o51,d51,.func (PySem.W.fnOf "_law_pays_one" "_law_pays_one" (zE zaJ) (zD zaJ) (zi zaJ) .none v51 e51 p51 n51 q51 t51),r51⟩) (c51:PySem.W.codeIn K q51 "_law_pays_one" = true) (k51:PySem.W.keepIn K (.ref f51)=true)
 (a52:PySem.W.nsIn K mainGlobals "_law_ringless" = some (some (.ref f52))) (l52:K.lookup f52=some ⟨o52,d52,.func (PySem.W.fnOf "_law_ringless" "_law_ringless" (zE zaM) (zD zaM) (zi zaM) .none v52 e52 p52 n52 q52 t52),r52⟩) (c52:PySem.W.codeIn K q52 "_law_ringless" = true) (k52:PySem.W.keepIn K (.ref f52)=true)
 (a53:PySem.W.nsIn K mainGlobals "_law_left" = some (some (.ref f53))) (l53:K.lookup f53=some ⟨o53,d53,.func (PySem.W.fnOf "_law_left" "_law_left" (zE zbA) (zD zbA) (zi zbA) .none v53 e53 p53 n53 q53 t53),r53⟩) (c53:PySem.W.codeIn K q53 "_law_left" = true) (k53:PySem.W.keepIn K (.ref f53)=true)
 (a54:PySem.W.nsIn K mainGlobals "law" = some (some (.ref f54))) (l54:K.lookup f54=some ⟨o54,d54,.func (PySem.W.fnOf "law" "law" (zE zev) (zD zev) (zi zev) .none v54 e54 p54 n54 q54 t54),r54⟩) (c54:PySem.W.codeIn K q54 "law" = true) (k54:PySem.W.keepIn K (.ref f54)=true)
 (w_abs:PySem.W.nsIn K mainGlobals "abs" = some none)
 (w_all:PySem.W.nsIn K mainGlobals "all" = some none)
 (w_bool:PySem.W.nsIn K mainGlobals "bool" = some none)
 (w_enumerate:PySem.W.nsIn K mainGlobals "enumerate" = some none)
 (w_int:PySem.W.nsIn K mainGlobals "int" = some none)
 (w_isinstance:PySem.W.nsIn K mainGlobals "isinstance" = some none)
 (w_len:PySem.W.nsIn K mainGlobals "len" = some none)
 (w_list:PySem.W.nsIn K mainGlobals "list" = some none)
 (w_min:PySem.W.nsIn K mainGlobals "min" = some none)
 (w_range:PySem.W.nsIn K mainGlobals "range" = some none)
 (w_sum:PySem.W.nsIn K mainGlobals "sum" = some none)
 (w_tuple:PySem.W.nsIn K mainGlobals "tuple" = some none)
 (w_zip:PySem.W.nsIn K mainGlobals "zip" = some none):Txt K mg:={
 c_NoAnswer:=c_NoAnswer,m_NoAnswer:=yk X G m_NoAnswer,
 c_NoPart:=c_NoPart,m_NoPart:=yk X G m_NoPart,
 e_NoAnswer:=zjo x_NoAnswer ga_NoAnswer gn_NoAnswer be_NoAnswer hd_NoAnswer fa_NoAnswer sn_ tk_ mo_NoAnswer,
 i_NoAnswer_NoAnswer:=zji,
 i_NoAnswer_NoPart:=zl6 n_NoAnswer_NoPart hd_NoPart ty_NoPart s_NoAnswer_NoPart,
 e_NoPart:=zjo x_NoPart ga_NoPart gn_NoPart be_NoPart hd_NoPart fa_NoPart sn_ tk_ mo_NoPart,
 i_NoPart_NoAnswer:=zl6 n_NoPart_NoAnswer hd_NoAnswer ty_NoAnswer s_NoPart_NoAnswer,
 i_NoPart_NoPart:=zji,
 d_divisor:={ a:=f0,fd:=_,F:=zo (st:=zci) l0 c0 k0,b:=(zo (st:=zci) l0 c0 k0).binds (ps:=["one", "other"]) fun _ _ _ _ _ _ us hl=>(by obtain⟨_,_,rfl⟩:=len2 hl;rfl),m:=yk X G a0 },
 d_part:={ a:=f1,fd:=_,F:=zo (st:=zdO) l1 c1 k1,b:=(zo (st:=zdO) l1 c1 k1).binds (ps:=["top", "bottom"]) fun _ _ _ _ _ _ us hl=>(by obtain⟨_,_,rfl⟩:=len2 hl;rfl),m:=yk X G a1 },
 d_plus:={ a:=f2,fd:=_,F:=zo (st:=zdS) l2 c2 k2,b:=(zo (st:=zdS) l2 c2 k2).binds (ps:=["one", "other"]) fun _ _ _ _ _ _ us hl=>(by obtain⟨_,_,rfl⟩:=len2 hl;rfl),m:=yk X G a2 },
 d_minus:={ a:=f3,fd:=_,F:=zo (st:=zc7) l3 c3 k3,b:=(zo (st:=zc7) l3 c3 k3).binds (ps:=["one", "other"]) fun _ _ _ _ _ _ us hl=>(by obtain⟨_,_,rfl⟩:=len2 hl;rfl),m:=yk X G a3 },
 d_times:={ a:=f4,fd:=_,F:=zo (st:=zdb) l4 c4 k4,b:=(zo (st:=zdb) l4 c4 k4).binds (ps:=["one", "other"]) fun _ _ _ _ _ _ us hl=>(by obtain⟨_,_,rfl⟩:=len2 hl;rfl),m:=yk X G a4 },
 d_over:={ a:=f5,fd:=_,F:=zo (st:=zdM) l5 c5 k5,b:=(zo (st:=zdM) l5 c5 k5).binds (ps:=["one", "other"]) fun _ _ _ _ _ _ us hl=>(by obtain⟨_,_,rfl⟩:=len2 hl;rfl),m:=yk X G a5 },
 d_under:={ a:=f6,fd:=_,F:=zo (st:=zda) l6 c6 k6,b:=(zo (st:=zda) l6 c6 k6).binds (ps:=["one", "other"]) fun _ _ _ _ _ _ us hl=>(by obtain⟨_,_,rfl⟩:=len2 hl;rfl),m:=yk X G a6 },
 d_least:={ a:=f7,fd:=_,F:=zo (st:=zc6) l7 c7 k7,b:=(zo (st:=zc6) l7 c7 k7).binds (ps:=["one", "other"]) fun _ _ _ _ _ _ us hl=>(by obtain⟨_,_,rfl⟩:=len2 hl;rfl),m:=yk X G a7 },
 d_ranked:={ a:=f8,fd:=_,F:=zo (st:=zcK) l8 c8 k8,b:=(zo (st:=zcK) l8 c8 k8).binds (ps:=["many", "sheet"]) fun _ _ _ _ _ _ us hl=>(by obtain⟨_,_,rfl⟩:=len2 hl;rfl),m:=yk X G a8 },
 d_amounts_of:={ a:=f9,fd:=_,F:=zo (st:=zbo) l9 c9 k9,b:=(zo (st:=zbo) l9 c9 k9).binds (ps:=["sheet"]) fun _ _ _ _ _ _ us hl=>(by obtain⟨_,rfl⟩:=len1 hl;rfl),m:=yk X G a9 },
 d_with_amounts:={ a:=f10,fd:=_,F:=zo (st:=zaQ) l10 c10 k10,b:=(zo (st:=zaQ) l10 c10 k10).binds (ps:=["sheet", "amounts"]) fun _ _ _ _ _ _ us hl=>(by obtain⟨_,_,rfl⟩:=len2 hl;rfl),m:=yk X G a10 },
 d_stop_of:={ a:=f11,fd:=_,F:=zo (st:=zcj) l11 c11 k11,b:=(zo (st:=zcj) l11 c11 k11).binds (ps:=["owed", "lay"]) fun _ _ _ _ _ _ us hl=>(by obtain⟨_,_,rfl⟩:=len2 hl;rfl),m:=yk X G a11 },
 d_solved:={ a:=f12,fd:=_,F:=zo (st:=zcJ) l12 c12 k12,b:=(zo (st:=zcJ) l12 c12 k12).binds (ps:=["rows", "right"]) fun _ _ _ _ _ _ us hl=>(by obtain⟨_,_,rfl⟩:=len2 hl;rfl),m:=yk X G a12 },
 d_whole_row:={ a:=f13,fd:=_,F:=zo (st:=zbz) l13 c13 k13,b:=(zo (st:=zbz) l13 c13 k13).binds (ps:=["row"]) fun _ _ _ _ _ _ us hl=>(by obtain⟨_,rfl⟩:=len1 hl;rfl),m:=yk X G a13 },
 d_with_first:={ a:=f14,fd:=_,F:=zo (st:=zbp) l14 c14 k14,b:=(zo (st:=zbp) l14 c14 k14).binds (ps:=["table", "place"]) fun _ _ _ _ _ _ us hl=>(by obtain⟨_,_,rfl⟩:=len2 hl;rfl),m:=yk X G a14 },
 d_swept:={ a:=f15,fd:=_,F:=zo (st:=zdd) l15 c15 k15,b:=(zo (st:=zdd) l15 c15 k15).binds (ps:=["table", "place", "before"]) fun _ _ _ _ _ _ us hl=>(by obtain⟨_,_,_,rfl⟩:=len3 hl;rfl),m:=yk X G a15 },
 d_swept_row:={ a:=f16,fd:=_,F:=zo (st:=zbG) l16 c16 k16,b:=(zo (st:=zbG) l16 c16 k16).binds (ps:=["row", "sweeper", "place", "before"]) fun _ _ _ _ _ _ us hl=>(by obtain⟨_,_,_,_,rfl⟩:=len4 hl;rfl),m:=yk X G a16 },
 d_cleared:={ a:=f17,fd:=_,F:=zo (st:=zch) l17 c17 k17,b:=(zo (st:=zch) l17 c17 k17).binds (ps:=["sheet", "purses"]) fun _ _ _ _ _ _ us hl=>(by obtain⟨_,_,rfl⟩:=len2 hl;rfl),m:=yk X G a17 },
 d_flows_of:={ a:=f18,fd:=_,F:=zo (st:=zbX) l18 c18 k18,b:=(zo (st:=zbX) l18 c18 k18).binds (ps:=["sheet", "ranks"]) fun _ _ _ _ _ _ us hl=>(by obtain⟨_,_,rfl⟩:=len2 hl;rfl),m:=yk X G a18 },
 d_closed_circle:={ a:=f19,fd:=_,F:=zo (st:=zaI) l19 c19 k19,b:=(zo (st:=zaI) l19 c19 k19).binds (ps:=["flows", "ranks"]) fun _ _ _ _ _ _ us hl=>(by obtain⟨_,_,rfl⟩:=len2 hl;rfl),m:=yk X G a19 },
 d_reach_of:={ a:=f20,fd:=_,F:=zo (st:=zbZ) l20 c20 k20,b:=(zo (st:=zbZ) l20 c20 k20).binds (ps:=["flows", "member"]) fun _ _ _ _ _ _ us hl=>(by obtain⟨_,_,rfl⟩:=len2 hl;rfl),m:=yk X G a20 },
 d_balances:={ a:=f21,fd:=_,F:=zo (st:=zbU) l21 c21 k21,b:=(zo (st:=zbU) l21 c21 k21).binds (ps:=["flows", "members"]) fun _ _ _ _ _ _ us hl=>(by obtain⟨_,_,rfl⟩:=len2 hl;rfl),m:=yk X G a21 },
 d_circling_rates:={ a:=f22,fd:=_,F:=zo (st:=zaD) l22 c22 k22,b:=(zo (st:=zaD) l22 c22 k22).binds (ps:=["flows", "circle"]) fun _ _ _ _ _ _ us hl=>(by obtain⟨_,_,rfl⟩:=len2 hl;rfl),m:=yk X G a22 },
 d_opening_rates:={ a:=f23,fd:=_,F:=zo (st:=zaK) l23 c23 k23,b:=(zo (st:=zaK) l23 c23 k23).binds (ps:=["flows", "ranks", "purses"]) fun _ _ _ _ _ _ us hl=>(by obtain⟨_,_,_,rfl⟩:=len3 hl;rfl),m:=yk X G a23 },
 d_rates_of:={ a:=f24,fd:=_,F:=zo (st:=zb3) l24 c24 k24,b:=(zo (st:=zb3) l24 c24 k24).binds (ps:=["flows", "members", "shares"]) fun _ _ _ _ _ _ us hl=>(by obtain⟨_,_,_,rfl⟩:=len3 hl;rfl),m:=yk X G a24 },
 d_least_room:={ a:=f25,fd:=_,F:=zo (st:=zbg) l25 c25 k25,b:=(zo (st:=zbg) l25 c25 k25).binds (ps:=["owed", "ranks", "lays", "rates"]) fun _ _ _ _ _ _ us hl=>(by obtain⟨_,_,_,_,rfl⟩:=len4 hl;rfl),m:=yk X G a25 },
 d_grown:={ a:=f26,fd:=_,F:=zo (st:=zdf) l26 c26 k26,b:=(zo (st:=zdf) l26 c26 k26).binds (ps:=["lays", "rates", "step"]) fun _ _ _ _ _ _ us hl=>(by obtain⟨_,_,_,rfl⟩:=len3 hl;rfl),m:=yk X G a26 },
 d_a_ring:={ a:=f27,fd:=_,F:=zo (st:=zcL) l27 c27 k27,b:=(zo (st:=zcL) l27 c27 k27).binds (ps:=["many", "sheet"]) fun _ _ _ _ _ _ us hl=>(by obtain⟨_,_,rfl⟩:=len2 hl;rfl),m:=yk X G a27 },
 d_ways_onward:={ a:=f28,fd:=_,F:=zo (st:=za6) l28 c28 k28,b:=(zo (st:=za6) l28 c28 k28).binds (ps:=["many", "sheet"]) fun _ _ _ _ _ _ us hl=>(by obtain⟨_,_,rfl⟩:=len2 hl;rfl),m:=yk X G a28 },
 d_dues_among:={ a:=f29,fd:=_,F:=zo (st:=zbh) l29 c29 k29,b:=(zo (st:=zbh) l29 c29 k29).binds (ps:=["sheet", "going"]) fun _ _ _ _ _ _ us hl=>(by obtain⟨_,_,rfl⟩:=len2 hl;rfl),m:=yk X G a29 },
 d_cut:={ a:=f30,fd:=_,F:=zo (st:=zep) l30 c30 k30,b:=(zo (st:=zep) l30 c30 k30).binds (ps:=["many", "sheet"]) fun _ _ _ _ _ _ us hl=>(by obtain⟨_,_,rfl⟩:=len2 hl;rfl),m:=yk X G a30 },
 d_stops:={ a:=f31,fd:=_,F:=zo (st:=zdh) l31 c31 k31,b:=(zo (st:=zdh) l31 c31 k31).binds (ps:=["sheet", "lays"]) fun _ _ _ _ _ _ us hl=>(by obtain⟨_,_,rfl⟩:=len2 hl;rfl),m:=yk X G a31 },
 d_safe_cut:={ a:=f32,fd:=_,F:=zo (st:=zbY) l32 c32 k32,b:=(zo (st:=zbY) l32 c32 k32).binds (ps:=["sheet", "purses"]) fun _ _ _ _ _ _ us hl=>(by obtain⟨_,_,rfl⟩:=len2 hl;rfl),m:=yk X G a32 },
 d__law_cell:={ a:=f33,fd:=_,F:=zo (st:=zbD) l33 c33 k33,b:=(zo (st:=zbD) l33 c33 k33).binds (ps:=["_law_script", "_law_k"]) fun _ _ _ _ _ _ us hl=>(by obtain⟨_,_,rfl⟩:=len2 hl;rfl),m:=yk X G a33 },
 d__law_draw:={ a:=f34,fd:=_,F:=zo (st:=zby) l34 c34 k34,b:=(zo (st:=zby) l34 c34 k34).binds (ps:=["_law_script", "_law_k", "_law_prime", "_law_many_here"]) fun _ _ _ _ _ _ us hl=>(by obtain⟨_,_,_,_,rfl⟩:=len4 hl;rfl),m:=yk X G a34 },
 d__law_great:={ a:=f35,fd:=_,F:=zo (st:=zbi) l35 c35 k35,b:=(zo (st:=zbi) l35 c35 k35).binds (ps:=["_law_script", "_law_k", "_law_most_here"]) fun _ _ _ _ _ _ us hl=>(by obtain⟨_,_,_,rfl⟩:=len3 hl;rfl),m:=yk X G a35 },
 d__law_many:={ a:=f36,fd:=_,F:=zo (st:=zbv) l36 c36 k36,b:=(zo (st:=zbv) l36 c36 k36).binds (ps:=["_law_script"]) fun _ _ _ _ _ _ us hl=>(by obtain⟨_,rfl⟩:=len1 hl;rfl),m:=yk X G a36 },
 d__law_count:={ a:=f37,fd:=_,F:=zo (st:=zbk) l37 c37 k37,b:=(zo (st:=zbk) l37 c37 k37).binds (ps:=["_law_script", "_law_many_here"]) fun _ _ _ _ _ _ us hl=>(by obtain⟨_,_,rfl⟩:=len2 hl;rfl),m:=yk X G a37 },
 d__law_most:={ a:=f38,fd:=_,F:=zo (st:=zbw) l38 c38 k38,b:=(zo (st:=zbw) l38 c38 k38).binds (ps:=["_law_script", "_law_many_here", "_law_count_here"]) fun _ _ _ _ _ _ us hl=>(by obtain⟨_,_,_,rfl⟩:=len3 hl;rfl),m:=yk X G a38 },
 d__law_amount:={ a:=f39,fd:=_,F:=zo (st:=za2) l39 c39 k39,b:=(zo (st:=za2) l39 c39 k39).binds (ps:=["_law_script", "_law_k", "_law_most_here"]) fun _ _ _ _ _ _ us hl=>(by obtain⟨_,_,_,rfl⟩:=len3 hl;rfl),m:=yk X G a39 },
 d__law_due:={ a:=f40,fd:=_,F:=zo (st:=zb2) l40 c40 k40,b:=(zo (st:=zb2) l40 c40 k40).binds (ps:=["_law_script", "_law_k", "_law_many_here", "_law_most_here"]) fun _ _ _ _ _ _ us hl=>(by obtain⟨_,_,_,_,rfl⟩:=len4 hl;rfl),m:=yk X G a40 },
 d__law_sheet:={ a:=f41,fd:=_,F:=zo (st:=zbf) l41 c41 k41,b:=(zo (st:=zbf) l41 c41 k41).binds (ps:=["_law_script", "_law_many_here", "_law_count_here", "_law_most_here"]) fun _ _ _ _ _ _ us hl=>(by obtain⟨_,_,_,_,rfl⟩:=len4 hl;rfl),m:=yk X G a41 },
 d__law_purse:={ a:=f42,fd:=_,F:=zo (st:=zbe) l42 c42 k42,b:=(zo (st:=zbe) l42 c42 k42).binds (ps:=["_law_script", "_law_k", "_law_way", "_law_most_here"]) fun _ _ _ _ _ _ us hl=>(by obtain⟨_,_,_,_,rfl⟩:=len4 hl;rfl),m:=yk X G a42 },
 d__law_purses:={ a:=f43,fd:=_,F:=zo (st:=za3) l43 c43 k43,b:=(zo (st:=za3) l43 c43 k43).binds (ps:=["_law_script", "_law_many_here", "_law_most_here"]) fun _ _ _ _ _ _ us hl=>(by obtain⟨_,_,_,rfl⟩:=len3 hl;rfl),m:=yk X G a43 },
 d__law_whole:={ a:=f44,fd:=_,F:=zo (st:=zbj) l44 c44 k44,b:=(zo (st:=zbj) l44 c44 k44).binds (ps:=["_law_thing"]) fun _ _ _ _ _ _ us hl=>(by obtain⟨_,rfl⟩:=len1 hl;rfl),m:=yk X G a44 },
 d__law_divisor:={ a:=f45,fd:=_,F:=zo (st:=zaS) l45 c45 k45,b:=(zo (st:=zaS) l45 c45 k45).binds (ps:=["_law_one", "_law_other"]) fun _ _ _ _ _ _ us hl=>(by obtain⟨_,_,rfl⟩:=len2 hl;rfl),m:=yk X G a45 },
 d__law_is_part:={ a:=f46,fd:=_,F:=zo (st:=zaR) l46 c46 k46,b:=(zo (st:=zaR) l46 c46 k46).binds (ps:=["_law_thing"]) fun _ _ _ _ _ _ us hl=>(by obtain⟨_,rfl⟩:=len1 hl;rfl),m:=yk X G a46 },
 d__law_parts:={ a:=f47,fd:=_,F:=zo (st:=zbm) l47 c47 k47,b:=(zo (st:=zbm) l47 c47 k47).binds (ps:=["_law_told", "_law_many_here"]) fun _ _ _ _ _ _ us hl=>(by obtain⟨_,_,rfl⟩:=len2 hl;rfl),m:=yk X G a47 },
 d__law_sums:={ a:=f48,fd:=_,F:=zo (st:=zbE) l48 c48 k48,b:=(zo (st:=zbE) l48 c48 k48).binds (ps:=["_law_sheet_here", "_law_many_here"]) fun _ _ _ _ _ _ us hl=>(by obtain⟨_,_,rfl⟩:=len2 hl;rfl),m:=yk X G a48 },
 d__law_stand:={ a:=f49,fd:=_,F:=zo (st:=zbn) l49 c49 k49,b:=(zo (st:=zbn) l49 c49 k49).binds (ps:=["_law_sheet_here", "_law_lays"]) fun _ _ _ _ _ _ us hl=>(by obtain⟨_,_,rfl⟩:=len2 hl;rfl),m:=yk X G a49 },
 d__law_nets:={ a:=f50,fd:=_,F:=zo (st:=zbx) l50 c50 k50,b:=(zo (st:=zbx) l50 c50 k50).binds (ps:=["_law_sheet_here", "_law_amounts", "_law_many_here"]) fun _ _ _ _ _ _ us hl=>(by obtain⟨_,_,_,rfl⟩:=len3 hl;rfl),m:=yk X G a50 },
 d__law_pays_one:={ a:=f51,fd:=_,F:=zo (st:=zaJ) l51 c51 k51,b:=(zo (st:=zaJ) l51 c51 k51).binds (ps:=["_law_member", "_law_rest", "_law_ways"]) fun _ _ _ _ _ _ us hl=>(by obtain⟨_,_,_,rfl⟩:=len3 hl;rfl),m:=yk X G a51 },
 d__law_ringless:={ a:=f52,fd:=_,F:=zo (st:=zaM) l52 c52 k52,b:=(zo (st:=zaM) l52 c52 k52).binds (ps:=["_law_many_here", "_law_ways"]) fun _ _ _ _ _ _ us hl=>(by obtain⟨_,_,rfl⟩:=len2 hl;rfl),m:=yk X G a52 },
 d__law_left:={ a:=f53,fd:=_,F:=zo (st:=zbA) l53 c53 k53,b:=(zo (st:=zbA) l53 c53 k53).binds (ps:=["_law_sheet_here", "_law_told", "_law_stand_here"]) fun _ _ _ _ _ _ us hl=>(by obtain⟨_,_,_,rfl⟩:=len3 hl;rfl),m:=yk X G a53 },
 d_law:={ a:=f54,fd:=_,F:=zo (st:=zev) l54 c54 k54,b:=(zo (st:=zev) l54 c54 k54).binds (ps:=["_law_script"]) fun _ _ _ _ _ _ us hl=>(by obtain⟨_,rfl⟩:=len1 hl;rfl),m:=yk X G a54 },
 bl_law:=fun s v=>.of_eq rfl,
 z_abs:=yO X G w_abs,
 z_all:=yO X G w_all,
 z_bool:=yO X G w_bool,
 z_enumerate:=yO X G w_enumerate,
 z_int:=yO X G w_int,
 z_isinstance:=yO X G w_isinstance,
 z_len:=yO X G w_len,
 z_list:=yO X G w_list,
 z_min:=yO X G w_min,
 z_range:=yO X G w_range,
 z_sum:=yO X G w_sum,
 z_tuple:=yO X G w_tuple,
 z_zip:=yO X G w_zip }
abbrev sZ:Nat:=60
abbrev sB:Nat:=1
section
variable {P:Program}{w:World}{K:Fg}{mg:Str->Option Value}{base:Heap}
theorem zhR(T:Txt K mg):FnOk P w K mg base (CXF P w) 1 T.d_dues_among.a T.d_dues_among.fd ["sheet", "going"] (zhh K):=by
 refine T.d_dues_among.F.okN sc_dues_among (fun vs H Q E h=>?_) (fun cdv A outer s H vs Q E hr h=>?_)
 ·obtain⟨a,b,ds,n,g,rfl,_⟩:=h;rfl
 obtain⟨a,b,ds,n,g,rfl,⟨xs,hS,hT⟩,hB,hn,hl,hd,k⟩:=h
 have hxl:=hT.length
 have hbl:(bls n g).length=n:=zkj
 refine⟨_,(zh (zp (i:=2) sc_dues_among.nd rfl (Or.inl rfl) (zG z9 (zaC (za zaZ zf)) (zN (show CallR _ _ (za7 K)from zZ) rfl T.z_len BT.len (za (pv 1) zf))))
 (zh (zat PassesOwn.never rfl (show PI _ _ _ (zcd K _)from zbc rfl T.z_enumerate (za (pv 0) zf)) (show PG _ _ (zbr K 2 _)from zaL (n:=2) rfl (zK (zM (i:=3) sc_dues_among.nd rfl (Or.inl rfl)) (zK (zM (i:=4) sc_dues_among.nd rfl (Or.inl rfl)) zav)))
 (zj (zO (PW.pt (zbO (zB zdF (zl (show IxR _ (rIx K)from zk) (pv 4) ze (fun _ _=>rfl)) ze (nomark _)) (zbO (show PT _ _ (zb0 K _)from zac (zl (show IxR _ (rIx K)from zk) (pv 1) (zl (show IxR _ (rIx K)from zk) (pv 4) ze (fun _ _=>rfl)) (fun _ _=>rfl)) (fun _=>rfl)) (zbL (show PT _ _ (zb0 K _)from zac (zl (show IxR _ (rIx K)from zk) (pv 1) (zl (show IxR _ (rIx K)from zk) (pv 4) ze (fun _ _=>rfl)) (fun _ _=>rfl)) (fun _=>rfl))))))
 (zj (zcA (pv 3) (zcB (pv 2) (zl (show IxR _ (rIx K)from zk) (pv 4) ze (fun _ _=>rfl)) zaU)))
 zL)))
 (zj (zw (pv 2))))),?_⟩
 refine zI (σ0:=[some (.ref a),some (.ref b),none,none,none]) rfl ?_
 walk_at "x"
 rename_i l0 H0 fl0 e0 hl0 l H1 fl e1 hl1
 rw[yw,hbl]at hl1
 refine zdQ (zaV (K:=K) (a:=a) (xs:=xs)) (fun i σ' H'=>∃f3 f4,σ'=[some (.ref a),some (.ref b),some (.ref l),f3,f4]/\H' l=some (.lst (zP n (zaT ds g i)))/\Same H H') ?_ ?_ ?_ ?_
 ·exact⟨_,_,rfl,hl1,by walk_at "h"⟩
 ·rintro i σ' H' ⟨_,_,_,_,e⟩;exact e.seq hS
 ·rintro i y σ' H3 H4 hi ⟨f3,f4,rfl,hl3,e3⟩ e4 ⟨t,v,rfl,hv,ht⟩
  obtain⟨c,d,rfl,hdi,hc⟩:=(hT.same (e3.trans e4)).get hv
  have hc':H4 c=some (.tup [.int d.p,.int d.q,.int d.r,.int d.a]):=hc
  obtain⟨p0,p1,q0,q1,pq,r0,r1,a0,a1⟩:=hd d (yb hdi)
  have hat1:atI (bls n g) d.p=some (.bl (g d.p.toNat)):=zau p0 (zg7 (by omega))
  have hat2:atI (bls n g) d.q=some (.bl (g d.q.toNat)):=zau q0 (zg7 (by omega))
  have hB4:=(e3.trans e4).seq hB
  have es:∀m,zaT ds g (i+1) m=if useful g m d then some i else zaT ds g i m:=zlU hdi
  walk_at "x"
  ·rename_i h1 h2 h3
   refine zdn (by walk_at "h") (show ixN (zP n (zaT ds g i)).length d.p=some d.p.toNat by rw[zbq];exact zdx p0 (by omega)) fun H5 b5 h5=>?_
   refine⟨_,_,rfl,?_,by walk_at "h"⟩
   rw[h5]
   show some (HO.lst ((zP n (zaT ds g i)).set d.p.toNat (zaX (some i))))=_
   rw[zmT]
   congr 2
   refine zer fun m hm=>?_
   rw[es m]
   by_cases e:m=d.p.toNat
   ·rw[if_pos e,if_pos ⟨by omega,h1,h2,h3⟩]
   ·rw[if_neg e,if_neg (fun z=>e (by have:=z.1;omega))]
  all_goals
   refine⟨_,_,rfl,?_,by walk_at "h"⟩
   rw[e4.at hl3]
   congr 2
   refine zer fun m hm=>?_
   rw[es m,if_neg]
   rintro⟨z1,z2,z3,z4⟩
   simp_all
 ·rintro σ' H3 ⟨f3,f4,rfl,hl3,e3⟩
  rw[hxl]at hl3
  walk_at "x"
  exact k _ _ (by walk_at "h") e3 hl3
theorem zgM(T:Txt K mg):FnOk P w K mg base (CXF P w) 2 T.d_ways_onward.a T.d_ways_onward.fd ["many", "sheet"] (zjm K):=by
 refine T.d_ways_onward.F.okN sc_ways_onward (fun vs H Q E h=>?_) (fun cdv A outer s H vs Q E hr h=>?_)
 ·obtain⟨n,a,ds,rfl,_⟩:=h;rfl
 obtain⟨n,a,ds,rfl,hS,n0,n1,hl,hd,k⟩:=h
 have hdN:∀d∈ds,zA (n.toNat:Int) d:=by rw[show(n.toNat:Int)=n by omega];exact hd
 refine⟨_,(zh (zp (i:=2) sc_ways_onward.nd rfl (Or.inl rfl) (zG z9 (zaC (za zbI zf)) (pv 0)))
 (zh (zp (i:=3) sc_ways_onward.nd rfl (Or.inl rfl) (zG z9 (zaC (za zaZ zf)) (pv 0)))
 (zh (zat PassesOwn.never rfl (zan rfl T.z_range (za (pv 0) zf)) (zM (i:=4) sc_ways_onward.nd rfl (Or.inl rfl))
 (zh (zp (i:=3) sc_ways_onward.nd rfl (Or.inl rfl) (zm (zhR T) (hr.mono (by decide)) rfl T.d_dues_among.m T.d_dues_among.F.kp T.d_dues_among.b .nil (zy zt) (za (pv 1) (za (pv 2) zf))))
 (zj (zaW (i:=2) sc_ways_onward.nd rfl rfl rfl (show PI _ _ _ (zaA K _)from z8 (pv 3)) (zF (Ni:=["number"]) (caps:=[none]) (by rfl)) (fun S _ _ _ _ _=>(zJ (gi:=0) S (Or.inl rfl) rfl)) (fun _ _ _ _ _=>zV) (fun _ _ _ _ _=>(zc9 zdJ (pv 0) zaZ (nomark _)))))))
 (zj (zw (pv 3)))))),?_⟩
 refine zI (σ0:=[some (.int n),some (.ref a),none,none,none]) rfl ?_
 walk_at "x"
 rename_i l0 H0 fl0 e0 hl0 go H1 fgo e1 hgo l1 H2 fl1 e2 hl1 on H3 fon e3 hon
 refine zc0 (fun i σ' H'=>∃(g o:Addr) (f4:Option V),σ'=[some (.int n),some (.ref a),some (.ref g),some (.ref o),f4]/\H' g=some (.lst (bls n.toNat (goF ds i)))/\H' o=some (.lst (zP n.toNat (zY ds i)))/\Same H H'/\H o=none) ?_ ?_ ?_
 ·exact⟨_,_,_,rfl,by walk_at "h",hon,by walk_at "h",by walk_at "h"⟩
 ·rintro i σ' H4 hi ⟨g,o,f4,rfl,hg,ho,e4,fo⟩
  walk_at "x"
  rename_i p H5 fp e5 hp
  refine zR (zaq (K:=K) (a:=p) (xs:=zP n.toNat (zY ds (i+1)))) (fun H' e=>SqL.of (e.at hp)) rfl (fun j vs _=>vs=bls j (goF ds (i+1))) (fun H' _=>rfl) ?_ ?_
  ·rintro j x D vs o2 H6 H7 hj hD e6 hv hvl rfl e7 hx
   have hj':j<n.toNat:=by rw[zbq]at hj;exact hj
   rw[zas hj']at hx;cases hx
   walk_at "x"
   rename_i H8 b8 h8
   refine⟨⟨_,rfl⟩,by walk_at "h",_,h8,by rw[ya];exact ym hvl,?_⟩
   show _=bls (j+1) _
   rw[znt,zbW]
   congr 2
   show V.bl (!(zY ds (i+1) j).isNone)=V.bl ((zY ds (i+1) j).isSome)
   cases zY ds (i+1) j<;>rfl
  ·rintro D H6 vs hD e6 hv hvl rfl
   rw[zbq]at hv
   exact⟨_,_,_,rfl,hv,by walk_at "h",by walk_at "h",by walk_at "h"⟩
 ·rintro σ' H4 ⟨g,o,f4,rfl,hg,ho,e4,fo⟩
  walk_at "x"
  exact k _ _ fo e4 ho
theorem zhJ(T:Txt K mg):FnOk P w K mg base (CXF P w) 3 T.d_a_ring.a T.d_a_ring.fd ["many", "sheet"] (zix K):=by
 refine T.d_a_ring.F.okN sc_a_ring (fun vs H Q E h=>?_) (fun cdv A outer s H vs Q E hr h=>?_)
 ·obtain⟨n,a,ds,rfl,_⟩:=h;rfl
 obtain⟨n,a,ds,rfl,hS,n0,n1,hl,hd,k⟩:=h
 have hdN:∀d∈ds,zA (n.toNat:Int) d:=by rw[show(n.toNat:Int)=n by omega];exact hd
 refine⟨_,(zh (zp (i:=2) sc_a_ring.nd rfl (Or.inr rfl) (zm (zgM T) (hr.mono (by decide)) rfl T.d_ways_onward.m T.d_ways_onward.F.kp T.d_ways_onward.b .nil (zy zt) (za (pv 0) (za (pv 1) zf))))
 (zh (zaW (i:=3) sc_a_ring.nd rfl rfl rfl (zan rfl T.z_range (za (pv 0) zf)) (zF (Ni:=["member", "onward"]) (caps:=[none,some 2]) (by rfl)) (fun S _ _ _ _ _=>(zJ (gi:=0) S (Or.inl rfl) rfl)) (fun _ _ _ _ _=>(zgm (zB zdJ (zl (show IxR _ (rIx K)from zk) (pv 1) (pv 0) (fun _ _=>rfl)) zaZ (nomark _)))) (fun _ _ _ _ _=>(pv 0)))
 (zh (zO (zB (show OpR _ (compareOp .Eq) (zaE K)from zar hr.units) (pv 3) (zaC zf) (nomark _))
 (zj (zw (zaC zf)))
 zL)
 (zh (zp (i:=4) sc_a_ring.nd rfl (Or.inl rfl) (zaC zf))
 (zh (zp (i:=5) sc_a_ring.nd rfl (Or.inl rfl) (zl (show IxR _ (rIx K)from zk) (pv 3) ze (fun _ _=>rfl)))
 (zh (zde PassesOwn.never (zB (show OpR _ (compareOp .NotIn) (rIn K true)from ze0) (pv 5) (pv 4) (by with_unfolding_all rfl))
 (zh (zcN (show PE _ _ (tBM K _ _ _ _)from zdH yV yab yac zbT (pv 4) (za (pv 5) zf)))
 (zj (zp (i:=5) sc_a_ring.nd rfl (Or.inl rfl) (zl (show IxR _ (rIx K)from zk) (zl (show IxR _ (rIx K)from zk) (pv 1) (zl (show IxR _ (rIx K)from zk) (pv 2) (pv 5) (fun _ _=>rfl)) (fun _ _=>rfl)) ze (fun _ _=>rfl))))))
 (zj (zw (zaw rfl (show PI _ _ _ (zaA K _)from z8 (zfU (show SlR _ (zf0 K)from zgW) (pv 4) (zgN (show PE _ _ (tBM K _ _ _ _)from zdH yV PySem.F.slot_list_index PySem.F.type_list_index zn3 (pv 4) (za (pv 5) zf))) zgR)) (zF (Ni:=["payer", "onward"]) (caps:=[none,some 2]) (by rfl)) (fun S _ _ _ _ _=>(zJ (gi:=0) S (Or.inl rfl) rfl)) (fun _ _ _ _ _=>zV) (fun _ _ _ _ _=>(zl (show IxR _ (rIx K)from zk) (pv 1) (pv 0) (fun _ _=>rfl)))))))))))),?_⟩
 refine zI (σ0:=[some (.int n),some (.ref a),none,none,none,none]) rfl ?_
 walk_at "x"
 rename_i on H1 fon e1 hon
 refine zR zbS (fun _ _=>trivial) rfl (fun j vs _=>vs=(zaz (goL ds n.toNat j)).map V.int) (fun H' _=>rfl) ?_ ?_
 ·rintro j x D vs o2 H6 H7 hj hD e6 hv hvl rfl e7 rfl
  have ej:(0:Int)+(j:Int)=j:=by omega
  have hat:atI (zP n.toNat (zY ds n.toNat)) ((0:Int)+(j:Int))=some (zaX (zY ds n.toNat j)):=zau (by omega) (by rw[show((0:Int)+(j:Int)).toNat=j by omega,zas hj])
  have es:=znf (ds:=ds) (n:=n.toNat) (i:=j)
  walk_at "x"
  ·rename_i h H8 b8 h8
   have hsome:(zY ds n.toNat j).isSome=true:=by
    cases e:zY ds n.toNat j with
    | none=>rw[e]at h;exact absurd rfl h
    | some _=>rfl
   rw[if_pos hsome]at es
   rw[ej]at h8
   refine⟨⟨_,rfl⟩,by walk_at "h",_,h8,by rw[ya];exact ym hvl,?_⟩
   show _=(zaz (goL ds n.toNat (j+1))).map V.int
   rw[es,zeF,yl];rfl
  ·rename_i h
   have hn:¬(zY ds n.toNat j).isSome=true:=by
    cases e:zY ds n.toNat j with
    | none=>simp
    | some i=>rw[e]at h;cases h
   rw[if_neg hn,yan]at es
   exact⟨⟨_,rfl⟩,by walk_at "h",_,by walk_at "h",by omega,by show _=(zaz (goL ds n.toNat (j+1))).map V.int;rw[es]⟩
 rintro gl H2 vs fgl e2 hgl hvl rfl
 walk_at "x"
 rename_i l0 H3 fl0 e3 hl0
 by_cases hg:goL ds n.toNat n.toNat=[]
 ·rw[hg]at hgl
  refine zjA (ns:=[]) (ms:=[]) (SqL.of (e3.at hgl)) (SqL.of hl0) rfl ?_
  walk_at "x"
  rename_i l1 H4 fl1 e4 hl1
  refine k _ _ [] (by walk_at "h") (by walk_at "h") hl1 (.inl ⟨rfl,fun m hm=>?_⟩)
  cases e:zY ds n.toNat m with
  | none=>rfl
  | some i=>
   have:=mem_goL.mpr ⟨hm,show(zY ds n.toNat m).isSome=true by rw[e];rfl⟩
   rw[hg]at this;cases this
 obtain⟨g0,gs,eg⟩:∃g0 gs,goL ds n.toNat n.toNat=g0 :: gs:=by
  cases e:goL ds n.toNat n.toNat with
  | nil=>exact absurd e hg
  | cons x xs=>exact⟨x,xs,rfl⟩
 have hg0:g0<n.toNat/\zY ds n.toNat g0≠none:=by
  have:=mem_goL.mp (show g0∈goL ds n.toNat n.toNat by rw[eg];simp)
  exact⟨this.1,fun z=>by rw[z]at this;cases this.2⟩
 refine zm0 (SqL.of (e3.at hgl)) (SqL.of hl0) (by rw[eg];exact fun z=>nomatch z) ?_
 have hat0:atI ((zaz (goL ds n.toNat n.toNat)).map V.int) 0=some (.int g0):=zau (by decide) (by rw[eg];rfl)
 walk_at "x"
 rename_i pa H4 fpa e4 hpa
 obtain⟨xs,hSx,hTx⟩:=hS
 refine⟨fun m σ H'=>∃(ms:List Nat) (x:Nat),σ=[some (.int n),some (.ref a),some (.ref on),some (.ref gl),some (.ref pa),some (.int (x:Int))]/\H' pa=some (.lst ((zaz ms).map V.int))/\Walked ds n.toNat ms x/\Same H3 H'/\m=n.toNat-ms.length,⟨_,[],g0,rfl,hpa,⟨yaF,(fun _ h=>nomatch h),hg0,fun i m h=>nomatch h⟩,e4,rfl⟩,?_⟩
 rintro m σ H5 ⟨ms,x,rfl,hp5,hW,e5,rfl⟩
 have hlen:=zeC n.toNat ms hW.nd fun y hy=>(hW.ok y hy).1
 obtain⟨j,d,w1,w2,w3,w4,w5,w6,w7,w8⟩:=zef hdN hW.at'.1 hW.at'.2
 have hat1:atI (zP n.toNat (zY ds n.toNat)) (x:Int)=some (.int (j:Int)):=zU (by rw[zas hW.at'.1,w1];rfl)
 have eH5:Same H H5:=e1.trans (e2.trans (e3.trans e5))
 obtain⟨c,hc1,hc2⟩:=(hTx.same eH5).getI w2
 have hc':H5 c=some (.tup [.int d.p,.int d.q,.int d.r,.int d.a]):=hc2
 have hat2:atI xs (j:Int)=some (.ref c):=zU hc1
 have hmap:((zaz ms).map V.int).length<=100000:=by rw[yc,zcM];omega
 have non:on≠pa:=by walk_at "h"
 have hon5:H5 on=some (.lst (zP n.toNat (zY ds n.toNat))):=e5.at (e3.at (e2.at hon))
 have fpaH:H pa=none:=Same.none fpa (e1.trans (e2.trans e3))
 walk_at "x"
 ·rename_i h
  have hx:x∉ms:=fun z=>h (natI_mem.mpr z)
  have W2:=hW.step hdN hx
  refine⟨fun σ' H'=>∃(ms':List Nat) (x':Nat),σ'=[some (.int n),some (.ref a),some (.ref on),some (.ref gl),some (.ref pa),some (.int (x':Int))]/\H' pa=some (.lst ((zaz ms').map V.int))/\Walked ds n.toNat ms' x'/\Same H3 H'/\ms.length<ms'.length,?_,?_⟩
  ·rintro σ' H' ⟨ms',x',rfl,h1,h2,h3,h4⟩
   have:=zeC n.toNat ms' h2.nd fun y hy=>(h2.ok y hy).1
   exact⟨_,by omega,ms',x',rfl,h1,h2,h3,rfl⟩
  ·walk_at "x"
   rename_i H6 b6 h6
   rw[zlo]at h6
   refine⟨ms++[x],zcv ds n.toNat x,by rw[<- w5],by rw[zeF];exact h6,W2,by walk_at "h",by rw[ya];exact yaG _⟩
 ·rename_i h
  have hx:x∈ms:=natI_mem.mp h
  obtain⟨i,hi,ei⟩:=yI hx
  have hi':ms[i]?=some x:=by rw[yi hi,ei]
  have ndI:(zaz ms).Nodup:=List.pairwise_map.mpr (List.Pairwise.imp (fun hab e=>hab (by omega)) hW.nd)
  refine zoJ (by walk_at "h") (zeu hi') (znU ndI (zeu hi')) (by rw[zcM];omega) ?_
  walk_at "x"
  rename_i cl H6 fcl e6 hcl
  rw[znR (by rw[zcM];omega)]at hcl
  have hon6:H6 on=some (.lst (zP n.toNat (zY ds n.toNat))):=e6.at hon5
  refine zR (zaq (K:=K) (a:=cl) (xs:=((zaz ms).drop i).map V.int)) (fun H' e=>SqL.of (e.at hcl)) rfl (fun u vs _=>vs=(((ms.drop i).take u).map (zbt ds n.toNat)).map V.int) (fun H' _=>rfl) ?_ ?_
  ·rintro u y D vs o H7 H8 hu hD e7 hv hvl rfl e8 hy
   have hu':u<(ms.drop i).length:=by
    rw[yc,yaj,zcM]at hu
    rw[yaj];exact hu
   have hdl:(ms.drop i).length<=100000:=by rw[yaj];omega
   obtain⟨mu,hmu⟩:=zC hu'
   have hmm:=List.mem_of_mem_drop (yb hmu)
   obtain⟨j2,d2,v1,_,_,_,_,_,_,v8⟩:=zef hdN (hW.ok mu hmm).1 (hW.ok mu hmm).2
   have ey:y=.int (mu:Int):=by
    have:(((zaz ms).drop i).map V.int)[u]?=some (.int (mu:Int)):=by
     rw[yf,yaQ]
     rw[yaQ]at hmu
     rw[zeu hmu];rfl
    rw[this]at hy;exact(yp hy).symm
   subst ey
   have hat3:atI (zP n.toNat (zY ds n.toNat)) (mu:Int)=some (.int (zbt ds n.toNat mu)):=zU (by rw[zas (hW.ok mu hmm).1,v1,v8];rfl)
   have hon8:H8 on=some (.lst (zP n.toNat (zY ds n.toNat))):=e8.at (e7.at hon6)
   walk_at "x"
   rename_i H9 b9 h9
   refine⟨⟨_,rfl⟩,by walk_at "h",_,h9,by rw[ya];exact ym hvl,?_⟩
   show _=(((ms.drop i).take (u+1)).map (zbt ds n.toNat)).map V.int
   rw[zam hmu,yl,yl];rfl
  ·rintro D H7 vs hD e7 hv hvl rfl
   rw[show(((zaz ms).drop i).map V.int).length=(ms.drop i).length by rw[yc,yaj,yaj,zcM],yF]at hv
   exact k _ _ _ (Same.none hD (eH5.trans e6)) (eH5.trans (e6.trans e7)) hv (hW.ring hi')
theorem zeQ(T:Txt K mg):FnOk P w K mg base (CXF P w) 1 T.d_amounts_of.a T.d_amounts_of.fd ["sheet"] (zea K):=by
 refine T.d_amounts_of.F.okN zhU (fun vs H Q E h=>?_) (fun cdv A outer s H vs Q E hr h=>?_)
 ·obtain⟨a,ds,rfl,_⟩:=h;rfl
 obtain⟨a,ds,rfl,⟨xs,hS,hT⟩,h1,k⟩:=h
 have hxl:=hT.length
 refine⟨_,(zj (zw (zaw rfl (show PI _ _ _ (zaA K _)from z8 (pv 0)) (zF (Ni:=["due"]) (caps:=[none]) (by rfl)) (fun S _ _ _ _ _=>(zJ (gi:=0) S (Or.inl rfl) rfl)) (fun _ _ _ _ _=>zV) (fun _ _ _ _ _=>(zl (show IxR _ (rIx K)from zk) (pv 0) ze (fun _ _=>rfl)))))),?_⟩
 refine zI (σ0:=[some (.ref a)]) rfl ?_
 walk_at "x"
 refine zR (zaq (K:=K) (a:=a) (xs:=xs)) (fun H' e=>e.seq hS) rfl (fun i vs _=>vs=((ds.take i).map Due.a).map V.int) (fun H' _=>rfl) ?_ ?_
 ·rintro i x D vs o H3 H4 hi hD e3 hv hvl rfl e4 hx
  obtain⟨b,d,rfl,hdi,hb⟩:=(hT.same (e3.trans e4)).get hx
  have hb':H4 b=some (.tup [.int d.p,.int d.q,.int d.r,.int d.a]):=hb
  walk_at "x"
  rename_i H6 b6 h6
  exact⟨⟨_,rfl⟩,by walk_at "h",_,h6,by rw[ya];exact ym hvl,by show _=((ds.take (i+1)).map Due.a).map V.int;rw[zam hdi,yl,yl];rfl⟩
 ·rintro D H3 vs hD e3 hv hvl rfl
  rw[hxl,yF]at hv
  exact k D H3 hD e3 hv
theorem zd1(T:Txt K mg):FnOk P w K mg base (CXF P w) 1 T.d_with_amounts.a T.d_with_amounts.fd ["sheet", "amounts"] (ziv K):=by
 refine T.d_with_amounts.F.okN zgy (fun vs H Q E h=>?_) (fun cdv A outer s H vs Q E hr h=>?_)
 ·obtain⟨a,b,ds,ms,rfl,_⟩:=h;rfl
 obtain⟨a,b,ds,ms,rfl,⟨xs,hS,hT⟩,hM,hl,h1,k⟩:=h
 have hxl:=hT.length
 refine⟨_,(zj (zw (zaw rfl (show PI _ _ _ (zcd K _)from zbc rfl T.z_enumerate (za (pv 0) zf)) (zF (Ni:=["number", "due", "amounts"]) (caps:=[none,none,some 1]) (by rfl)) (fun S _ _ _ _ _=>(show PG _ _ (zbr K 2 _)from zaL (n:=2) rfl (zK (zJ (gi:=0) S (Or.inl rfl) rfl) (zK (zJ (gi:=1) S (Or.inl rfl) rfl) zav)))) (fun _ _ _ _ _=>zV) (fun _ _ _ _ _=>(zah (za (zl (show IxR _ (rIx K)from zk) (pv 1) ze (fun _ _=>rfl)) (za (zl (show IxR _ (rIx K)from zk) (pv 1) ze (fun _ _=>rfl)) (za (zl (show IxR _ (rIx K)from zk) (pv 1) ze (fun _ _=>rfl)) (za (zl (show IxR _ (rIx K)from zk) (pv 2) (pv 0) (fun _ _=>rfl)) zf))))))))),?_⟩
 refine zI (σ0:=[some (.ref a),some (.ref b)]) rfl ?_
 walk_at "x"
 refine zbC (zaV (K:=K) (a:=a) (xs:=xs)) (fun H' e=>e.seq hS) rfl (fun i vs H'=>IsTs zdz H' vs ((zr ds fun i=>ms.getD i 0).take i)) (fun H' _=>trivial) ?_ ?_
 ·rintro i x D vs o o' H3 H4 hi hD e3 hv hvl ht e4 ⟨t,v,rfl,hx,htt⟩
  obtain⟨c,d,rfl,hdi,hc⟩:=(hT.same (e3.trans e4)).get hx
  have hc':H4 c=some (.tup [.int d.p,.int d.q,.int d.r,.int d.a]):=hc
  have hi':i<ms.length:=by omega
  have hat:atI (ms.map V.int) (i:Int)=some (.int (ms.getD i 0)):=zgF (by omega) (by rw[yw];exact zeM hi')
  walk_at "x"
  rename_i t H5 ft e5 h5 H6 b6 h6
  have h5':H5 t=some (.tup (zdz ⟨d.p,d.q,d.r,ms.getD i 0⟩)):=h5
  refine⟨⟨_,_,rfl⟩,by walk_at "h",_,h6,by rw[ya];exact ym hvl,?_⟩
  show IsTs zdz H6 _ (List.take (i+1) _)
  rw[za9 hdi]
  exact IsTs.app (f:=zdz) (b6.tup h5') (by walk_at "h")
 ·rintro D H3 vs hD e3 hv hvl ht
  rw[hxl,<- zab (m:=fun i=>ms.getD i 0),yF]at ht
  exact k D H3 vs hD e3 hv ht
theorem zqx(T:Txt K mg):FnOk P w K mg base (CXF P w) 4 T.d_cut.a T.d_cut.fd ["many", "sheet"] (zkL K):=by
 refine T.d_cut.F.okN sc_cut (fun vs H Q E h=>?_) (fun cdv A outer s H vs Q E hr h=>?_)
 ·obtain⟨n,a,es,rfl,_⟩:=h;rfl
 obtain⟨n,a,es,rfl,hS,n0,n1,hl,hd,k⟩:=h
 have hdN:∀d∈es,zA (n.toNat:Int) d:=by rw[show(n.toNat:Int)=n by omega];exact hd
 refine⟨_,(zh (zp (i:=2) sc_cut.nd rfl (Or.inr rfl) (zm (zeQ T) (hr.mono (by decide)) rfl T.d_amounts_of.m T.d_amounts_of.F.kp T.d_amounts_of.b .nil (zy zt) (za (pv 1) zf)))
 (zh (zp (i:=3) sc_cut.nd rfl (Or.inl rfl) (zaC zf))
 (zh (zp (i:=4) sc_cut.nd rfl (Or.inl rfl) (zm (zhJ T) (hr.mono (by decide)) rfl T.d_a_ring.m T.d_a_ring.F.kp T.d_a_ring.b .nil (zy zt) (za (pv 0) (za (pv 1) zf))))
 (zh (zde PassesOwn.never (zB (show OpR _ (compareOp .NotEq) (zbM K)from zb5 hr.units) (pv 4) (zaC zf) (nomark _))
 (zh (zp (i:=5) sc_cut.nd rfl (Or.inl rfl) (zN (show CallR _ _ (zie K)from zlX rfl) rfl T.z_min BT.min (za (zaw rfl (show PI _ _ _ (zaA K _)from z8 (pv 4)) (zF (Ni:=["number", "left"]) (caps:=[none,some 2]) (by rfl)) (fun S _ _ _ _ _=>(zJ (gi:=0) S (Or.inl rfl) rfl)) (fun _ _ _ _ _=>zV) (fun _ _ _ _ _=>(zl (show IxR _ (rIx K)from zk) (pv 1) (pv 0) (fun _ _=>rfl)))) zf)))
 (zh (zat PassesOwn.never rfl (show PI _ _ _ (zaA K _)from z8 (pv 4)) (zM (i:=6) sc_cut.nd rfl (Or.inl rfl))
 (zj (zhc (pv 2) (pv 6) (show zjn _ (zet K)from zfk) (pv 5) zpC zaU)))
 (zh (zcN (show PE _ _ (tBM K _ _ _ _)from zdH yV yab yac zbT (pv 3) (za (zah (za (pv 4) (za (pv 5) zf))) zf)))
 (zj (zp (i:=4) sc_cut.nd rfl (Or.inl rfl) (zm (zhJ T) (hr.mono (by decide)) rfl T.d_a_ring.m T.d_a_ring.F.kp T.d_a_ring.b .nil (zy zt) (za (pv 0) (za (zm (zd1 T) (hr.mono (by decide)) rfl T.d_with_amounts.m T.d_with_amounts.F.kp T.d_with_amounts.b .nil (zy zt) (za (pv 1) (za (pv 2) zf))) zf)))))))))
 (zj (zw (zah (za (pv 2) (za (pv 3) zf))))))))),?_⟩
 refine zI (σ0:=[some (.int n),some (.ref a),none,none,none,none,none]) rfl ?_
 walk_at "x"
 rename_i l H1 fl e1 hl1 c H2 fc e2 hc2 r H3 rs fr e3 hr3 hR
 rw[zkg]at hl1
 have flH:H l=none:=fl
 have fcH:H c=none:=by walk_at "h"
 have nlc:l≠c:=fun z=>by rw[z]at hl1;rw[hl1]at fc;cases fc
 refine⟨fun m σ H'=>zmB es n a l c H m σ H',⟨_,r,rs,[],fun _=>amF es,[],_,_,rfl,by walk_at "h",by walk_at "h",hr3,?_,⟨rfl,fun t c h=>nomatch h⟩,(fun t c h=>nomatch h),(fun _ _=>rfl),by rw[zdL];exact hR,by have:=zi5 es.length (amF es);simpa using this,by walk_at "h",rfl⟩,?_⟩
 ·have n1:r≠l:=by walk_at "h"
  have n2:r≠c:=by walk_at "h"
  simp[n1,n2]
 rintro m σ H4 ⟨r,rs,vs,L,cs,f5,f6,rfl,hl4,hc4,hr4,hrn,hI,hC,hL0,hR4,hcnt,e4,rfl⟩
 have hdL:=hC.ok hdN hL0 (ye _)
 walk_at "x"
 rename_i z H5 fz e5 hz
 rcases hR4.cases with⟨rfl,hno⟩ | ⟨ms,R,ers⟩
 ·refine zgc (ns:=[]) (ms:=[]) (SqL.of (e5.at hr4)) (SqL.of hz) rfl ?_
  walk_at "x"
  refine zdo (by first | decide | simp) fun p H6 fp e6 hp6=>?_
  walk_at "x"
  exact k p l c H6 vs L cs (by walk_at "h") flH fcH (by walk_at "h") hp6 (by walk_at "h") (by walk_at "h") (hI.same (e5.trans e6)) hC hL0 hR4 (by omega)
 subst ers
 obtain⟨g,eg⟩:∃g,L cs.length=g:=⟨_,rfl⟩
 rw[eg]at hdL hl4 hR4 hcnt R hr4
 have hne:ms.map (zbt (zr es g) n.toNat)≠[]:=fun z=>R.ne (ya3.mp z)
 refine zm1 (SqL.of (e5.at hr4)) (SqL.of hz) hne ?_
 have hml:=zeC n.toNat ms R.nd fun y hy=>(R.ok y hy).1
 have hgb:∀i,i<es.length->0<=g i/\g i<=amF es i:=by rw[<- eg];exact hC.bnd hdN hL0 _ (ye _)
 walk_at "x"
 refine⟨fun σ' H'=>∃q,q<zcx es.length (L cs.length)/\zmB es n a l c H q σ' H',fun σ' H' ⟨q,h1,h2⟩=>⟨q,h1,h2⟩,?_⟩
 walk_at "x"
 refine zR (zaq (K:=K) (a:=r) (xs:=(ms.map (zbt (zr es g) n.toNat)).map V.int)) (fun H' e=>SqL.of (e.at (e5.at hr4))) rfl (fun i vs _=>vs=((ms.take i).map fun m=>g (zaB (zr es g) n.toNat m)).map V.int) (fun H' _=>rfl) ?_ ?_
 ·rintro i x D vs' o H6 H7 hi hD e6 hv hvl rfl e7 hx
  rw[yc,yc]at hi
  obtain⟨m,hm⟩:=zC hi
  obtain⟨e,u1,u2,u3,u4,u5⟩:=R.num hdL (yb hm)
  have hj:=(yj.mp u1).1
  have ex:x=.int (zaB (zr es g) n.toNat m:Int):=by
   rw[yf,yf,hm]at hx
   rw[<- u5];exact(yp hx).symm
  subst ex
  have hl7:H7 l=some (.lst ((vec es.length g).map V.int)):=by walk_at "h"
  walk_at "x"
  rename_i H8 b8 h8
  refine⟨⟨_,rfl⟩,by walk_at "h",_,h8,by rw[ya];exact ym hvl,?_⟩
  show _=((ms.take (i+1)).map fun m=>g (zaB (zr es g) n.toNat m)).map V.int
  rw[zam hm,yl,yl];rfl
 rintro ml H6 vs' fml e6 hmv hmvl rfl
 rw[yc,yc,yF]at hmv
 have hne2:(ms.map fun m=>g (zaB (zr es g) n.toNat m))≠[]:=fun z=>R.ne (ya3.mp z)
 walk_at "x"
 rename_i f hf1 hf2
 obtain⟨m0,hm0,ef⟩:=yaa.mp hf1
 have hle:∀m∈ms,f<=g (zaB (zr es g) n.toNat m):=fun m hm=>hf2 _ (yaa.mpr ⟨m,hm,rfl⟩)
 have eH6:Same H H6:=by walk_at "h"
 refine zdV (xs:=(ms.map (zbt (zr es g) n.toNat)).map V.int) (fun i σ' H'=>∃f6:Option V,σ'=[some (.int n),some (.ref a),some (.ref l),some (.ref c),some (.ref r),some (.int f),f6]/\H' l=some (.lst ((vec es.length (zcU g ((ms.take i).map (zaB (zr es g) n.toNat)) f)).map V.int))/\H' c=some (.lst vs)/\H' r=some (.lst ((ms.map (zbt (zr es g) n.toNat)).map V.int))/\IsCuts es n.toNat L [l,c] cs H' vs/\Same H H') ⟨_,rfl,?_,e6.at (e5.at hc4),e6.at (e5.at hr4),hI.same (e5.trans e6),eH6⟩ ?_ ?_ ?_
 ·have e0:vec es.length (zcU g ((ms.take 0).map (zaB (zr es g) n.toNat)) f)=vec es.length g:=zck fun i _=>zf3 (by simp)
  rw[e0]
  exact e6.at (e5.at hl4)
 ·rintro i σ' H' _ ⟨_,_,_,_,h,_⟩;exact SqL.of h
 ·rintro i x σ' H7 hx ⟨f6',rfl,hl7,hc7,hr7,hI7,e7⟩
  have hi:i<ms.length:=by
   have:=(yj.mp hx).1
   rwa [yc,yc]at this
  obtain⟨m,hm⟩:=zC hi
  obtain⟨e,u1,u2,u3,u4,u5⟩:=R.num hdL (yb hm)
  have hj:=(yj.mp u1).1
  have ex:x=.int (zaB (zr es g) n.toNat m:Int):=by
   rw[yf,yf,hm]at hx
   rw[<- u5];exact(yp hx).symm
  subst ex
  have hnot:=R.num_new hdL hm
  have hrl:r≠l:=fun z=>hrn (by simp[z])
  walk_at "x"
  rename_i H8 b8 h8
  refine⟨_,rfl,?_,b8.lst hc7 nlc.symm,b8.lst hr7 hrl,hI7.but b8 (by simp),by walk_at "h"⟩
  rw[h8]
  congr 3
  refine zck fun t ht=>?_
  rw[zam hm,yl]
  refine Eq.trans ?_ (zhC hnot t).symm
  rw[yw,zf3 hnot]
 ·rintro σ' H7 ⟨f6',rfl,hl7,hc7,hr7,hI7,e7⟩
  rw[yc,yc,yF]at hl7
  have hcs:=hI.1
  obtain⟨g',eg'⟩:∃g',g'=zcU g (ms.map (zaB (zr es g) n.toNat)) f:=⟨_,rfl⟩
  rw[<- eg']at hl7
  have CA:CutAt es n.toNat (L cs.length) ms f g':=by rw[eg,eg'];exact⟨R,hle,⟨m0,hm0,ef.symm⟩,fun _=>rfl⟩
  have hdL2:∀d∈zr es (L cs.length),zA (n.toNat:Int) d:=by rw[eg];exact hdL
  have hcnt2:=CA.cnt hdL2 (fun i hi=>by rw[eg];exact(hgb i hi).1)
  have hgb':∀i,i<es.length->0<=g' i/\g' i<=amF es i:=fun i hi=>by
   have h1:=CA.bnd hdL2 (i:=i) (by rw[eg];exact(hgb i hi).1)
   have h2:=hgb i hi
   rw[eg]at h1;omega
  walk_at "x"
  refine zdo (by first | decide | simp) fun tp H8 ftp e8 htp=>?_
  have hc8:=e8.at hc7
  have hvl8:vs.length<=1000:=by omega
  walk_at "x"
  rename_i H9 b9 h9
  have e9:Same H H9:=by walk_at "h"
  have hl9:H9 l=some (.lst ((vec es.length g').map V.int)):=b9.lst (e8.at hl7) nlc
  have hrc:r≠c:=fun z=>hrn (by simp[z])
  have hdv:∀d∈zr es (fun i=>(vec es.length g').getD i 0),zA n d:=by
   rw[<- (zjx es g').2]
   refine zeB hd fun i hi=>?_
   obtain⟨e,he⟩:=zC hi
   obtain⟨_,_,_,_,_,_,_,a0,a1⟩:=hd e (yb he)
   have:=hgb' i hi
   rw[zcq he]at this
   omega
  have hwl:(zr es (fun i=>(vec es.length g').getD i 0)).length=es.length:=zab
  have hvl9:(vec es.length g').length=es.length:=zaa
  walk_at "x"
  rename_i ws H10 ys fws e10 hws hys r2 H11 rs2 fr2 e11 hr2 hR2
  rw[<- (zjx es g').2]at hR2
  obtain⟨L',eL'⟩:∃L':Nat->Nat->Int,L'=fun t=>if t=cs.length+1 then g' else L t:=⟨_,rfl⟩
  have hLn:L' (cs++[(ms,f)]).length=g':=by rw[eL',ya];exact if_pos rfl
  have hLo:∀t,t<cs.length+1->L' t=L t:=by intro t ht;rw[eL'];exact if_neg (by omega)
  have hC':Cuts es n.toNat L' (cs++[(ms,f)]):=by rw[eL'];exact hC.snoc CA
  have e1011:=e10.trans e11
  have hI11:IsCuts es n.toNat L' [l,c] cs H11 vs:=(((hI7.congr fun t ht=>(hLo t (by omega)).symm).same e8).but b9 (by simp)).same e1011
  have n1:r2≠l:=fun z=>by
   have:=e10.at hl9
   rw[<- z,fr2]at this;cases this
  have n2:r2≠c:=fun z=>by
   have:=e10.at h9
   rw[<- z,fr2]at this;cases this
  rw[eg]at hcnt2
  refine⟨zcx es.length g',by rw[eg];exact hcnt2,r2,rs2,vs++[.ref tp],L',cs++[(ms,f)],_,_,rfl,by rw[hLn];exact e1011.at hl9,e1011.at h9,hr2,by simp[n1,n2],hI11.snoc (e1011.at (b9.tup htp)) ?_ hrn,hC',fun i hi=>by rw[hLo 0 (by omega)];exact hL0 i hi,by rw[hLn];exact hR2,by rw[hLn,ya];show cs.length+1+_<=_;omega,e9.trans e1011,by rw[hLn]⟩
  rw[hLo cs.length (by omega),eg]
  exact e1011.at (b9.lst (e8.at hr7) hrc)
theorem zcn(T:Txt K mg):FnOk P w K mg base (CXF P w) 1 T.d_divisor.a T.d_divisor.fd ["one", "other"] zn6:=by
 refine T.d_divisor.F.okN sc_divisor (fun vs H Q E h=>?_) (fun cdv A outer s H vs Q E hr h=>?_)
 ·obtain⟨a,b,rfl,_⟩:=h;rfl
 obtain⟨a,b,rfl,q⟩:=h
 refine⟨_,(zh (zp (i:=2) sc_divisor.nd rfl (Or.inl rfl) (zN zfj rfl T.z_abs BT.abs (za (pv 0) zf)))
 (zh (zp (i:=3) sc_divisor.nd rfl (Or.inl rfl) (zN zfj rfl T.z_abs BT.abs (za (pv 1) zf)))
 (zh (zde PassesOwn.never (zB (show OpR _ (compareOp .NotEq) (zbM K)from zb5 hr.units) (pv 3) ze (nomark _))
 (zh (zp (i:=4) sc_divisor.nd rfl (Or.inl rfl) (zG zcr (pv 2) (pv 3)))
 (zh (zp (i:=2) sc_divisor.nd rfl (Or.inl rfl) (pv 3))
 (zj (zp (i:=3) sc_divisor.nd rfl (Or.inl rfl) (pv 4))))))
 (zj (zw (pv 2)))))),?_⟩
 refine zI (σ0:=[some (.int a),some (.int b),none,none,none]) rfl ?_
 walk_at "x"
 refine⟨fun m σ H'=>∃k r f,σ=[some (.int a),some (.int b),some (.int k),some (.int r),f]/\H'=H/\0<=k/\0<=r/\My.gc k r=My.gc a b/\m=r.toNat,⟨_,_,_,_,rfl,rfl,ziV a,ziV b,My.gc_abs a b,rfl⟩,?_⟩
 rintro m σ H' ⟨k,r,f,rfl,rfl,hk,hr0,hg,rfl⟩
 walk_at "x"
 ·rename_i hne
  refine⟨fun σ' H''=>σ'=[some (.int a),some (.int b),some (.int r),some (.int (k%r)),some (.int (k%r))]/\H''=H',?_,?_⟩
  ·rintro σ' H'' ⟨rfl,rfl⟩
   have h1:=ya6 k (b:=r) (by omega)
   have h2:=yaN k (b:=r) (by omega)
   exact⟨_,by omega,_,_,_,rfl,rfl,hr0,h1,by rw[My.gc_step];exact hg,rfl⟩
  ·walk_at "x"
   exact⟨rfl,rfl⟩
 ·rename_i he
  rw[he,My.gc_zero_right hk]at hg
  rw[hg];exact q
theorem zgL(T:Txt K mg):FnOk P w K mg base (CXF P w) 2 T.d_plus.a T.d_plus.fd ["one", "other"] zi9:=by
 refine T.d_plus.F.okN sc_plus (fun vs H Q E h=>?_) (fun cdv A outer s H vs Q E hr h=>?_)
 ·obtain⟨a,b,q,r,rfl,_⟩:=h;rfl
 obtain⟨a,b,q,r,rfl,h1,h2,s1,s2,k⟩:=h
 refine⟨_,(zh (zp (i:=2) sc_plus.nd rfl (Or.inl rfl) (zm (zcn T) (hr.mono (by decide)) rfl T.d_divisor.m T.d_divisor.F.kp T.d_divisor.b .nil (zy zt) (za (zl (show IxR _ (rIx K)from zk) (pv 0) ze (fun _ _=>rfl)) (za (zl (show IxR _ (rIx K)from zk) (pv 1) ze (fun _ _=>rfl)) zf))))
 (zh (zp (i:=3) sc_plus.nd rfl (Or.inl rfl) (zG (show OpR _ (binaryOp .Add) (zak K)from zT) (zG z9 (zl (show IxR _ (rIx K)from zk) (pv 0) ze (fun _ _=>rfl)) (zG zaO (zl (show IxR _ (rIx K)from zk) (pv 1) ze (fun _ _=>rfl)) (pv 2))) (zG z9 (zl (show IxR _ (rIx K)from zk) (pv 1) ze (fun _ _=>rfl)) (zG zaO (zl (show IxR _ (rIx K)from zk) (pv 0) ze (fun _ _=>rfl)) (pv 2)))))
 (zh (zp (i:=4) sc_plus.nd rfl (Or.inl rfl) (zm (zcn T) (hr.mono (by decide)) rfl T.d_divisor.m T.d_divisor.F.kp T.d_divisor.b .nil (zy zt) (za (pv 3) (za (pv 2) zf))))
 (zj (zw (zah (za (zG zaO (pv 3) (pv 4)) (za (zG z9 (zG zaO (zl (show IxR _ (rIx K)from zk) (pv 0) ze (fun _ _=>rfl)) (pv 2)) (zG zaO (zl (show IxR _ (rIx K)from zk) (pv 1) ze (fun _ _=>rfl)) (pv 4))) zf)))))))),?_⟩
 refine zI (σ0:=[some (.ref a),some (.ref b),none,none,none]) rfl ?_
 have hg:0<My.gc (q.den:Int) (r.den:Int):=My.gc_pos_right (yal (zal r))
 have zg:sz (My.gc (q.den:Int) (r.den:Int))<=9000:=yh (zca (yal (zal r)) s2.2) (by decide)
 have m1:CMulS q.num ((r.den:Int)/My.gc (q.den:Int) (r.den:Int)):=CMulS.of s1.1 (yh (zb4 _ _) s2.2) (by decide)
 have m2:CMulS r.num ((q.den:Int)/My.gc (q.den:Int) (r.den:Int)):=CMulS.of s2.1 (yh (zb4 _ _) s1.2) (by decide)
 have hc:0<My.gc (q.num*((r.den:Int)/My.gc (q.den:Int) (r.den:Int))+r.num*((q.den:Int)/My.gc (q.den:Int) (r.den:Int))) (My.gc (q.den:Int) (r.den:Int)):=My.gc_pos_right (yal hg)
 have zc:sz (My.gc (q.num*((r.den:Int)/My.gc (q.den:Int) (r.den:Int))+r.num*((q.den:Int)/My.gc (q.den:Int) (r.den:Int))) (My.gc (q.den:Int) (r.den:Int)))<=9000:=zca (yal hg) zg
 have m3:CMulS ((q.den:Int)/My.gc (q.den:Int) (r.den:Int)) ((r.den:Int)/My.gc (q.num*((r.den:Int)/My.gc (q.den:Int) (r.den:Int))+r.num*((q.den:Int)/My.gc (q.den:Int) (r.den:Int))) (My.gc (q.den:Int) (r.den:Int))):=CMulS.of (yh (zb4 _ _) s1.2) (yh (zb4 _ _) s2.2) (by decide)
 walk_at "x"
 exact NewQ.mk k (zkN q r)
theorem zjB(T:Txt K mg):FnOk P w K mg base (CXF P w) 3 T.d_minus.a T.d_minus.fd ["one", "other"] zg0:=by
 refine T.d_minus.F.okN zmK (fun vs H Q E h=>?_) (fun cdv A outer s H vs Q E hr h=>?_)
 ·obtain⟨a,b,q,r,rfl,_⟩:=h;rfl
 obtain⟨a,b,q,r,rfl,h1,h2,s1,s2,k⟩:=h
 refine⟨_,(zj (zw (zm (zgL T) (hr.mono (by decide)) rfl T.d_plus.m T.d_plus.F.kp T.d_plus.b .nil (zy zt) (za (pv 0) (za (zah (za (zeK zdW (zl (show IxR _ (rIx K)from zk) (pv 1) ze (fun _ _=>rfl))) (za (zl (show IxR _ (rIx K)from zk) (pv 1) ze (fun _ _=>rfl)) zf))) zf))))),?_⟩
 refine zI (σ0:=[some (.ref a),some (.ref b)]) rfl ?_
 have s3:OkQ (-r):=SzQ.neg s2
 walk_at "x"
 refine zaP (q:=-r) (zjW r) ?_
 walk_at "x"
 rename_i p1 H1 e1 i1
 rw[<- ybv]at i1
 exact k _ _ (by walk_at "h") i1
theorem zeD(T:Txt K mg):FnOk P w K mg base (CXF P w) 2 T.d_times.a T.d_times.fd ["one", "other"] zhf:=by
 refine T.d_times.F.okN sc_times (fun vs H Q E h=>?_) (fun cdv A outer s H vs Q E hr h=>?_)
 ·obtain⟨a,b,q,r,rfl,_⟩:=h;rfl
 obtain⟨a,b,q,r,rfl,h1,h2,s1,s2,k⟩:=h
 refine⟨_,(zh (zp (i:=2) sc_times.nd rfl (Or.inl rfl) (zm (zcn T) (hr.mono (by decide)) rfl T.d_divisor.m T.d_divisor.F.kp T.d_divisor.b .nil (zy zt) (za (zl (show IxR _ (rIx K)from zk) (pv 0) ze (fun _ _=>rfl)) (za (zl (show IxR _ (rIx K)from zk) (pv 1) ze (fun _ _=>rfl)) zf))))
 (zh (zp (i:=3) sc_times.nd rfl (Or.inl rfl) (zm (zcn T) (hr.mono (by decide)) rfl T.d_divisor.m T.d_divisor.F.kp T.d_divisor.b .nil (zy zt) (za (zl (show IxR _ (rIx K)from zk) (pv 1) ze (fun _ _=>rfl)) (za (zl (show IxR _ (rIx K)from zk) (pv 0) ze (fun _ _=>rfl)) zf))))
 (zh (zp (i:=4) sc_times.nd rfl (Or.inl rfl) (zG z9 (zG zaO (zl (show IxR _ (rIx K)from zk) (pv 0) ze (fun _ _=>rfl)) (pv 2)) (zG zaO (zl (show IxR _ (rIx K)from zk) (pv 1) ze (fun _ _=>rfl)) (pv 3))))
 (zh (zp (i:=5) sc_times.nd rfl (Or.inl rfl) (zG z9 (zG zaO (zl (show IxR _ (rIx K)from zk) (pv 0) ze (fun _ _=>rfl)) (pv 3)) (zG zaO (zl (show IxR _ (rIx K)from zk) (pv 1) ze (fun _ _=>rfl)) (pv 2))))
 (zj (zw (zah (za (pv 4) (za (pv 5) zf))))))))),?_⟩
 refine zI (σ0:=[some (.ref a),some (.ref b),none,none,none,none]) rfl ?_
 have hg:0<My.gc q.num (r.den:Int):=My.gc_pos_right (yal (zal r))
 have zg:sz (My.gc q.num (r.den:Int))<=9000:=yh (zca (yal (zal r)) s2.2) (by decide)
 have hc:0<My.gc r.num (q.den:Int):=My.gc_pos_right (yal (zal q))
 have zc:sz (My.gc r.num (q.den:Int))<=9000:=yh (zca (yal (zal q)) s1.2) (by decide)
 have m1:CMulS (q.num/My.gc q.num (r.den:Int)) (r.num/My.gc r.num (q.den:Int)):=CMulS.of (yh (zb4 _ _) s1.1) (yh (zb4 _ _) s2.1) (by decide)
 have m2:CMulS ((q.den:Int)/My.gc r.num (q.den:Int)) ((r.den:Int)/My.gc q.num (r.den:Int)):=CMulS.of (yh (zb4 _ _) s1.2) (yh (zb4 _ _) s2.2) (by decide)
 walk_at "x"
 exact NewQ.mk k (zjN q r)
theorem zoz(T:Txt K mg):FnOk P w K mg base (CXF P w) 3 T.d_over.a T.d_over.fd ["one", "other"] zg1:=by
 refine T.d_over.F.okN zoR (fun vs H Q E h=>?_) (fun cdv A outer s H vs Q E hr h=>?_)
 ·obtain⟨a,b,q,r,rfl,_⟩:=h;rfl
 obtain⟨a,b,q,r,rfl,h1,h2,s1,s2,h3,k⟩:=h
 refine⟨_,(zh (zO (zB (show OpR _ (compareOp .Eq) (zaE K)from zar hr.units) (zl (show IxR _ (rIx K)from zk) (pv 1) ze (fun _ _=>rfl)) ze (nomark _))
 (zj zf9)
 zL)
 (zh (zO (zB zcp (zl (show IxR _ (rIx K)from zk) (pv 1) ze (fun _ _=>rfl)) ze (nomark _))
 (zj (zw (zm (zeD T) (hr.mono (by decide)) rfl T.d_times.m T.d_times.F.kp T.d_times.b .nil (zy zt) (za (pv 0) (za (zah (za (zeK zdW (zl (show IxR _ (rIx K)from zk) (pv 1) ze (fun _ _=>rfl))) (za (zeK zdW (zl (show IxR _ (rIx K)from zk) (pv 1) ze (fun _ _=>rfl))) zf))) zf)))))
 zL)
 (zj (zw (zm (zeD T) (hr.mono (by decide)) rfl T.d_times.m T.d_times.F.kp T.d_times.b .nil (zy zt) (za (pv 0) (za (zah (za (zl (show IxR _ (rIx K)from zk) (pv 1) ze (fun _ _=>rfl)) (za (zl (show IxR _ (rIx K)from zk) (pv 1) ze (fun _ _=>rfl)) zf))) zf))))))),?_⟩
 refine zI (σ0:=[some (.ref a),some (.ref b)]) rfl ?_
 rw[ybJ]at k
 have s3:OkQ r⁻¹:=(s2.inv h3).mono (by decide) (by decide)
 walk_at "x"
 all_goals first | (exfalso;contradiction) | skip
 ·rename_i hn
  refine zaP (q:=r⁻¹) (zot hn) ?_
  walk_at "x"
  exact k _ _ (by walk_at "h") (by walk_at "h")
 ·rename_i hn
  refine zaP (q:=r⁻¹) (inv_pos (by omega)) ?_
  walk_at "x"
  exact k _ _ (by walk_at "h") (by walk_at "h")
theorem ziA(T:Txt K mg):FnOk P w K mg base (CXF P w) 1 T.d_under.a T.d_under.fd ["one", "other"] (zha 60000):=by
 refine T.d_under.F.okN znO (fun vs H Q E h=>?_) (fun cdv A outer s H vs Q E hr h=>?_)
 ·obtain⟨a,b,q,r,rfl,_⟩:=h;rfl
 obtain⟨a,b,q,r,rfl,h1,h2,s1,s2,k⟩:=h
 refine⟨_,(zj (zw (zc9 zcp (zG z9 (zl (show IxR _ (rIx K)from zk) (pv 0) ze (fun _ _=>rfl)) (zl (show IxR _ (rIx K)from zk) (pv 1) ze (fun _ _=>rfl))) (zG z9 (zl (show IxR _ (rIx K)from zk) (pv 1) ze (fun _ _=>rfl)) (zl (show IxR _ (rIx K)from zk) (pv 0) ze (fun _ _=>rfl))) (nomark _)))),?_⟩
 refine zI (σ0:=[some (.ref a),some (.ref b)]) rfl ?_
 have e:decide (q<r)=decide (q.num*(r.den:Int)<r.num*(q.den:Int)):=decide_eq_decide.mpr (Rat.lt_iff q r)
 rw[e]at k
 walk_at "x"
 refine zk5 (CMulS.of s1.1 s2.2 (by decide)) ?_
 walk_at "x"
 refine zk5 (CMulS.of s2.1 s1.2 (by decide)) ?_
 walk_at "x"
 exact k
theorem zi3(T:Txt K mg):FnOk P w K mg base (CXF P w) 2 T.d_least.a T.d_least.fd ["one", "other"] (zg9 60000):=by
 refine T.d_least.F.okN zm7 (fun vs H Q E h=>?_) (fun cdv A outer s H vs Q E hr h=>?_)
 ·obtain⟨a,b,q,r,rfl,_⟩:=h;rfl
 obtain⟨a,b,q,r,rfl,h1,h2,s1,s2,k⟩:=h
 refine⟨_,(zh (zO (show PT _ _ (zb0 K _)from zac (zm (ziA T) (hr.mono (by decide)) rfl T.d_under.m T.d_under.F.kp T.d_under.b .nil (zy zt) (za (pv 1) (za (pv 0) zf))) (fun _=>rfl))
 (zj (zw (pv 1)))
 zL)
 (zj (zw (pv 0)))),?_⟩
 refine zI (σ0:=[some (.ref a),some (.ref b)]) rfl ?_
 walk_at "x"
 ·rename_i h;rw[if_pos h]at k;exact k
 ·rename_i h;rw[if_neg h]at k;exact k
theorem zo4(T:Txt K mg):FnOk P w K mg base (CXF P w) 2 T.d_part.a T.d_part.fd ["top", "bottom"] zi0:=by
 refine T.d_part.F.okN sc_part (fun vs H Q E h=>?_) (fun cdv A outer s H vs Q E hr h=>?_)
 ·obtain⟨t,b,rfl,_⟩:=h;rfl
 obtain⟨t,b,rfl,hb0,hs,k⟩:=h
 refine⟨_,(zh (zO (zB (show OpR _ (compareOp .Eq) (zaE K)from zar hr.units) (pv 1) ze (nomark _))
 (zj zf9)
 zL)
 (zh (zp (i:=2) sc_part.nd rfl (Or.inl rfl) (zm (zcn T) (hr.mono (by decide)) rfl T.d_divisor.m T.d_divisor.F.kp T.d_divisor.b .nil (zy zt) (za (pv 0) (za (pv 1) zf))))
 (zfo (zO (zB zcp (pv 1) ze (nomark _))
 (zj (zp (i:=2) sc_part.nd rfl (Or.inl rfl) (zeK zdW (pv 2))))
 zL)
 (zj (zw (zah (za (zG zaO (pv 0) (pv 2)) (za (zG zaO (pv 1) (pv 2)) zf)))))))),?_⟩
 refine zI (σ0:=[some (.int t),some (.int b),none]) rfl ?_
 walk_at "x"
 ·have h0:=hb0
  have hg:0<My.gc t b:=My.gc_pos_right h0
  have hz:sz (My.gc t b)<=9000:=yh (zca h0 hs) (by decide)
  refine ziy 2 (fun v H'=>H'=H/\((b<0/\v=.int (-My.gc t b))\/(0<b/\v=.int (My.gc t b)))) ?_ ?_
  ·walk_at "x"
   ·rename_i h2;exact⟨_,rfl,rfl,.inl ⟨h2,rfl⟩⟩
   ·rename_i h2;exact⟨_,rfl,rfl,.inr ⟨by omega,rfl⟩⟩
  rintro v H' ⟨rfl,h2⟩
  rcases h2 with⟨hn,rfl⟩ | ⟨hp,rfl⟩
  ·have zn:sz (-My.gc t b)<=9000:=yh (ze1 _) hz
   walk_at "x"
   refine zi1 (by omega) zn ?_
   walk_at "x"
   refine zi1 (by omega) zn ?_
   walk_at "x"
   exact NewQ.mk k (My.part_neg hn)
  ·walk_at "x"
   exact NewQ.mk k (My.part_pos hp)
theorem zih(T:Txt K mg):FnOk P w K mg base (CXF P w) 2 T.d_whole_row.a T.d_whole_row.fd ["row"] (zgo K sZ sB):=by
 refine T.d_whole_row.F.okN sc_whole_row (fun vs H Q E h=>?_) (fun cdv A outer s H vs Q E hr h=>?_)
 ·obtain⟨a,ws,qs,rfl,_⟩:=h;rfl
 obtain⟨a,ws,qs,rfl,ha,hq,hl,hz,h1,h2,h3,k⟩:=h
 have hwl:=hq.length
 have p8:∀i:Nat,i<=20->i*sB<=8000:=fun i hi=>yh (Nat.mul_le_mul_right _ hi) h1
 refine⟨_,(zh (zp (i:=1) sc_whole_row.nd rfl (Or.inr rfl) ze)
 (zh (zat PassesOwn.never rfl (show PI _ _ _ (zaA K _)from z8 (pv 0)) (show PG _ _ (zbr K 2 _)from zaL (n:=2) rfl (zK (zM (i:=2) sc_whole_row.nd rfl (Or.inl rfl)) (zK (zM (i:=3) sc_whole_row.nd rfl (Or.inl rfl)) zav)))
 (zj (zp (i:=1) sc_whole_row.nd rfl (Or.inr rfl) (zG z9 (zG zaO (pv 1) (zm (zcn T) (hr.mono (by decide)) rfl T.d_divisor.m T.d_divisor.F.kp T.d_divisor.b .nil (zy zt) (za (pv 1) (za (pv 3) zf)))) (pv 3)))))
 (zj (zw (zaw rfl (show PI _ _ _ (zaA K _)from z8 (pv 0)) (zF (Ni:=["top", "bottom", "common"]) (caps:=[none,none,some 1]) (by rfl)) (fun S _ _ _ _ _=>(show PG _ _ (zbr K 2 _)from zaL (n:=2) rfl (zK (zJ (gi:=0) S (Or.inl rfl) rfl) (zK (zJ (gi:=1) S (Or.inl rfl) rfl) zav)))) (fun _ _ _ _ _=>zV) (fun _ _ _ _ _=>(zG z9 (pv 0) (zG zaO (pv 2) (pv 1))))))))),?_⟩
 refine zI (σ0:=[some (.ref a),none,none,none]) rfl ?_
 walk_at "x"
 refine zdV (xs:=ws) (fun i σ' H'=>∃(c:Int) (f2 f3:Option V),σ'=[some (.ref a),some (.int c),f2,f3]/\0<c/\c<=((2 ^ (i*sB):Nat):Int)/\(∀j q,j<i->qs[j]?=some q->(q.den:Int)∣c)/\H'=H) ⟨1,_,_,rfl,by decide,by rw[Nat.zero_mul];decide,fun j q hj _=>by omega,rfl⟩ ?_ ?_ ?_
 ·rintro i σ' H' _ ⟨c,f2,f3,rfl,_,_,_,rfl⟩;exact SqL.of ha
 ·rintro i x σ' H' hx ⟨c,f2,f3,rfl,c0,c1,hc,rfl⟩
  obtain⟨b,q,rfl,hqi,hb⟩:=hq.get hx
  have hb':H' b=some (.tup [.int q.num,.int (q.den:Int)]):=hb
  have hi:i<qs.length:=(yj.mp hqi).1
  have hzq:=hz q (yb hqi)
  have db:=zal q
  have ls:=znp c0 db
  have hg:0<My.gc c (q.den:Int):=My.gc_pos_right (by omega)
  have zd:sz (q.den:Int)<=8999:=yh hzq.2 (by have:=p8 1 (by omega);omega)
  have zg:sz (My.gc c (q.den:Int))<=9000:=yh (zca (by omega) zd) (by decide)
  have zc:sz c<=8001:=zbJ (by
   have hp:2 ^ (i*sB)<=2 ^ 8000:=yaZ (by decide) (p8 i (by omega))
   have h2:(2:Nat) ^ 8001=2 ^ 8000*2:=ybA ..
   have h0:0<(2:Nat) ^ 8000:=ya5 _
   rw[h2]
   generalize (2:Nat) ^ 8000=B at *
   omega)
  have m1:CMulS (c/My.gc c (q.den:Int)) (q.den:Int):=CMulS.of (yh (zb4 _ _) zc) zd (by decide)
  walk_at "x"
  refine⟨_,_,_,rfl,ls.1,?_,?_,rfl⟩
  ·have hd:(q.den:Int)<=((2 ^ sB:Nat):Int):=by
    have:=sz_le.mp hzq.2
    omega
   have h5:c*(q.den:Int)<=((2 ^ (i*sB):Nat):Int)*((2 ^ sB:Nat):Int):=Int.mul_le_mul c1 hd (by omega) (by exact_mod_cast yD _)
   rw[Nat.succ_mul,ya2]
   push_cast at h5 ⊢
   exact Int.le_trans ls.2.2.2 h5
  ·intro j r hj hr
   rcases yL (yW hj)with h | h
   ·exact Int.dvd_trans (hc j r h hr) ls.2.1
   ·subst h;rw[hqi]at hr;cases hr;exact ls.2.2.1
 ·rintro σ' H' ⟨c,f2,f3,rfl,c0,c1,hc,rfl⟩
  rw[hwl]at c1 hc
  obtain⟨F,hF⟩:∃F:Nat->Int,F=fun j=>(qs.getD j 0).num*(c/((qs.getD j 0).den:Int)):=⟨_,rfl⟩
  have zc:sz c<=8001:=zbJ (by
   have hp:2 ^ (qs.length*sB)<=2 ^ 8000:=yaZ (by decide) (p8 _ hl)
   have h2:(2:Nat) ^ 8001=2 ^ 8000*2:=ybA ..
   have h0:0<(2:Nat) ^ 8000:=ya5 _
   rw[h2]
   generalize (2:Nat) ^ 8000=B at *
   omega)
  walk_at "x"
  refine zbC (zaq (K:=K) (a:=a) (xs:=ws)) (fun H2 e=>SqL.of (e.at ha)) rfl (fun i vs H2=>vs=(vec i F).map V.int) (fun H2 _=>rfl) ?_ ?_
  ·rintro i x D vs o o' H1 H2 hi hD e1 hv hvl rfl e2 hx
   obtain⟨b,q,rfl,hqi,hb⟩:=(hq.same (e1.trans e2)).get hx
   have hb':H2 b=some (.tup [.int q.num,.int (q.den:Int)]):=hb
   have hzq:=hz q (yb hqi)
   have db:=zal q
   have zd:sz (q.den:Int)<=9000:=yh hzq.2 (by have:=p8 1 (by omega);omega)
   have m1:CMulS q.num (c/(q.den:Int)):=CMulS.of hzq.1 (yh (zb4 _ _) zc) (by omega)
   walk_at "x"
   rename_i H3 b3 h3'
   refine⟨⟨_,_,rfl⟩,by walk_at "h",_,h3',by rw[ya];exact ym hvl,?_⟩
   show(vec i F).map V.int++_=(vec (i+1) F).map V.int
   rw[zcg,yl,hF]
   have:qs.getD i 0=q:=by rw[yg,hqi];rfl
   dsimp only
   rw[this];rfl
  ·rintro D H2 vs hD e hv hvl rfl
   refine k D H2 F c hD e c0 (fun j q hj=>?_) (by rw[hwl]at hv;exact hv)
   have hjl:j<qs.length:=(yj.mp hj).1
   have hzq:=hz q (yb hj)
   have:qs.getD j 0=q:=by rw[yg,hj];rfl
   have db:=zal q
   rw[hF]
   dsimp only
   rw[this]
   obtain⟨u,hu⟩:=hc j q hjl hj
   have ed:c/(q.den:Int)=u:=by rw[hu];exact yS _ (by omega)
   have u0:0<u:=by
    rcases yaW 0 u with h | h
    ·exact h
    ·have:=y6 (yay db) h;omega
   have uc:u<=c:=by
    have h1:1*u<=(q.den:Int)*u:=yaP (by omega) (by omega)
    omega
   rw[ed]
   refine⟨?_,?_⟩
   ·rw[hu,yP,yP]
    have e1:((q.num:Int):Rat)/(((q.den:Nat):Int):Rat)=q:=by rw[<- yaV];exact yba q
    have hne:(((q.den:Nat):Int):Rat)≠0:=fun z=>by
     have:((q.den:Nat):Int)=0:=by exact_mod_cast z
     omega
    have e2:((q.num:Int):Rat)=q*(((q.den:Nat):Int):Rat):=by
     have:=ybt (a:=((q.num:Int):Rat)) hne
     rw[e1]at this;exact this.symm
    rw[e2]
    grind
   ·refine zbJ ?_
    rw[ybm,ya2]
    have a1:=sz_le.mp hzq.1
    have a2:u.natAbs<=2 ^ (qs.length*sB):=by omega
    exact yak (Nat.mul_le_mul_left _ a2) (Nat.mul_lt_mul_of_pos_right a1 (ya5 _))
theorem zhW(T:Txt K mg):FnOk P w K mg base (CXF P w) 1 T.d_with_first.a T.d_with_first.fd ["table", "place"] (zfi K):=by
 refine T.d_with_first.F.okN sc_with_first (fun vs H Q E h=>?_) (fun cdv A outer s H vs Q E hr h=>?_)
 ·obtain⟨a,as,w,M,k,rfl,_⟩:=h;rfl
 obtain⟨a,as,w,M,k,rfl,ha,hR,k0,k1,k2,hl,⟨iN,iN1,iN2,iN3⟩,q1⟩:=h
 have hml:(as.map V.ref).length=as.length:=yc ..
 obtain⟨b1,hb1⟩:=zC (show k.toNat<as.length by omega)
 have hat1:atI (as.map V.ref) k=some (.ref b1):=zau k0 (by rw[yf,hb1];rfl)
 refine⟨_,(zh (zat PassesOwn.never rfl (zmA rfl T.z_range (za (pv 1) (za (zN (show CallR _ _ (za7 K)from zZ) rfl T.z_len BT.len (za (pv 0) zf)) zf))) (zM (i:=2) sc_with_first.nd rfl (Or.inl rfl))
 (zj (zO (zB (show OpR _ (compareOp .NotEq) (zbM K)from zb5 hr.units) (zl (show IxR _ (rIx K)from zk) (zl (show IxR _ (rIx K)from zk) (pv 0) (pv 2) (fun _ _=>rfl)) (pv 1) (fun _ _=>rfl)) ze (nomark _))
 (zh (zp (i:=3) sc_with_first.nd rfl (Or.inl rfl) (zbP (show CallR _ _ (zb7 K)from zcu) rfl T.z_list BT.list (za (pv 0) zf)))
 (zh (zcA (zl (show IxR _ (rIx K)from zk) (pv 0) (pv 2) (fun _ _=>rfl)) (zcB (pv 3) (pv 1) zaU))
 (zh (zcA (zl (show IxR _ (rIx K)from zk) (pv 0) (pv 1) (fun _ _=>rfl)) (zcB (pv 3) (pv 2) zaU))
 (zj (zw (pv 3))))))
 zL)))
 (zj zf9)),?_⟩
 refine zI (σ0:=[some (.ref a),some (.int k),none,none]) rfl ?_
 walk_at "x"
 refine zc0 (fun i σ' H'=>∃f2 f3:Option V,σ'=[some (.ref a),some (.int k),f2,f3]/\(∀j,k.toNat<=j->j<k.toNat+i->M j k.toNat=0)/\H'=H) ⟨_,_,rfl,fun j h1 h2=>by omega,rfl⟩ ?_ ?_
 ·rintro i σ' H' hi ⟨f2,f3,rfl,hM,rfl⟩
  rw[hml]at hi
  have ei:(k+(i:Int)).toNat=k.toNat+i:=by omega
  obtain⟨b2,hb2⟩:=zC (show k.toNat+i<as.length by omega)
  have hat2:atI (as.map V.ref) (k+(i:Int))=some (.ref b2):=zau (by omega) (by rw[ei,yf,hb2];rfl)
  have hr2:=hR.2 _ _ hb2
  have hk2:atI ((vec w (M (k.toNat+i))).map V.int) k=some (.int (M (k.toNat+i) k.toNat)):=zau k0 (by rw[yf,zay (by omega)];rfl)
  walk_at "x"
  ·rename_i hne p H1 fp e1 hp
   have npa:p∉as:=hR.fresh fp
   have nap:a≠p:=fun z=>by rw[z,fp]at ha;cases ha
   refine zdn (j:=k.toNat) hp (zdx k0 (by omega)) ?_
   intro H2 b2' h2'
   have ha2:H2 a=some (.lst (as.map V.ref)):=b2'.lst (e1.at ha) nap
   walk_at "x"
   refine zdn (j:=k.toNat+i) h2' (by rw[<- ei];exact zdx (by omega) (by rw[yao];omega)) ?_
   intro H3 b3 h3
   walk_at "x"
   have e13:Same H' H3:=b3.same (b2'.same e1 fp) fp
   refine q1 p H3 (zey as k.toNat (k.toNat+i) b1 b2) (k.toNat+i) (by omega) (by omega) hne fp e13 ?_ ?_ ?_ ?_
   ·rw[h3];unfold zey;rw[ybC,ybC]
   ·unfold zey;rw[yao,yao]
   ·intro c hc
    unfold zey at hc
    rcases ya7 hc with h | h
    ·rcases ya7 h with h | h
     ·exact h
     ·rw[h];exact yb hb2
    ·rw[h];exact yb hb1
   ·exact zmo (hR.same e13) hb1 hb2
  ·rename_i hz
   refine⟨_,_,rfl,fun j h1 h2=>?_,rfl⟩
   by_cases e:j=k.toNat+i
   ·rw[e];exact hz
   ·exact hM j h1 (by omega)
 ·rintro σ' H' ⟨f2,f3,rfl,hM,rfl⟩
  rw[hml]at hM
  exact absurd (hM iN iN1 (by omega)) iN3
theorem zit(T:Txt K mg):FnOk P w K mg base (CXF P w) 1 T.d_swept_row.a T.d_swept_row.fd ["row", "sweeper", "place", "before"] (zeO K):=by
 refine T.d_swept_row.F.okN sc_swept_row (fun vs H Q E h=>?_) (fun cdv A outer s H vs Q E hr h=>?_)
 ·obtain⟨a,b,w,f,g,k,d,rfl,_⟩:=h;rfl
 obtain⟨a,b,w,f,g,k,d,rfl,ha,hb,k0,k1,hw,d0,hd,hz,q⟩:=h
 have hk1:atI ((vec w f).map V.int) k=some (.int (f k.toNat)):=zau k0 (by rw[yf,zay (by omega)];rfl)
 have hk2:atI ((vec w g).map V.int) k=some (.int (g k.toNat)):=zau k0 (by rw[yf,zay (by omega)];rfl)
 refine⟨_,(zh (zp (i:=4) sc_swept_row.nd rfl (Or.inr rfl) (zl (show IxR _ (rIx K)from zk) (pv 1) (pv 2) (fun _ _=>rfl)))
 (zh (zp (i:=5) sc_swept_row.nd rfl (Or.inr rfl) (zl (show IxR _ (rIx K)from zk) (pv 0) (pv 2) (fun _ _=>rfl)))
 (zj (zw (zaw rfl (show PI _ _ _ (zna K _)from zl2 rfl T.z_zip (za (pv 0) (za (pv 1) zf))) (zF (Ni:=["mine", "other", "keep", "take", "before"]) (caps:=[none,none,some 4,some 5,some 3]) (by rfl)) (fun S _ _ _ _ _=>(show PG _ _ (zbr K 2 _)from zaL (n:=2) rfl (zK (zJ (gi:=0) S (Or.inl rfl) rfl) (zK (zJ (gi:=1) S (Or.inl rfl) rfl) zav)))) (fun _ _ _ _ _=>zV) (fun _ _ _ _ _=>(zG zaO (zG zjd (zG z9 (pv 2) (pv 0)) (zG z9 (pv 3) (pv 1))) (pv 4)))))))),?_⟩
 refine zI (σ0:=[some (.ref a),some (.ref b),some (.int k),some (.int d),none,none]) rfl ?_
 walk_at "x"
 have hn:min ((vec w f).map V.int).length ((vec w g).map V.int).length=w:=by rw[yc,yc,zaa,zaa,Nat.min_self]
 refine zbC (zka (K:=K) (a:=a) (b:=b) (xs:=(vec w f).map V.int) (ys:=(vec w g).map V.int)) (fun H2 e=>⟨SqL.of (e.at ha),SqL.of (e.at hb)⟩) rfl (fun i vs H2=>vs=(vec i fun j=>(g k.toNat*f j-f k.toNat*g j).fdiv d).map V.int) (fun H2 _=>rfl) ?_ ?_
 ·rintro i x D vs o o' H1 H2 hi hD e1 hv hvl rfl e2 ⟨p,v,v',rfl,hv1,hv2,hp⟩
  rw[hn]at hi
  rw[yf,zay hi]at hv1 hv2
  cases hv1;cases hv2
  have z1:=hz i hi
  have z2:=hz k.toNat (by omega)
  have m1:CMulS (g k.toNat) (f i):=CMulS.of z2.2 z1.1 (by decide)
  have m2:CMulS (f k.toNat) (g i):=CMulS.of z2.1 z1.2 (by decide)
  walk_at "x"
  refine zi1 d0 hd ?_
  walk_at "x"
  rename_i H3 b3 h3'
  refine⟨⟨_,_,rfl⟩,by walk_at "h",_,h3',by rw[ya];exact ym hvl,?_⟩
  show _=(vec (i+1) _).map V.int
  rw[zcg,yl];rfl
 ·rintro D H2 vs hD e hv hvl rfl
  rw[hn]at hv
  exact q D H2 hD e hv
theorem znz(T:Txt K mg):FnOk P w K mg base (CXF P w) 2 T.d_swept.a T.d_swept.fd ["table", "place", "before"] (zj4 K):=by
 refine T.d_swept.F.okN sc_swept (fun vs H Q E h=>?_) (fun cdv A outer s H vs Q E hr h=>?_)
 ·obtain⟨a,as,w,M,k,d,rfl,_⟩:=h;rfl
 obtain⟨a,as,w,M,k,d,rfl,ha,hR,k0,k1,k2,hw,hl,d0,hd,hz,q⟩:=h
 have hml:(as.map V.ref).length=as.length:=yc ..
 obtain⟨b,hb⟩:=zC (show k.toNat<as.length by omega)
 have hat:atI (as.map V.ref) k=some (.ref b):=zau k0 (by rw[yf,hb];rfl)
 have hrb:=hR.2 _ _ hb
 refine⟨_,(zh (zp (i:=3) sc_swept.nd rfl (Or.inl rfl) (zl (show IxR _ (rIx K)from zk) (pv 0) (pv 1) (fun _ _=>rfl)))
 (zh (zp (i:=4) sc_swept.nd rfl (Or.inl rfl) (zaC zf))
 (zh (zat PassesOwn.never rfl (show PI _ _ _ (zcd K _)from zbc rfl T.z_enumerate (za (pv 0) zf)) (show PG _ _ (zbr K 2 _)from zaL (n:=2) rfl (zK (zM (i:=5) sc_swept.nd rfl (Or.inl rfl)) (zK (zM (i:=6) sc_swept.nd rfl (Or.inl rfl)) zav)))
 (zj (zO (zB (show OpR _ (compareOp .Eq) (zaE K)from zar hr.units) (pv 5) (pv 1) (nomark _))
 (zj (zcN (show PE _ _ (tBM K _ _ _ _)from zdH yV yab yac zbT (pv 4) (za (pv 6) zf))))
 (zj (zcN (show PE _ _ (tBM K _ _ _ _)from zdH yV yab yac zbT (pv 4) (za (zm (zit T) (hr.mono (by decide)) rfl T.d_swept_row.m T.d_swept_row.F.kp T.d_swept_row.b .nil (zy zt) (za (pv 6) (za (pv 3) (za (pv 1) (za (pv 2) zf))))) zf)))))))
 (zj (zw (pv 4)))))),?_⟩
 refine zI (σ0:=[some (.ref a),some (.int k),some (.int d),none,none,none,none]) rfl ?_
 walk_at "x"
 rename_i D H1 fD e1 hD
 refine zdQ (zaV (K:=K) (a:=a) (xs:=as.map V.ref)) (fun i σ' H'=>∃(f5 f6:Option V) (bs:List Addr),σ'=[some (.ref a),some (.int k),some (.int d),some (.ref b),some (.ref D),f5,f6]/\H' D=some (.lst (bs.map V.ref))/\bs.length=i/\Same H H'/\Rows H' bs w (Dt.nxtI M k.toNat d)/\(k.toNat<i->bs[k.toNat]?=some b)/\∀j c,bs[j]?=some c->c∈as->c=b/\j=k.toNat) ⟨_,_,[],rfl,hD,rfl,e1,⟨yaF,fun _ _ h=>nomatch h⟩,fun h=>by omega,fun _ _ h=>nomatch h⟩ ?_ ?_ ?_
 ·rintro i σ' H' ⟨f5,f6,bs,rfl,hD',hbl,e,_⟩;exact SqL.of (e.at ha)
 ·rintro i x σ' H2 H3 hi ⟨f5,f6,bs,rfl,hD',hbl,e,hB,hkb,hmem⟩ e3 ⟨p,v,rfl,hv,hp⟩
  rw[hml]at hi
  obtain⟨c,hc⟩:=zC hi
  have ev:v=.ref c:=by rw[yf,hc]at hv;exact(yp hv).symm
  subst ev
  have hD3:=e3.at hD'
  have e03:=e.trans e3
  have hrc:=e03.at (hR.2 _ _ hc)
  have hrb3:=e03.at hrb
  have nD:D∉bs:=hB.ne (by omega) hD'
  have nDa:D∉as:=hR.fresh fD
  have hbl':(bs.map V.ref).length<=20:=by rw[yc];omega
  have hz1:∀j,j<w->sz (M i j)<=9000/\sz (M k.toNat j)<=9000:=fun j hj=>⟨hz i j hi hj,hz _ j (by omega) hj⟩
  walk_at "x"
  ·rename_i hik H4 b4 h4
   have ek:i=k.toNat:=by omega
   have ecb:c=b:=by rw[ek,hb]at hc;exact(yp hc).symm
   subst ecb
   have cm:c∈as:=yb hb
   have ncb:c∉bs:=fun z=>by
    obtain⟨j,hj,ej⟩:=yI z
    have:=(hmem j c (by rw[yi hj,ej]) cm).2
    omega
   have ncD:c≠D:=fun z=>nDa (z▸cm)
   refine⟨_,_,bs++[c],rfl,by rw[h4,yl];rfl,by rw[ya,hbl];rfl,b4.same e03 fD,?_,?_,?_⟩
   ·refine Rows.app ((hB.same e3).but b4 nD) ncb ?_
    rw[b4.lst hrb3 ncD,hbl]
    refine congrArg (fun z=>some (HO.lst (z.map V.int))) (zck fun j _=>?_)
    unfold Dt.nxtI
    rw[if_pos ek]
   ·intro _
    rw[yU (by omega),show k.toNat-bs.length=0 by omega];rfl
   ·intro j c' hj hc'
    rcases Nat.lt_or_ge j bs.length with h | h
    ·rw[yA h]at hj;exact hmem j c' hj hc'
    ·rw[yU h]at hj
     have hj0:j-bs.length=0:=by
      rcases yaO (j-bs.length)with z | z
      ·exact z
      ·rw[yE (by simp only[y9];omega)]at hj;cases hj
     rw[hj0]at hj
     exact⟨(yp hj).symm,by omega⟩
  ·rename_i hik p' H4 fp' e4 hp' H5 b5 h5
   have nk:i≠k.toNat:=fun z=>hik (by omega)
   have npb:p'∉bs:=(hB.same e3).fresh fp'
   have npD:p'≠D:=fun z=>by rw[z,hD3]at fp';cases fp'
   refine⟨_,_,bs++[p'],rfl,by rw[h5,yl];rfl,by rw[ya,hbl];rfl,b5.same (e03.trans e4) fD,?_,?_,?_⟩
   ·refine Rows.app (((hB.same e3).same e4).but b5 nD) npb ?_
    rw[b5.lst hp' npD,hbl]
    refine congrArg (fun z=>some (HO.lst (z.map V.int))) (zck fun j _=>?_)
    unfold Dt.nxtI
    rw[if_neg nk]
   ·intro h
    rw[yA (by omega)]
    exact hkb (by omega)
   ·intro j c' hj hc'
    rcases Nat.lt_or_ge j bs.length with h | h
    ·rw[yA h]at hj;exact hmem j c' hj hc'
    ·rw[yU h]at hj
     have hj0:j-bs.length=0:=by
      rcases yaO (j-bs.length)with z | z
      ·exact z
      ·rw[yE (by simp only[y9];omega)]at hj;cases hj
     rw[hj0]at hj
     have ec:c'=p':=(yp hj).symm
     obtain⟨m,_,_,hm⟩:=(hR.same e03).mem hc'
     rw[ec,fp']at hm;cases hm
 ·rintro σ' H2 ⟨f5,f6,bs,rfl,hD',hbl,e,hB,hkb,hmem⟩
  walk_at "x"
  rw[hml]at hbl
  exact q D H2 bs fD e hD' hbl hB
theorem zhx(T:Txt K mg):FnOk P w K mg base (CXF P w) 3 T.d_solved.a T.d_solved.fd ["rows", "right"] (zhK K sZ sB):=by
 refine T.d_solved.F.okN sc_solved (fun vs H Q E h=>?_) (fun cdv A outer s H vs Q E hr h=>?_)
 ·obtain⟨a,b,n,R,rfl,_⟩:=h;rfl
 obtain⟨a,b,n,R,rfl,⟨⟨as,ha,hal,hrow⟩,⟨ws,hb,hside⟩⟩,n1,hz,h1,h2,h3,h4,hdn0,q1⟩:=h
 have hml:(as.map V.ref).length=n:=by rw[yc];exact hal
 have hwl:ws.length=n:=by rw[hside.length,yc,yy]
 refine⟨_,(zh (zp (i:=2) sc_solved.nd rfl (Or.inr rfl) (zN (show CallR _ _ (za7 K)from zZ) rfl T.z_len BT.len (za (pv 0) zf)))
 (zh (zaW (i:=3) sc_solved.nd rfl rfl rfl (zan rfl T.z_range (za (pv 2) zf)) (zF (Ni:=["place", "rows", "right"]) (caps:=[none,some 0,some 1]) (by rfl)) (fun S _ _ _ _ _=>(zJ (gi:=0) S (Or.inl rfl) rfl)) (fun _ _ _ _ _=>zV) (fun _ _ _ _ _=>(zm (zih T) (hr.mono (by decide)) rfl T.d_whole_row.m T.d_whole_row.F.kp T.d_whole_row.b .nil (zy zt) (za (zG (show OpR _ (binaryOp .Add) (zak K)from zT) (zbP (show CallR _ _ (zb7 K)from zcu) rfl T.z_list BT.list (za (zl (show IxR _ (rIx K)from zk) (pv 1) (pv 0) (fun _ _=>rfl)) zf)) (zaC (za (zl (show IxR _ (rIx K)from zk) (pv 2) (pv 0) (fun _ _=>rfl)) zf))) zf))))
 (zh (zp (i:=4) sc_solved.nd rfl (Or.inr rfl) ze)
 (zh (zat PassesOwn.never rfl (zan rfl T.z_range (za (pv 2) zf)) (zM (i:=5) sc_solved.nd rfl (Or.inl rfl))
 (zh (zp (i:=3) sc_solved.nd rfl (Or.inl rfl) (zm (zhW T) (hr.mono (by decide)) rfl T.d_with_first.m T.d_with_first.F.kp T.d_with_first.b .nil (zy zt) (za (pv 3) (za (pv 5) zf))))
 (zh (zp (i:=3) sc_solved.nd rfl (Or.inl rfl) (zm (znz T) (hr.mono (by decide)) rfl T.d_swept.m T.d_swept.F.kp T.d_swept.b .nil (zy zt) (za (pv 3) (za (pv 5) (za (pv 4) zf)))))
 (zj (zp (i:=4) sc_solved.nd rfl (Or.inr rfl) (zl (show IxR _ (rIx K)from zk) (zl (show IxR _ (rIx K)from zk) (pv 3) (pv 5) (fun _ _=>rfl)) (pv 5) (fun _ _=>rfl)))))))
 (zj (zw (zaw rfl (show PI _ _ _ (zaA K _)from z8 (pv 3)) (zF (Ni:=["row", "count", "before"]) (caps:=[none,some 2,some 4]) (by rfl)) (fun S _ _ _ _ _=>(zJ (gi:=0) S (Or.inl rfl) rfl)) (fun _ _ _ _ _=>zV) (fun _ _ _ _ _=>(zm (zo4 T) (hr.mono (by decide)) rfl T.d_part.m T.d_part.F.kp T.d_part.b .nil (zy zt) (za (zl (show IxR _ (rIx K)from zk) (pv 0) (pv 1) (fun _ _=>rfl)) (za (pv 2) zf))))))))))),?_⟩
 refine zI (σ0:=[some (.ref a),some (.ref b),none,none,none,none]) rfl ?_
 walk_at "x"
 refine zR (zbS (lo:=0) (n:=((as.map V.ref).length:Int).toNat)) (fun _ _=>trivial) rfl (fun i vs H'=>∃(bs:List Addr) (F:Nat->Nat->Int) (L:Nat->Int),vs=bs.map V.ref/\bs.length=i/\Rows H' bs (n+1) F/\∀l,l<i->0<L l/\∀j,j<=n->((F l j:Int):Rat)=((L l:Int):Rat)*R l j/\sz (F l j)<=sZ+(n+1)*sB) (fun H' _=>⟨[],fun _ _=>0,fun _=>0,rfl,rfl,⟨yaF,fun _ _ h=>nomatch h⟩,fun l h=>by omega⟩) ?_ ?_
 ·rintro i x D vs o H1 H2 hi hD e1 hv hvl ⟨bs,F,L,rfl,hbl,hR,hF⟩ e2 rfl
  rw[hml]at hi
  have hi':i<n:=by omega
  obtain⟨c,hc⟩:=zC (show i<as.length by omega)
  obtain⟨us,hu1,hu2⟩:=hrow i c hc
  obtain⟨v,hv'⟩:=zC (show i<ws.length by omega)
  obtain⟨g,q,rfl,hq,hg⟩:=hside.get hv'
  have ei:((0:Int)+(i:Int)).toNat=i:=by omega
  have hat1:atI (as.map V.ref) ((0:Int)+(i:Int))=some (.ref c):=zau (by omega) (by rw[ei,yf,hc];rfl)
  have hat2:atI ws ((0:Int)+(i:Int))=some (.ref g):=zau (by omega) (by rw[ei];exact hv')
  have e12:=e1.trans e2
  have ha2:=e12.at ha
  have hb2:=e12.at hb
  have hc2:=e12.at hu1
  walk_at "x"
  rename_i l1 H3 f1 e3 hl1 l2 H4 f2 e4 hl2
  have hul:us.length=n:=by rw[hu2.length,yc,yy]
  have eq:q=R i n:=by
   rw[yf,y4 hi']at hq
   exact(yp hq).symm
  refine zp9 (e4.at hl1) hl2 (by rw[hul];simp only[y9];omega) ?_
  intro p H5 fp e5 hp5
  have e05:Same H H5:=((e12.trans e3).trans e4).trans e5
  have hq5:IsQs H5 (us++[.ref g]) ((List.range (n+1)).map (R i)):=by
   rw[yG,yl,yY,<- eq]
   exact IsQs.app (e05.isQ hg) (hu2.same e05)
  have hql:((List.range (n+1)).map (R i)).length=n+1:=by rw[yc,yy]
  walk_at "x"
  refine zir hp5 hq5 (by rw[hql];omega) (fun r hr=>?_) h2 h3 h1 ?_
  ·obtain⟨j,hj,rfl⟩:=yaa.mp hr
   exact hz i j hi' (by have:=yN.mp hj;omega)
  intro p' H6 f L' fp' e6 L0 hf hp6
  rw[hql]at hp6 hf
  have hv6:H6 D=some (.lst (bs.map V.ref)):=(((e2.trans e3).trans e4).trans (e5.trans e6)).at hv
  have hbl6:(bs.map V.ref).length<=20:=by omega
  walk_at "x"
  rename_i H7 b7 h7
  have e16:Same H1 H6:=((e2.trans e3).trans e4).trans (e5.trans e6)
  have e15:Same H1 H5:=((e2.trans e3).trans e4).trans e5
  have npb:p'∉bs:=(hR.same e15).fresh fp'
  have nDb:D∉bs:=hR.ne (by omega) hv
  have npD:p'≠D:=fun z=>by rw[z,e15.at hv]at fp';cases fp'
  refine⟨⟨_,rfl⟩,b7.same (e1.trans e16) hD,_,h7,by rw[ya];exact ym hvl,bs++[p'],(fun l=>if l=bs.length then f else F l),(fun l=>if l=i then L' else L l),by rw[yl];rfl,by rw[ya,hbl];rfl,Rows.snoc ((hR.same e16).but b7 nDb) npb (b7.lst hp6 npD),fun l hl=>?_⟩
  rw[hbl]
  dsimp only
  by_cases e:l=i
  ·subst e
   rw[if_pos rfl,if_pos rfl]
   refine⟨L0,fun j hj=>hf j _ ?_⟩
   rw[yf,y4 (by omega)];rfl
  ·rw[if_neg e,if_neg e];exact hF l (by omega)
 ·rintro t H1 vs ft e1 ht hvl ⟨bs,F,L,rfl,hbl,hR,hF⟩
  have hcn:((as.map V.ref).length:Int).toNat=n:=by omega
  rw[hcn]at hbl hF
  obtain⟨z,ez⟩:∃z,z=sZ+(n+1)*sB:=⟨_,rfl⟩
  rw[<- ez]at hF h4
  have hFR:∀l,l<n->((L l:Int):Rat)≠0:=fun l hl w=>by
   have:L l=0:=by exact_mod_cast w
   have:=(hF l hl).1
   omega
  have hdet:Dt.det n (Dt.cl R)=0↔Dt.det n (Dt.cl (Dt.castM F))=0:=by
   rw[Dt.det_scale hFR]
   have:Dt.det n (Dt.cl (fun l j=>((L l:Int):Rat)*R l j))=Dt.det n (Dt.cl (Dt.castM F)):=Dt.det_congr fun j r hj hr=>(((hF r hr).2 j (by omega)).1).symm
   rw[this]
  have hmeet:∀x:Nat->Rat,(∀l,l<n->Dt.sm n (fun m=>Dt.castM F l m*x m)=Dt.castM F l n)->∀l,l<n->Dt.sm n (fun m=>R l m*x m)=R l n:=fun x hx=>by
   rw[Dt.meets_scale hFR]
   intro l hl
   have h0:=hx l hl
   have e1:Dt.castM F l n=((L l:Int):Rat)*R l n:=((hF l hl).2 n (by omega)).1
   rw[e1]at h0
   rw[<- h0]
   refine Dt.sm_congr fun m hm=>?_
   rw[show Dt.castM F l m=((L l:Int):Rat)*R l m from((hF l hl).2 m (by omega)).1]
  walk_at "x"
  refine zc0 (fun k σ' H'=>∃(f5:Option V) (t':Addr) (bs':List Addr) (B M:Nat->Nat->Int) (d:Int),σ'=[some (.ref a),some (.ref b),some (.int ((as.map V.ref).length:Int)),some (.ref t'),some (.int d),f5]/\Same H H'/\H t'=none/\H' t'=some (.lst (bs'.map V.ref))/\bs'.length=n/\Rows H' bs' (n+1) M/\Dt.Bar n k (Dt.castM B) (Dt.castM M) ((d:Int):Rat)/\Dt.Eqv n (Dt.castM F) (Dt.castM B)/\∀l j,l<n->j<=n->sz (B l j)<=z) ⟨_,t,bs,F,F,1,rfl,e1,ft,ht,hbl,hR,Dt.bar_start,Dt.Eqv.refl _ _,fun l j hl hj=>((hF l hl).2 j hj).2⟩ ?_ ?_
  ·rintro k σ' H2 hk ⟨f5,t',bs',B,M,d,rfl,e2,ft',ht',hbl',hR',hbar,heq,hsz⟩
   rw[hcn]at hk
   have ek:((0:Int)+(k:Int)).toNat=k:=by omega
   have big:∀(B' M':Nat->Nat->Int) (d':Int) (k':Nat),Dt.Bar n k' (Dt.castM B') (Dt.castM M') ((d':Int):Rat)->k'<=n->(∀l j,l<n->j<=n->sz (B' l j)<=z)->∀i j,i<n->j<=n->sz (M' i j)<=9000:=fun B' M' d' k' hb hk' hs i j hi hj=>by
    have:=zlb (x:=M' i j) (hb.sz hk' (by omega) (fun l m hl hm=>zkB (hs l m hl hm)) hi hj)
    omega
   walk_at "x"
   have hne0:∃i,((0:Int)+(k:Int)).toNat<=i/\i<bs'.length/\M i ((0:Int)+(k:Int)).toNat≠0:=by
    rw[ek,hbl']
    refine yaE fun z=>hdn0 (hdet.mpr (heq.dt.mpr (hbar.stuck hk fun i h1 h2=>?_)))
    show((M i k:Int):Rat)=0
    have:M i k=0:=yaE fun y=>z ⟨i,h1,h2,y⟩
    rw[this];rfl
   refine zg8 ht' hR' (by omega) (by omega) (by omega) (by omega) hne0 ?_
   intro p1 H3 as1 i1 hi1 hi2 hne fp1 e3 hp1 hal1 hm1 hR1
   rw[ek]at hi1 hne hR1
   rw[hbl']at hi2 hal1
   have hbar1:Dt.Bar n k (Dt.castM (Dt.swp B k i1)) (Dt.castM (Dt.swp M k i1)) ((d:Int):Rat):=by
    have:=hbar.swap (p:=k) (q:=i1) (ye _) hi1 hk hi2
    have c1:∀N:Nat->Nat->Int,Dt.castM (Dt.swp N k i1)=Dt.swp (Dt.castM N) k i1:=fun N=>by
     funext u v
     unfold Dt.castM Dt.swp
     split
     ·rfl
     ·split<;>rfl
    rw[c1,c1];exact this
   have heq1:Dt.Eqv n (Dt.castM F) (Dt.castM (Dt.swp B k i1)):=by
    have c1:Dt.castM (Dt.swp B k i1)=Dt.swp (Dt.castM B) k i1:=by
     funext u v
     unfold Dt.castM Dt.swp
     split
     ·rfl
     ·split<;>rfl
    rw[c1];exact heq.trans (Dt.Eqv.swap hk hi2 _)
   have hsz1:∀l j,l<n->j<=n->sz (Dt.swp B k i1 l j)<=z:=fun l j hl hj=>by
    obtain⟨l',hl',e⟩:=Dt.swp_at hk hi2 B l hl
    rw[e];exact hsz l' j hl' hj
   have hM1:=big _ _ _ k hbar1 (by omega) hsz1
   have hp:Dt.swp M k i1 k k≠0:=by
    unfold Dt.swp
    rw[if_pos rfl];exact hne
   have hdn:d≠0:=fun w=>hbar.d0 (by rw[w];rfl)
   have hdd:sz d<=9000:=by
    rcases yaO k with h0 | h0
    ·have h1:((d:Int):Rat)=1:=by rw[hbar.dd,h0];rfl
     have:d=1:=by exact_mod_cast h1
     rw[this];exact szL (by decide) (by decide) (by decide)
    ·have h1:=hbar.id1 0 0 h0 h0
     rw[if_pos rfl]at h1
     have:M 0 0=d:=by exact_mod_cast (show((M 0 0:Int):Rat)=((d:Int):Rat)from h1)
     rw[<- this];exact big _ _ _ k hbar (by omega) hsz 0 0 (by omega) (by omega)
   have st:=hbar1.stepI hk hp
   walk_at "x"
   refine zlu hp1 hR1 (by omega) (by omega) (by omega) (by omega) (by omega) hdn hdd (fun i j hi hj=>hM1 i j (by omega) (by omega)) ?_
   intro p2 H4 as2 fp2 e4 hp2 hal2 hR2
   rw[ek]at hR2
   obtain⟨c2,hc2⟩:=zC (show k<as2.length by omega)
   have hat:atI (as2.map V.ref) ((0:Int)+(k:Int))=some (.ref c2):=zau (by omega) (by rw[ek,yf,hc2];rfl)
   have hr2:=hR2.2 _ _ hc2
   have e04:Same H H4:=(e2.trans e3).trans e4
   walk_at "x"
   refine⟨_,p2,as2,Dt.swp B k i1,Dt.nxtI (Dt.swp M k i1) k d,_,rfl,e04,Same.none fp2 (e2.trans e3),hp2,by omega,hR2,?_,heq1,hsz1⟩
   have:Dt.nxtI (Dt.swp M k i1) k d k ((0:Int)+(k:Int)).toNat=Dt.swp M k i1 k k:=by
    rw[ek];unfold Dt.nxtI;rw[if_pos rfl]
   rw[this]
   exact st.1
  ·rintro σ' H2 ⟨f5,t',bs',B,M,d,rfl,e2,ft',ht',hbl',hR',hbar,heq,hsz⟩
   rw[hcn]at hbar
   have hdn:d≠0:=fun w=>hbar.d0 (by rw[w];rfl)
   have hdd:sz d<=8999:=by
    rcases yaO n with n0 | n0
    ·have h1:((d:Int):Rat)=1:=by rw[hbar.dd,n0];rfl
     have:d=1:=by exact_mod_cast h1
     rw[this];exact szL (by decide) (by decide) (by decide)
    have h1:=hbar.id1 0 0 n0 n0
    rw[if_pos rfl]at h1
    have:M 0 0=d:=by exact_mod_cast (show((M 0 0:Int):Rat)=((d:Int):Rat)from h1)
    rw[<- this]
    have:=zlb (x:=M 0 0) (hbar.sz (ye _) (by omega) (fun l m hl hm=>zkB (hsz l m hl hm)) n0 (yD _))
    omega
   have hdne:Dt.det n (Dt.cl R)≠0:=fun w=>hbar.d0 (by rw[hbar.dd];exact heq.dt.mp (hdet.mp w))
   have hat0:=heq.an (fun m=>Dt.castM M m n/((d:Int):Rat))
   have hans:=hmeet _ (hat0.mpr fun l hl=>hbar.meets hl)
   walk_at "x"
   refine zR (zaq (K:=K) (a:=t') (xs:=bs'.map V.ref)) (fun H' e=>SqL.of (e.at ht')) rfl (fun i vs H'=>IsQs H' vs ((List.range i).map fun m=>Dt.castM M m n/((d:Int):Rat))) (fun H' _=>trivial) ?_ ?_
   ·rintro i x D vs o H3 H4 hi hD e3 hv hvl hI e4 hx
    rw[yc]at hi
    obtain⟨c,hc⟩:=zC hi
    have ev:x=.ref c:=by rw[yf,hc]at hx;exact(yp hx).symm
    subst ev
    have hr:=(e3.trans e4).at (hR'.2 _ _ hc)
    walk_at "x"
    rename_i p H5 e5 hq H6 b6 h6
    rw[hcn]at hq
    refine⟨⟨_,rfl⟩,by walk_at "h",_,h6,by rw[ya];exact ym hvl,?_⟩
    show IsQs H6 _ ((List.range (i+1)).map _)
    rw[yG,yl,yY]
    refine IsQs.app ?_ (LBut.isQs b6 (hI.same (e4.trans e5)))
    have:Dt.castM M i n/((d:Int):Rat)=Rat.divInt (M i n) d:=by rw[yaV];rfl
    rw[this]
    exact LBut.isQ b6 hq
   ·rintro D H3 vs hD e3 hv hvl hI
    rw[yc,hbl']at hI
    refine q1 D H3 vs _ (Same.none hD e2) (e2.trans e3) hv hI hans fun m hm=>?_
    have n0:0<n:=by omega
    show SzQ (((M m n:Int):Rat)/((d:Int):Rat)) _ _
    rw[<- yaV,<- ez]
    have sM:∀i j,i<n->j<=n->sz (M i j)<=n*(z+4)+1:=fun i j hi hj=>zlb (x:=M i j) (hbar.sz (ye _) (by omega) (fun l m hl hm=>zkB (hsz l m hl hm)) hi hj)
    have h1:=hbar.id1 0 0 n0 n0
    rw[if_pos rfl]at h1
    have hM0:M 0 0=d:=by exact_mod_cast (show((M 0 0:Int):Rat)=((d:Int):Rat)from h1)
    exact zjq hdn (sM m n hm (ye _)) (hM0▸sM 0 0 n0 (yD _))
theorem zhm(T:Txt K mg):FnOk P w K mg base (CXF P w) 1 T.d_ranked.a T.d_ranked.fd ["many", "sheet"] (zfL K):=by
 refine T.d_ranked.F.okN sc_ranked (fun vs H Q E h=>?_) (fun cdv A outer s H vs Q E hr h=>?_)
 ·obtain⟨n,a,ds,rfl,_⟩:=h;rfl
 obtain⟨n,a,ds,rfl,⟨xs,hS,hT⟩,n0,n1,hd,k⟩:=h
 refine⟨_,(zh (zaW (i:=2) sc_ranked.nd rfl rfl rfl (zan rfl T.z_range (za (pv 0) zf)) (zF (Ni:=["member"]) (caps:=[none]) (by rfl)) (fun S _ _ _ _ _=>(zJ (gi:=0) S (Or.inl rfl) rfl)) (fun _ _ _ _ _=>zV) (fun _ _ _ _ _=>(zaC (za ze (za ze (za ze zf))))))
 (zh (zat PassesOwn.never rfl (show PI _ _ _ (zaA K _)from z8 (pv 1)) (show PG _ _ (zbr K 4 _)from zaL (n:=4) rfl (zK (zM (i:=3) sc_ranked.nd rfl (Or.inl rfl)) (zK (zM (i:=4) sc_ranked.nd rfl (Or.inl rfl)) (zK (zM (i:=5) sc_ranked.nd rfl (Or.inl rfl)) (zK (zM (i:=6) sc_ranked.nd rfl (Or.inl rfl)) zav)))))
 (zj (zhc (zl (show IxR _ (rIx K)from zk) (pv 2) (pv 3) (fun _ _=>rfl)) (pv 5) (show zjn _ (zet K)from zfk) (pv 6) zgA zaU)))
 (zj (zw (pv 2))))),?_⟩
 refine zI (σ0:=[some (.int n),some (.ref a),none,none,none,none,none]) rfl ?_
 walk_at "x"
 refine zR zbS (fun _ _=>trivial) rfl (fun i vs H'=>∃as,vs=as.map V.ref/\as.length=i/\Rows H' as 3 (fun _ _=>0)/\∀b∈as,H b=none) (fun H' _=>⟨[],rfl,rfl,⟨yaF,fun i a h=>nomatch h⟩,fun _ h=>nomatch h⟩) ?_ ?_
 ·rintro i x D vs o H2 H3 hi hD e2 hv hvl ⟨as,rfl,hal,hR,hF⟩ e3 rfl
  walk_at "x"
  rename_i p H4 fp e4 hp H5 b5 h5
  have hD':D∉as:=hR.ne (by decide) hv
  have hpD:p≠D:=zem fp (e3.at hv)
  have hp':H5 p=some (.lst ((vec 3 fun _=>0).map V.int)):=b5.lst hp hpD
  refine⟨⟨_,rfl⟩,by walk_at "h",_,h5,by rw[ya];exact ym hvl,as++[p],by rw[yl];rfl,by rw[ya,hal];rfl,Rows.app ((hR.same (e3.trans e4)).but b5 hD') ((hR.same e3).fresh fp) hp',fun b hb=>?_⟩
  rcases yT.mp hb with h | h
  ·exact hF b h
  ·rw[yv.mp h];exact Same.none fp (e2.trans e3)
 ·rintro l H2 vs fl e2 hl hvl ⟨as,rfl,hal,hR,hF⟩
  walk_at "x"
  have hla:l∉as:=hR.ne (by decide) hl
  refine zdV (xs:=xs) (fun i σ' H'=>∃f3 f4 f5 f6,σ'=[some (.int n),some (.ref a),some (.ref l),f3,f4,f5,f6]/\H' l=some (.lst (as.map V.ref))/\Rows H' as 3 (zH (ds.take i))/\Same H H') ?_ ?_ ?_ ?_
  ·exact⟨_,_,_,_,rfl,hl,hR,e2⟩
  ·rintro i σ' H' _ ⟨_,_,_,_,_,_,_,e⟩;exact e.seq hS
  ·rintro i x σ' H3 hx ⟨f3,f4,f5,f6,rfl,hl3,hR3,e3⟩
   obtain⟨b,d,rfl,hdi,hb⟩:=(hT.same e3).get hx
   have hb':H3 b=some (.tup [.int d.p,.int d.q,.int d.r,.int d.a]):=hb
   obtain⟨p0,p1,q0,q1,pq,r0,r1,a0,a1⟩:=hd d (yb hdi)
   obtain⟨c,hc⟩:=zC (show d.p.toNat<as.length by omega)
   have hrow:=hR3.2 _ _ hc
   have hcm:=yb hc
   have hlc:l≠c:=fun z=>hla (z▸hcm)
   have fc:=hF c hcm
   walk_at "x"
   rename_i H4 b4 h4
   refine⟨_,_,_,_,rfl,b4.lst hl3 hlc,(hR3.set b4 hc h4).congr fun m hm r hr=>?_,by walk_at "h"⟩
   rw[zam hdi]
   exact zhq p0 r0 m r
  ·rintro σ' H3 ⟨f3,f4,f5,f6,rfl,hl3,hR3,e3⟩
   rw[hT.length,yF]at hR3
   walk_at "x"
   exact k _ _ _ fl e3 hl3 (by omega) hR3 hF
theorem zgz(T:Txt K mg):FnOk P w K mg base (CXF P w) 2 T.d_stop_of.a T.d_stop_of.fd ["owed", "lay"] (zf5 K):=by
 refine T.d_stop_of.F.okN sc_stop_of (fun vs H Q E h=>?_) (fun cdv A outer s H vs Q E hr h=>?_)
 ·obtain⟨l,y,f,q,rfl,_⟩:=h;rfl
 obtain⟨l,y,f,q,rfl,hl,hf,hy,hs,k⟩:=h
 refine⟨_,(zh (zp (i:=2) sc_stop_of.nd rfl (Or.inl rfl) ze)
 (zh (zat PassesOwn.never rfl (show PI _ _ _ (zcd K _)from zbc rfl T.z_enumerate (za (pv 0) zf)) (show PG _ _ (zbr K 2 _)from zaL (n:=2) rfl (zK (zM (i:=3) sc_stop_of.nd rfl (Or.inl rfl)) (zK (zM (i:=4) sc_stop_of.nd rfl (Or.inl rfl)) zav)))
 (zh (zlG (i:=2) sc_stop_of.nd rfl (Or.inl rfl) (pv 4) zgA)
 (zj (zO (show PT _ _ (zb0 K _)from zac (zm (ziA T) (hr.mono (by decide)) rfl T.d_under.m T.d_under.F.kp T.d_under.b .nil (zy zt) (za (pv 1) (za (zah (za (pv 2) (za ze zf))) zf))) (fun _=>rfl))
 (zj (zw (pv 3)))
 zL))))
 (zj (zw zaZ)))),?_⟩
 refine zI (σ0:=[some (.ref l),some (.ref y),none,none,none]) rfl ?_
 walk_at "x"
 refine zdQ (zaV (K:=K) (a:=l) (xs:=(vec 3 f).map V.int)) (fun i σ' H'=>∃f3 f4:Option V,σ'=[some (.ref l),some (.ref y),some (.int (zbF f i)),f3,f4]/\zae f q i=none/\Same H H') ⟨_,_,rfl,rfl,Same.refl _⟩ ?_ ?_ ?_
 ·rintro i σ' H' ⟨_,_,_,_,e⟩;exact SqL.of (e.at hl)
 ·rintro i x σ' H1 H2 hi ⟨f3,f4,rfl,hno,e1⟩ e2 ⟨t,v,rfl,hx,ht⟩
  rw[yc,zaa]at hi
  rw[yf,zay hi]at hx
  cases hx
  have ht':H2 t=some (.tup [.int (i:Int),.int (f i)]):=ht
  have hc:=zfn hf (i+1) (by omega)
  have hs2:SzQ ((zbF f (i+1):Int):Rat) 60000 60000:=zoB (by omega) (by omega)
  walk_at "x"
  refine zdo (by first | decide | simp) fun tp H3 ftp e3 htp=>?_
  have hq2:IsQ H3 tp ((zbF f (i+1):Int):Rat):=htp
  have e13:Same H H3:=e1.trans (e2.trans e3)
  have hy3:IsQ H3 y q:=e13.at hy
  refine zdl ?_
  refine zhM hy3 hq2 hs hs2 ?_
  have est:zae f q (i+1)=if zaG f q i then some i else none:=by show(match zae f q i with | some r=>some r | none=>_)=_;rw[hno]
  by_cases hu:zaG f q i
  ·rw[decide_eq_true (under_int.mpr hu)]
   rw[if_pos hu]at est
   have h3:=zgh est (3-(i+1))
   rw[show i+1+(3-(i+1))=3 by omega]at h3
   rw[h3]at k
   walk_at "x"
   exact k _ e13
  ·rw[decide_eq_false fun z=>hu (under_int.mp z)]
   rw[if_neg hu]at est
   walk_at "x"
   exact⟨_,_,rfl,est,e13⟩
 ·rintro σ' H1 ⟨f3,f4,rfl,hno,e1⟩
  rw[yc,zaa]at hno
  rw[hno]at k
  walk_at "x"
  exact k _ e1
theorem zjV(T:Txt K mg):FnOk P w K mg base (CXF P w) 1 T.d_flows_of.a T.d_flows_of.fd ["sheet", "ranks"] (zgZ K):=by
 refine T.d_flows_of.F.okN sc_flows_of (fun vs H Q E h=>?_) (fun cdv A outer s H vs Q E hr h=>?_)
 ·obtain⟨a,b,ds,n,ρ,rfl,_⟩:=h;rfl
 obtain⟨a,b,ds,n,ρ,rfl,⟨xs,hS,hT⟩,hb,n1,hd,k⟩:=h
 have hol:(zP n ρ).length=n:=zbq
 refine⟨_,(zh (zaW (i:=2) sc_flows_of.nd rfl rfl rfl (show PI _ _ _ (zaA K _)from z8 (pv 1)) (zF (Ni:=["rank", "ranks"]) (caps:=[none,some 1]) (by rfl)) (fun S _ _ _ _ _=>(zJ (gi:=0) S (Or.inl rfl) rfl)) (fun _ _ _ _ _=>zV) (fun _ _ _ _ _=>(zG z9 (zaC (za ze zf)) (zN (show CallR _ _ (za7 K)from zZ) rfl T.z_len BT.len (za (pv 1) zf)))))
 (zh (zat PassesOwn.never rfl (show PI _ _ _ (zaA K _)from z8 (pv 0)) (show PG _ _ (zbr K 4 _)from zaL (n:=4) rfl (zK (zM (i:=3) sc_flows_of.nd rfl (Or.inl rfl)) (zK (zM (i:=4) sc_flows_of.nd rfl (Or.inl rfl)) (zK (zM (i:=5) sc_flows_of.nd rfl (Or.inl rfl)) (zK (zM (i:=6) sc_flows_of.nd rfl (Or.inl rfl)) zav)))))
 (zj (zO (zB (show OpR _ (compareOp .Eq) (zaE K)from zar hr.units) (pv 5) (zl (show IxR _ (rIx K)from zk) (pv 1) (pv 3) (fun _ _=>rfl)) (nomark _))
 (zj (zhc (zl (show IxR _ (rIx K)from zk) (pv 2) (pv 3) (fun _ _=>rfl)) (pv 4) (show zjn _ (zet K)from zfk) (pv 6) zgA zaU))
 zL)))
 (zj (zw (pv 2))))),?_⟩
 refine zI (σ0:=[some (.ref a),some (.ref b),none,none,none,none,none]) rfl ?_
 walk_at "x"
 refine zR (zaq (K:=K) (a:=b) (xs:=zP n ρ)) (fun H' e=>SqL.of (e.at hb)) rfl (fun i vs H'=>∃as,vs=as.map V.ref/\as.length=i/\Rows H' as n (fun _ _=>0)/\∀b∈as,H b=none) (fun H' _=>⟨[],rfl,rfl,⟨yaF,fun i a h=>nomatch h⟩,fun _ h=>nomatch h⟩) ?_ ?_
 ·rintro i x D vs o H2 H3 hi hD e2 hv hvl ⟨as,rfl,hal,hR,hF⟩ e3 hx
  have hb3:=(e2.trans e3).at hb
  walk_at "x"
  rename_i z1 H31 fz1 ez1 hz1 p H4 fp e4' hp0 H5 b5 h5
  have e4:Same H3 H4:=ez1.trans e4'
  rw[yw,hol]at hp0
  have fp3:H3 p=none:=Same.none fp ez1
  have hpD:p≠D:=zem fp3 (e3.at hv)
  have hp':H5 p=some (.lst ((vec n fun _=>0).map V.int)):=b5.lst hp0 hpD
  have hD':D∉as:=fun z=>by
   obtain⟨m,hm,hm1,hm2⟩:=hR.mem z
   rw[hv]at hm2
   have hn:n≠0:=by omega
   cases as with
   | nil=>cases z
   | cons z0 zs=>
    obtain⟨n',rfl⟩:∃n',n=n'+1:=⟨n-1,by omega⟩
    unfold vec at hm2
    rw[ybe]at hm2
    cases hm2
  refine⟨⟨_,rfl⟩,by walk_at "h",_,h5,by rw[ya];exact ym hvl,as++[p],by rw[yl];rfl,by rw[ya,hal];rfl,Rows.app ((hR.same (e3.trans e4)).but b5 hD') ((hR.same e3).fresh fp3) hp',fun b hb=>?_⟩
  rcases yT.mp hb with h | h
  ·exact hF b h
  ·rw[yv.mp h];exact Same.none fp3 (e2.trans e3)
 ·rintro l H2 vs fl e2 hl hvl ⟨as,rfl,hal,hR,hF⟩
  rw[hol]at hal
  walk_at "x"
  have hla:l∉as:=fun z=>by
   obtain⟨m,hm,hm1,hm2⟩:=hR.mem z
   rw[hl]at hm2
   cases as with
   | nil=>cases z
   | cons z0 zs=>
    obtain⟨n',rfl⟩:∃n',n=n'+1:=⟨n-1,by simp only[yax]at hal;omega⟩
    unfold vec at hm2
    rw[ybe]at hm2
    cases hm2
  refine zdV (xs:=xs) (fun i σ' H'=>∃f3 f4 f5 f6,σ'=[some (.ref a),some (.ref b),some (.ref l),f3,f4,f5,f6]/\H' l=some (.lst (as.map V.ref))/\Rows H' as n (zap ρ (ds.take i))/\Same H H') ?_ ?_ ?_ ?_
  ·exact⟨_,_,_,_,rfl,hl,hR,e2⟩
  ·rintro i σ' H' _ ⟨_,_,_,_,_,_,_,e⟩;exact e.seq hS
  ·rintro i x σ' H3 hx ⟨f3,f4,f5,f6,rfl,hl3,hR3,e3⟩
   obtain⟨b',d,rfl,hdi,hb'⟩:=(hT.same e3).get hx
   have hb2:H3 b'=some (.tup [.int d.p,.int d.q,.int d.r,.int d.a]):=hb'
   obtain⟨p0,p1,q0,q1,pq,r0,r1,a0,a1⟩:=hd d (yb hdi)
   obtain⟨c,hc⟩:=zC (show d.p.toNat<as.length by omega)
   have hrow:=hR3.2 _ _ hc
   have hcm:=yb hc
   have hlc:l≠c:=fun z=>hla (z▸hcm)
   have fc:=hF c hcm
   have hb3:=e3.at hb
   have hat:atI (zP n ρ) d.p=some (zaX (ρ d.p.toNat)):=zau (by omega) (zas (by omega))
   walk_at "x"
   refine zpi r0 ?_
   walk_at "x"
   ·rename_i hρ H4 b4 h4
    refine⟨_,_,_,_,rfl,b4.lst hl3 hlc,(hR3.set b4 hc h4).congr fun m hm j hj=>?_,by walk_at "h"⟩
    rw[zam hdi,zbs]
    by_cases e1:m=d.p.toNat
    ·rw[if_pos e1]
     by_cases e2:j=d.q.toNat
     ·rw[if_pos e2,if_pos ⟨by omega,by omega,by rw[e1];exact hρ⟩,e1,e2]
     ·rw[if_neg e2,if_neg (fun z=>e2 (by omega)),e1];omega
    ·rw[if_neg e1,if_neg (fun z=>e1 (by omega))];omega
   ·rename_i hρ
    refine⟨_,_,_,_,rfl,hl3,hR3.congr fun m hm j hj=>?_,e3⟩
    rw[zam hdi,zbs,if_neg (fun z=>hρ (by rw[show d.p.toNat=m by omega];exact z.2.2))];omega
  ·rintro σ' H3 ⟨f3,f4,f5,f6,rfl,hl3,hR3,e3⟩
   rw[hT.length,yF]at hR3
   walk_at "x"
   exact k _ _ _ fl e3 hl3 hal hR3 hF
theorem zjM(T:Txt K mg):FnOk P w K mg base (CXF P w) 1 T.d_reach_of.a T.d_reach_of.fd ["flows", "member"] (zg3 K):=by
 refine T.d_reach_of.F.okN sc_reach_of (fun vs H Q E h=>?_) (fun cdv A outer s H vs Q E hr h=>?_)
 ·obtain⟨a,i,n,as,F,rfl,_⟩:=h;rfl
 obtain⟨a,i,n,as,F,rfl,ha,hal,hR,h9,hi,k⟩:=h
 refine⟨_,(zh (zp (i:=2) sc_reach_of.nd rfl (Or.inr rfl) (zaC (za (pv 1) zf)))
 (zh (zp (i:=3) sc_reach_of.nd rfl (Or.inl rfl) ze)
 (zh (zde PassesOwn.never (zB zcp (pv 3) (zN (show CallR _ _ (za7 K)from zZ) rfl T.z_len BT.len (za (pv 2) zf)) (nomark _))
 (zh (zp (i:=4) sc_reach_of.nd rfl (Or.inl rfl) (zl (show IxR _ (rIx K)from zk) (pv 0) (zl (show IxR _ (rIx K)from zk) (pv 2) (pv 3) (fun _ _=>rfl)) (fun _ _=>rfl)))
 (zh (zcN (show PE _ _ (tBM K _ _ _ _)from zdH yV PySem.F.slot_list_extend PySem.F.type_list_extend zlQ (pv 2) (za (zaw rfl (show PI _ _ _ (zcd K _)from zbc rfl T.z_enumerate (za (pv 4) zf)) (zF (Ni:=["other", "flow", "reached"]) (caps:=[none,none,some 2]) (by rfl)) (fun S _ _ _ _ _=>(show PG _ _ (zbr K 2 _)from zaL (n:=2) rfl (zK (zJ (gi:=0) S (Or.inl rfl) rfl) (zK (zJ (gi:=1) S (Or.inl rfl) rfl) zav)))) (fun _ _ _ _ _=>(zgm (PW.pt (zbO (zB zdF (pv 1) ze (nomark _)) (zbL (zB (show OpR _ (compareOp .NotIn) (rIn K true)from ze0) (pv 0) (pv 2) (by with_unfolding_all rfl))))))) (fun _ _ _ _ _=>(pv 0))) zf)))
 (zj (zlG (i:=3) sc_reach_of.nd rfl (Or.inl rfl) ze zgA)))))
 (zj (zw (pv 2)))))),?_⟩
 refine zI (σ0:=[some (.ref a),some (.int (i:Int)),none,none,none]) rfl ?_
 walk_at "x"
 rename_i p H1 fp e1 hp
 generalize hg:(fun i j=>decide (0<F i j))=g at k
 have hgg:∀i j,g i j=decide (0<F i j):=fun i j=>by rw[<- hg]
 refine⟨fun m σ H'=>∃(t:Nat) (f4:Option V),σ=[some (.ref a),some (.int (i:Int)),some (.ref p),some (.int (t:Int)),f4]/\t<=(Rc.seqL n g i t).length/\H' p=some (.lst (zax (Rc.seqL n g i t)))/\Same H H'/\m=n-t,⟨_,0,_,rfl,yD _,hp,e1,rfl⟩,?_⟩
 rintro m σ H2 ⟨t,f4,rfl,ht,hp2,e2,rfl⟩
 have hsl:=zX (l:=Rc.seqL n g i t)
 have hsn:=Rc.seq_len (g:=g) hi t
 walk_at "x"
 ·rename_i hlt
  have hlt':t<(Rc.seqL n g i t).length:=by omega
  refine⟨fun σ' H'=>∃f4:Option V,σ'=[some (.ref a),some (.int (i:Int)),some (.ref p),some (.int ((t+1:Nat):Int)),f4]/\H' p=some (.lst (zax (Rc.seqL n g i (t+1))))/\Same H H',?_,?_⟩
  ·rintro σ' H' ⟨f5,rfl,hp3,e3⟩
   refine⟨n-(t+1),by omega,t+1,f5,rfl,?_,hp3,e3,rfl⟩
   rw[Rc.seq_succ hlt',ya];omega
  ·generalize hs:Rc.seqL n g i t=sl at *
   have hxn:sl.getD t 0<n:=zbK hlt' (by rw[<- hs];exact fun x hx=>Rc.seq_lt hi t x hx)
   obtain⟨c,hc⟩:=zC (show sl.getD t 0<as.length by omega)
   have hat:atI (zax sl) (t:Int)=some (.int ((sl.getD t 0:Nat):Int)):=zU (zcf hlt')
   have hat2:atI (as.map V.ref) ((sl.getD t 0:Nat):Int)=some (.ref c):=zU (by rw[yf,hc];rfl)
   have ha2:=e2.at ha
   have hc2:=(hR.same e2).2 _ _ hc
   walk_at "x"
   refine zbC (zaV (K:=K) (a:=c) (xs:=(vec n (F (sl.getD t 0))).map V.int)) (fun H' e=>SqL.of (e.at hc2)) rfl (fun j vs _=>vs=zax ((List.range j).filter fun k=>g (sl.getD t 0) k&&!decide (k∈sl))) (fun H' _=>rfl) ?_ ?_
   ·rintro j x D vs o o' H3 H4 hj hD e3 hv hvl rfl e4 ⟨tt,v,rfl,hx,htt⟩
    rw[yc,zaa]at hj
    rw[yf,zay hj]at hx
    cases hx
    have ht':H4 tt=some (.tup [.int (j:Int),.int (F (sl.getD t 0) j)]):=htt
    have hp4:=(e3.trans e4).at hp2
    walk_at "x"
    ·rename_i h1 h2 H5 b5 h5
     refine⟨⟨_,_,rfl⟩,by walk_at "h",_,h5,by rw[ya];exact ym hvl,?_⟩
     dsimp only
     rw[zdY,if_pos (by rw[hgg,decide_eq_true h1,decide_eq_false (fun z=>h2 (intsN_mem.mpr z))];rfl),zfc];rfl
    ·rename_i h1 h2
     refine⟨⟨_,_,rfl⟩,by walk_at "h",_,by walk_at "h",ybd hvl,?_⟩
     dsimp only
     rw[zdY,if_neg (by rw[decide_eq_true (intsN_mem.mp h2)];simp),yan]
    ·rename_i h1
     refine⟨⟨_,_,rfl⟩,by walk_at "h",_,by walk_at "h",ybd hvl,?_⟩
     dsimp only
     rw[zdY,if_neg (by rw[hgg,decide_eq_false h1];simp),yan]
   ·rintro D H3 vs hD e3 hv hvl rfl
    rw[yc,zaa]at hv
    have hp3:=e3.at hp2
    have hfl:=ybh (fun k=>g (sl.getD t 0) k&&!decide (k∈sl)) (List.range n)
    rw[yy]at hfl
    have hnl:=zX (l:=(List.range n).filter fun k=>g (sl.getD t 0) k&&!decide (k∈sl))
    walk_at "x"
    refine zpS hp3 hv (by omega) fun H4 b4 h4=>?_
    walk_at "x"
    refine⟨_,rfl,?_,by walk_at "h"⟩
    rw[Rc.seq_succ (by rw[hs];exact hlt'),hs,zfc];exact h4
 ·rename_i hlt
  have:=Rc.seq_end (g:=g) hi ht (by omega)
  rw[this]at hp2
  walk_at "x"
  exact k p _ fp e2 hp2
theorem zf7(T:Txt K mg):FnOk P w K mg base (CXF P w) 2 T.d_closed_circle.a T.d_closed_circle.fd ["flows", "ranks"] (zfX K):=by
 refine T.d_closed_circle.F.okN sc_closed_circle (fun vs H Q E h=>?_) (fun cdv A outer s H vs Q E hr h=>?_)
 ·obtain⟨a,b,n,as,F,ρ,rfl,_⟩:=h;rfl
 obtain⟨a,b,n,as,F,ρ,rfl,ha,hal,hR,hb,h9,k⟩:=h
 have hol:(zP n ρ).length=n:=zbq
 refine⟨_,(zh (zp (i:=2) sc_closed_circle.nd rfl (Or.inl rfl) (zaC zf))
 (zh (zat PassesOwn.never rfl (zan rfl T.z_range (za (zN (show CallR _ _ (za7 K)from zZ) rfl T.z_len BT.len (za (pv 1) zf)) zf)) (zM (i:=3) sc_closed_circle.nd rfl (Or.inl rfl))
 (zh (zp (i:=4) sc_closed_circle.nd rfl (Or.inl rfl) (zm (zjM T) (hr.mono (by decide)) rfl T.d_reach_of.m T.d_reach_of.F.kp T.d_reach_of.b .nil (zy zt) (za (pv 0) (za (pv 3) zf))))
 (zj (zO (show PT _ _ (zb0 K _)from zac (zN (show CallR _ _ (zh6 K)from zmj rfl) rfl T.z_all BT.all (za (zaw rfl (show PI _ _ _ (zaA K _)from z8 (pv 4)) (zF (Ni:=["other", "ranks"]) (caps:=[none,some 1]) (by rfl)) (fun S _ _ _ _ _=>(zJ (gi:=0) S (Or.inl rfl) rfl)) (fun _ _ _ _ _=>zV) (fun _ _ _ _ _=>(zc9 zdJ (zl (show IxR _ (rIx K)from zk) (pv 1) (pv 0) (fun _ _=>rfl)) zaZ (nomark _)))) zf)) (fun _=>rfl))
 (zj (zcN (show PE _ _ (tBM K _ _ _ _)from zdH yV yab yac zbT (pv 2) (za (pv 4) zf))))
 zL))))
 (zj (zw (show PE _ _ (zkp K _)from zms rfl (by rfl) T.z_min BT.min (by rfl) T.z_len BT.len (za (pv 2) zf)))))),?_⟩
 refine zI (σ0:=[some (.ref a),some (.ref b),none,none,none]) rfl ?_
 walk_at "x"
 rename_i cs H1 fcs e1 hcs
 generalize hg:(fun i j=>decide (0<F i j))=g at k
 have hgg:∀i j,g i j=decide (0<F i j):=fun i j=>by rw[<- hg]
 refine zc0 (n:=((zP n ρ).length:Int).toNat) (fun i σ' H'=>∃(f3 f4:Option V) (ls:List Addr),σ'=[some (.ref a),some (.ref b),some (.ref cs),f3,f4]/\H' cs=some (.lst (ls.map V.ref))/\cs∉ls/\(∀c∈ls,H c=none)/\ls.length<=i/\LsOf H' ls (((List.range i).map (Rc.reach n g)).filter fun l=>l.all fun i=>(ρ i).isSome)/\Same H H') ⟨_,_,[],rfl,hcs,(fun z=>nomatch z),(fun _ z=>nomatch z),ye _,LsOf.nil,e1⟩ ?_ ?_
 ·rintro i σ' H2 hi ⟨f3,f4,ls,rfl,hcs2,ncs,fls,hll,hL,e2⟩
  have ei:(0:Int)+(i:Int)=i:=by omega
  rw[yw,hol]at hi
  have ha2:=e2.at ha
  have hR2:=hR.same e2
  have hb2:=e2.at hb
  rw[ei]
  walk_at "x"
  rename_i p1 H3 fp1 e3 hp1
  rw[hg]at hp1
  have er:((List.range (i+1)).map (Rc.reach n g)).filter (fun l=>l.all fun i=>(ρ i).isSome)=((List.range i).map (Rc.reach n g)).filter (fun l=>l.all fun i=>(ρ i).isSome)++if((Rc.reach n g i).all fun i=>(ρ i).isSome)=true then[Rc.reach n g i] else[]:=by
   rw[yG,yl,yat,yY,zo8]
  rw[er]
  have hrl:∀x∈Rc.reach n g i,x<n:=fun x hx=>Rc.reach_lt hi hx
  have hrn:(Rc.reach n g i).length<=n:=Rc.seq_len (g:=g) hi n
  generalize Rc.reach n g i=rl at *
  have hb3:=e3.at hb2
  refine zR (zaq (K:=K) (a:=p1) (xs:=zax rl)) (fun H' e=>SqL.of (e.at hp1)) rfl (fun j vs _=>vs=((rl.take j).map fun x=>(ρ x).isSome).map V.bl) (fun H' _=>rfl) ?_ ?_
  ·rintro j x D vs o H4 H5 hj hD e4 hv hvl rfl e5 hx
   rw[zX]at hj
   rw[zcf hj]at hx
   cases hx
   have hxn:=zbK hj hrl
   have hb5:=(e4.trans e5).at hb3
   have hat:atI (zP n ρ) ((rl.getD j 0:Nat):Int)=some (zaX (ρ (rl.getD j 0))):=zU (zas hxn)
   walk_at "x"
   rename_i H6 b6 h6
   rw[zbW,show(!(ρ (rl.getD j 0)).isNone)=(ρ (rl.getD j 0)).isSome by cases ρ (rl.getD j 0)<;>rfl]at h6
   refine⟨⟨_,rfl⟩,by walk_at "h",_,h6,by rw[ya];exact ym hvl,?_⟩
   dsimp only
   have hgd:rl[j]?=some (rl.getD j 0):=by rw[yg,yi hj];rfl
   rw[zam hgd,yl,yl];rfl
  ·rintro D H4 vs hD e4 hv hvl rfl
   rw[zX,yF]at hv
   have hlm:(ls.map V.ref).length<=100000:=by rw[yc];omega
   have ea:((rl.map fun x=>(ρ x).isSome).all id)=rl.all fun i=>(ρ i).isSome:=by rw[List.all_map];rfl
   have hcs4:H4 cs=some (.lst (ls.map V.ref)):=(e3.trans e4).at hcs2
   have e34:=e3.trans e4
   walk_at "x"
   ·rename_i hyes H5 b5 h5
    rw[ea]at hyes
    have np1:p1≠cs:=zem fp1 hcs2
    refine⟨_,_,ls++[p1],rfl,by rw[h5,yl];rfl,fun z=>?_,fun c hc=>?_,by rw[ya];simp only[y9];omega,?_,by walk_at "h"⟩
    ·rcases yT.mp z with h | h
     ·exact ncs h
     ·exact np1 (yv.mp h).symm
    ·rcases yT.mp hc with h | h
     ·exact fls c h
     ·rw[yv.mp h];exact Same.none fp1 e2
    ·rw[if_pos hyes]
     exact((hL.same e34).but b5 ncs).snoc (b5.lst (e4.at hp1) np1)
   ·rename_i hno
    rw[ea]at hno
    rw[if_neg (by rw[hno];decide),yan]
    exact⟨_,_,ls,rfl,hcs4,ncs,fls,ybd hll,hL.same e34,e2.trans e34⟩
 ·rintro σ' H2 ⟨f3,f4,ls,rfl,hcs2,ncs,fls,hll,hL,e2⟩
  rw[yw,hol]at hL
  have hcl:∀c∈((List.range n).map (Rc.reach n g)).filter (fun l=>l.all fun i=>(ρ i).isSome),c.length<=n:=fun c hc=>by
   obtain⟨i,hi,rfl,_⟩:=Rc.mem_circles.mp hc
   exact Rc.seq_len (g:=g) hi n
  have hck:Rc.circle n g (fun i=>(ρ i).isSome)=Rc.minL (((List.range n).map (Rc.reach n g)).filter fun l=>l.all fun i=>(ρ i).isSome):=rfl
  rw[hck]at k
  generalize (((List.range n).map (Rc.reach n g)).filter fun l=>l.all fun i=>(ρ i).isSome)=C at *
  show(zkH (zkx 2) ziz) _ _ (zkh K _)
  walk_at "x"
  refine⟨cs,ls,fun i=>(C.getD i []).length,rfl,SqL.of hcs2,fun i c hc=>?_,fun p H3 fp e3 hp=>⟨fun hn=>?_,fun i c hc hmin=>?_⟩⟩
  ·obtain⟨l,h1,h2⟩:=hL.2 i c hc
   have e:C.getD i []=l:=by rw[yg,h1];rfl
   have:=hcl l (yb h1)
   exact⟨_,h2,by rw[zX];exact(congrArg List.length e).symm,by show(C.getD i []).length<=16000;rw[e];omega⟩
  ·have hC:C=[]:=yX (by rw[<- hL.1,hn];rfl)
   rw[hC]at k
   exact k p H3 (Same.none fp e2) (e2.trans e3) hp
  ·obtain⟨l,h1,h2⟩:=hL.2 i c hc
   have e:C.getD i []=l:=by rw[yg,h1];rfl
   have em:=zoQ h1 fun j m hm=>by
    have hj:j<ls.length:=by rw[hL.1];exact(yj.mp hm).1
    have:=hmin j hj
    dsimp only at this
    rw[e,show C.getD j []=m by rw[yg,hm];rfl]at this
    exact this
   rw[em]at k
   exact k c H3 (fls c (yb hc)) (e2.trans e3) (e3.at h2)
theorem zfD(T:Txt K mg):FnOk P w K mg base (CXF P w) 1 T.d_balances.a T.d_balances.fd ["flows", "members"] (zkC K):=by
 refine T.d_balances.F.okN sc_balances (fun vs H Q E h=>?_) (fun cdv A outer s H vs Q E hr h=>?_)
 ·obtain⟨a,b,n,as,F,c,rfl,_⟩:=h;rfl
 obtain⟨a,b,n,as,F,c,rfl,ha,hal,hR,hb,hc,c9,h9,k⟩:=h
 refine⟨_,(zh (zaW (i:=2) sc_balances.nd rfl rfl rfl (show PI _ _ _ (zaA K _)from z8 (pv 1)) (zF (Ni:=["member", "members", "flows"]) (caps:=[none,some 1,some 0]) (by rfl)) (fun S _ _ _ _ _=>(zJ (gi:=0) S (Or.inr rfl) rfl)) (fun _ _ _ _ _=>zV) (fun _ _ _ _ _=>(zaw rfl (show PI _ _ _ (zaA K _)from z8 (pv 1)) (zF (Ni:=["other", "flows", "member"]) (caps:=[none,some 2,some 0]) (by rfl)) (fun S _ _ _ _ _=>(zJ (gi:=0) S (Or.inl rfl) rfl)) (fun _ _ _ _ _=>zV) (fun _ _ _ _ _=>(zah (za (zeK zdW (zl (show IxR _ (rIx K)from zk) (zl (show IxR _ (rIx K)from zk) (pv 1) (pv 0) (fun _ _=>rfl)) (pv 2) (fun _ _=>rfl))) (za ze zf)))))))
 (zh (zat PassesOwn.never rfl (show PI _ _ _ (zcd K _)from zbc rfl T.z_enumerate (za (pv 1) zf)) (show PG _ _ (zbr K 2 _)from zaL (n:=2) rfl (zK (zM (i:=3) sc_balances.nd rfl (Or.inl rfl)) (zK (zM (i:=4) sc_balances.nd rfl (Or.inl rfl)) zav)))
 (zj (zcA (zah (za (zN (show CallR _ _ (zfY K)from zd3 rfl) rfl T.z_sum BT.sum (za (zl (show IxR _ (rIx K)from zk) (pv 0) (pv 4) (fun _ _=>rfl)) zf)) (za ze zf))) (zcB (zl (show IxR _ (rIx K)from zk) (pv 2) (pv 3) (fun _ _=>rfl)) (pv 3) zaU))))
 (zj (zw (pv 2))))),?_⟩
 refine zI (σ0:=[some (.ref a),some (.ref b),none,none,none]) rfl ?_
 walk_at "x"
 refine zR (zaq (K:=K) (a:=b) (xs:=zax c)) (fun H' e=>SqL.of (e.at hb)) rfl (fun i vs H'=>∃bs:List Addr,vs=bs.map V.ref/\bs.length=i/\PRows H' bs (fun a=>(List.range c.length).map fun b=>((-F (c.getD b 0) (c.getD a 0):Int):Rat))/\∀b∈bs,H b=none) (fun H' _=>⟨[],rfl,rfl,PRows.nil,fun _ h=>nomatch h⟩) ?_ ?_
 ·rintro i x D vs o H2 H3 hi hD e2 hv hvl ⟨bs,rfl,hbl,hP,hF⟩ e3 hx
  rw[zX]at hi
  rw[zcf hi]at hx
  cases hx
  have hxn:=zbK hi hc
  have hb3:=(e2.trans e3).at hb
  have ha3:=(e2.trans e3).at ha
  have hR3:=hR.same (e2.trans e3)
  walk_at "x"
  refine zR (zaq (K:=K) (a:=b) (xs:=zax c)) (fun H' e=>SqL.of (e.at hb3)) rfl (fun j vs H'=>IsQs H' vs ((List.range j).map fun b=>((-F (c.getD b 0) (c.getD i 0):Int):Rat))) (fun H' _=>trivial) ?_ ?_
  ·rintro j x D2 vs o2 H4 H5 hj hD2 e4 hv2 hvl2 hQ e5 hx
   rw[zX]at hj
   rw[zcf hj]at hx
   cases hx
   have hyn:=zbK hj hc
   obtain⟨r,hr1⟩:=zC (show c.getD j 0<as.length by omega)
   have hr5:=(hR3.same (e4.trans e5)).2 _ _ hr1
   have ha5:=(e4.trans e5).at ha3
   have hat:atI (as.map V.ref) ((c.getD j 0:Nat):Int)=some (.ref r):=zU (by rw[yf,hr1];rfl)
   have hat2:atI ((vec n (F (c.getD j 0))).map V.int) ((c.getD i 0:Nat):Int)=some (.int (F (c.getD j 0) (c.getD i 0))):=zU (by rw[yf,zay hxn];rfl)
   walk_at "x"
   refine zaP (q:=((-F (c.getD j 0) (c.getD i 0):Int):Rat)) ⟨rfl,rfl⟩ ?_
   intro p H6 e6 hp
   have hv6:=(e5.trans e6).at hv2
   walk_at "x"
   rename_i H7 b7 h7
   refine⟨⟨_,rfl⟩,b7.same ((e4.trans e5).trans e6) hD2,_,h7,by rw[ya];exact ym hvl2,?_⟩
   show IsQs H7 _ ((List.range (j+1)).map _)
   rw[yG,yl,yY]
   exact IsQs.app (LBut.isQ b7 hp) (LBut.isQs b7 (hQ.same (e5.trans e6)))
  ·rintro D2 H4 vs hD2 e4 hv2 hvl2 hQ
   rw[zX]at hQ
   have hv4:=(e3.trans e4).at hv
   walk_at "x"
   rename_i H5 b5 h5
   have nDb:D∉bs:=hP.ne hv
   have n2b:D2∉bs:=(hP.same e3).fresh hD2
   have n2D:D2≠D:=fun z=>by rw[z,e3.at hv]at hD2;cases hD2
   refine⟨⟨_,rfl⟩,b5.same ((e2.trans e3).trans e4) hD,_,h5,by rw[ya];exact ym hvl,bs++[D2],by rw[yl];rfl,by rw[ya,hbl];rfl,PRows.snoc ((hP.same (e3.trans e4)).but b5 nDb) n2b (b5.lst hv2 n2D) (by rw[hbl];exact LBut.isQs b5 hQ),fun y hy=>?_⟩
   rcases yT.mp hy with h | h
   ·exact hF y h
   ·rw[yv.mp h];exact Same.none hD2 (e2.trans e3)
 ·rintro l H2 vs fl e2 hl hvl ⟨bs,rfl,hbl,hP,hF⟩
  rw[zX]at hbl
  walk_at "x"
  have hlb:l∉bs:=hP.ne hl
  have hb2:=e2.at hb
  refine zdQ (zaV (K:=K) (a:=b) (xs:=zax c)) (fun i σ' H'=>∃f3 f4:Option V,σ'=[some (.ref a),some (.ref b),some (.ref l),f3,f4]/\H' l=some (.lst (bs.map V.ref))/\PRows H' bs (fun a=>(List.range c.length).map fun b=>(((if a<i then zcc n F c a b else -F (c.getD b 0) (c.getD a 0)):Int):Rat))/\Same H H') ⟨_,_,rfl,hl,hP.congr fun m hm=>(by simp),e2⟩ ?_ ?_ ?_
  ·rintro i σ' H' ⟨_,_,_,_,_,e⟩;exact SqL.of (e.at hb)
  ·rintro i x σ' H3 H4 hi ⟨f3,f4,rfl,hl3,hP3,e3⟩ e4 ⟨t,v,rfl,hx,htt⟩
   rw[zX]at hi
   rw[zcf hi]at hx
   cases hx
   have ht':H4 t=some (.tup [.int (i:Int),.int ((c.getD i 0:Nat):Int)]):=htt
   have hxn:=zbK hi hc
   have ha4:=(e3.trans e4).at ha
   obtain⟨r,hr1⟩:=zC (show c.getD i 0<as.length by omega)
   have hr4:=(hR.same (e3.trans e4)).2 _ _ hr1
   have hat:atI (as.map V.ref) ((c.getD i 0:Nat):Int)=some (.ref r):=zU (by rw[yf,hr1];rfl)
   obtain⟨s1,hs1⟩:=zC (show i<bs.length by omega)
   have hat2:atI (bs.map V.ref) (i:Int)=some (.ref s1):=zU (by rw[yf,hs1];rfl)
   have hl4:=e4.at hl3
   obtain⟨ws,hw1,hw2⟩:=(hP3.same e4).2 _ _ hs1
   have hwl:=hw2.length
   rw[yc,yy]at hwl
   walk_at "x"
   refine zaP (q:=((zaH (vec n (F (c.getD i 0))):Int):Rat)) ⟨rfl,rfl⟩ ?_
   intro p H5 e5 hp
   have hl5:=e5.at hl4
   have hw5:=e5.at hw1
   walk_at "x"
   refine zdn (j:=((i:Int)).toNat) hw5 (zdx (by omega) (by omega)) ?_
   intro H6 b6 h6
   rw[yw]at h6
   walk_at "x"
   have hsm:s1∈bs:=yb hs1
   have nls:l≠s1:=fun z=>hlb (z▸hsm)
   refine⟨_,_,rfl,b6.lst hl5 nls,((((hP3.same e4).same e5).upd b6 hs1 h6 (IsQs.setQ (LBut.isQ b6 hp) i (LBut.isQs b6 (hw2.same e5)))).congr fun m hm=>?_),b6.same ((e3.trans e4).trans e5) (hF _ hsm)⟩
   dsimp only
   by_cases e:m=i
   ·subst e
    rw[if_pos rfl,zhb]
    refine yx fun j hj=>?_
    unfold zcc
    by_cases g:j=m
    ·rw[if_pos g,if_pos (by omega),if_pos g.symm]
    ·rw[if_neg g,if_neg (by omega),if_pos (by omega),if_neg (fun z=>g z.symm)]
   ·rw[if_neg e]
    refine yx fun j hj=>?_
    by_cases g:m<i
    ·rw[if_pos g,if_pos (by omega)]
    ·rw[if_neg g,if_neg (by omega)]
  ·rintro σ' H3 ⟨f3,f4,rfl,hl3,hP3,e3⟩
   walk_at "x"
   exact k l H3 bs fl e3 hl3 hbl (hP3.congr fun m hm=>yx fun j hj=>(by rw[zX,if_pos (by omega)])) hF
theorem zfC(T:Txt K mg):FnOk P w K mg base (CXF P w) 3 T.d_rates_of.a T.d_rates_of.fd ["flows", "members", "shares"] (zj1 K):=by
 refine T.d_rates_of.F.okN sc_rates_of (fun vs H Q E h=>?_) (fun cdv A outer s H vs Q E hr h=>?_)
 ·obtain⟨a,b,d,n,as,F,c,ws,x,rfl,_⟩:=h;rfl
 obtain⟨a,b,d,n,as,F,c,ws,x,rfl,ha,hal,hR,hb,hc,nd,c9,h9,hd,hx,z1,z2,k⟩:=h
 refine⟨_,(zh (zaW (i:=3) sc_rates_of.nd rfl rfl rfl (show PI _ _ _ (zaA K _)from z8 (pv 0)) (zF (Ni:=["flow"]) (caps:=[none]) (by rfl)) (fun S _ _ _ _ _=>(zJ (gi:=0) S (Or.inl rfl) rfl)) (fun _ _ _ _ _=>zV) (fun _ _ _ _ _=>(zah (za ze (za ze zf)))))
 (zh (zat PassesOwn.never rfl (show PI _ _ _ (zcd K _)from zbc rfl T.z_enumerate (za (pv 1) zf)) (show PG _ _ (zbr K 2 _)from zaL (n:=2) rfl (zK (zM (i:=4) sc_rates_of.nd rfl (Or.inl rfl)) (zK (zM (i:=5) sc_rates_of.nd rfl (Or.inl rfl)) zav)))
 (zj (zcA (zm (zeD T) (hr.mono (by decide)) rfl T.d_times.m T.d_times.F.kp T.d_times.b .nil (zy zt) (za (zl (show IxR _ (rIx K)from zk) (pv 2) (pv 4) (fun _ _=>rfl)) (za (zah (za (zN (show CallR _ _ (zfY K)from zd3 rfl) rfl T.z_sum BT.sum (za (zl (show IxR _ (rIx K)from zk) (pv 0) (pv 5) (fun _ _=>rfl)) zf)) (za ze zf))) zf))) (zcB (pv 3) (pv 5) zaU))))
 (zj (zw (pv 3))))),?_⟩
 refine zI (σ0:=[some (.ref a),some (.ref b),some (.ref d),none,none,none]) rfl ?_
 walk_at "x"
 refine zR (zaq (K:=K) (a:=a) (xs:=as.map V.ref)) (fun H' e=>SqL.of (e.at ha)) rfl (fun i vs H'=>IsQs H' vs ((List.range i).map fun _=>(0:Rat))) (fun H' _=>trivial) ?_ ?_
 ·rintro i x D vs o H2 H3 hi hD e2 hv hvl hQ e3 hx
  rw[yc]at hi
  walk_at "x"
  refine zaP (q:=(0:Rat)) ⟨rfl,rfl⟩ ?_
  intro p H4 e4 hp
  have hv4:=(e3.trans e4).at hv
  walk_at "x"
  rename_i H5 b5 h5
  refine⟨⟨_,rfl⟩,b5.same ((e2.trans e3).trans e4) hD,_,h5,by rw[ya];exact ym hvl,?_⟩
  show IsQs H5 _ ((List.range (i+1)).map _)
  rw[yG,yl,yY]
  exact IsQs.app (LBut.isQ b5 hp) (LBut.isQs b5 (hQ.same (e3.trans e4)))
 ·rintro l H2 vs fl e2 hl hvl hQ
  rw[yc,hal]at hQ
  walk_at "x"
  refine zdQ (zaV (K:=K) (a:=b) (xs:=zax c)) (fun i σ' H'=>∃(f4 f5:Option V) (us:List V),σ'=[some (.ref a),some (.ref b),some (.ref d),some (.ref l),f4,f5]/\H' l=some (.lst us)/\IsQs H' us ((List.range n).map fun j=>sF i (fun a=>c.getD a 0) x j*((zaH (vec n (F j)):Int):Rat))/\Same H H') ⟨_,_,vs,rfl,hl,by rw[show(List.range n).map (fun j=>sF 0 (fun a=>c.getD a 0) x j*((zaH (vec n (F j)):Int):Rat))=(List.range n).map (fun _=>(0:Rat))from yx fun j _=>by show(0:Rat)*_=0;grind];exact hQ,e2⟩ ?_ ?_ ?_
  ·rintro i σ' H' ⟨_,_,_,_,_,_,e⟩;exact SqL.of (e.at hb)
  ·rintro i y σ' H3 H4 hi ⟨f4,f5,us,rfl,hl3,hU,e3⟩ e4 ⟨t,v,rfl,hy,htt⟩
   rw[zX]at hi
   rw[zcf hi]at hy
   cases hy
   have ht':H4 t=some (.tup [.int (i:Int),.int ((c.getD i 0:Nat):Int)]):=htt
   have hxn:=zbK hi hc
   have e04:=e3.trans e4
   have ha4:=e04.at ha
   have hd4:=e04.at hd
   obtain⟨r,hr1⟩:=zC (show c.getD i 0<as.length by omega)
   have hr4:=(hR.same e04).2 _ _ hr1
   have hat:atI (as.map V.ref) ((c.getD i 0:Nat):Int)=some (.ref r):=zU (by rw[yf,hr1];rfl)
   have hwl:=hx.length
   rw[yc,yy]at hwl
   have hul:=hU.length
   rw[yc,yy]at hul
   obtain⟨v,hv1⟩:=zC (show i<ws.length by omega)
   obtain⟨g,q,rfl,hq1,hq2⟩:=hx.get hv1
   rw[yf,y4 hi]at hq1
   cases hq1
   have hat2:atI ws (i:Int)=some (.ref g):=zU hv1
   have hg4:=e04.isQ hq2
   have zx:=z1 i hi
   have zs:=z2 _ hxn
   walk_at "x"
   refine zaP (q:=((zaH (vec n (F (c.getD i 0))):Int):Rat)) ⟨rfl,rfl⟩ ?_
   intro p H5 e5 hp
   have hg5:=e5.isQ hg4
   have hl5:=(e4.trans e5).at hl3
   walk_at "x"
   rename_i t2 H6 e6 ht2
   have hl6:=e6.at hl5
   refine zdn (j:=((c.getD i 0:Nat):Int).toNat) hl6 (zdx (by omega) (by omega)) ?_
   intro H7 b7 h7
   rw[yw]at h7
   walk_at "x"
   refine⟨_,_,_,rfl,h7,?_,b7.same ((e04.trans e5).trans e6) fl⟩
   have hset:=IsQs.setQ (LBut.isQ b7 ht2) (c.getD i 0) (LBut.isQs b7 (hU.same ((e4.trans e5).trans e6)))
   rw[zhb]at hset
   have e:(List.range n).map (fun m=>if m=c.getD i 0 then x i*((zaH (vec n (F (c.getD i 0))):Int):Rat)else sF i (fun a=>c.getD a 0) x m*((zaH (vec n (F m)):Int):Rat))=(List.range n).map fun j=>sF (i+1) (fun a=>c.getD a 0) x j*((zaH (vec n (F j)):Int):Rat):=by
    refine yx fun m _=>?_
    have es:sF (i+1) (fun a=>c.getD a 0) x m=sF i (fun a=>c.getD a 0) x m+(if c.getD i 0=m then x i else 0):=rfl
    rw[es]
    by_cases e:m=c.getD i 0
    ·rw[if_pos e,if_pos e.symm,e,zgt fun a ha e2=>absurd (za4 nd a i (by omega) hi e2) (by omega)]
     grind
    ·rw[if_neg e,if_neg fun z=>e z.symm]
     grind
   rw[<- e]
   exact hset
  ·rintro σ' H3 ⟨f4,f5,us,rfl,hl3,hU,e3⟩
   rw[zX]at hU
   walk_at "x"
   exact k l H3 us fl e3 hl3 hU
theorem zfB(T:Txt K mg):FnOk P w K mg base (CXF P w) 4 T.d_circling_rates.a T.d_circling_rates.fd ["flows", "circle"] (zl1 K):=by
 refine T.d_circling_rates.F.okN sc_circling_rates (fun vs H Q E h=>?_) (fun cdv A outer s H vs Q E hr h=>?_)
 ·obtain⟨a,b,n,as,F,c,rfl,_⟩:=h;rfl
 obtain⟨a,b,n,as,F,c,rfl,ha,hal,hR,hb,hc,nd,c1,c9,h9,hz,hdet,k⟩:=h
 refine⟨_,(zh (zp (i:=2) sc_circling_rates.nd rfl (Or.inl rfl) (zm (zfD T) (hr.mono (by decide)) rfl T.d_balances.m T.d_balances.F.kp T.d_balances.b .nil (zy zt) (za (pv 0) (za (pv 1) zf))))
 (zh (zaW (i:=3) sc_circling_rates.nd rfl rfl rfl (show PI _ _ _ (zaA K _)from z8 (pv 1)) (zF (Ni:=["member"]) (caps:=[none]) (by rfl)) (fun S _ _ _ _ _=>(zJ (gi:=0) S (Or.inl rfl) rfl)) (fun _ _ _ _ _=>zV) (fun _ _ _ _ _=>(zah (za ze (za ze zf)))))
 (zh (zcA (zaw rfl (zan rfl T.z_range (za (zN (show CallR _ _ (za7 K)from zZ) rfl T.z_len BT.len (za (pv 1) zf)) zf)) (zF (Ni:=["place"]) (caps:=[none]) (by rfl)) (fun S _ _ _ _ _=>(zJ (gi:=0) S (Or.inl rfl) rfl)) (fun _ _ _ _ _=>zV) (fun _ _ _ _ _=>(zah (za (zdP (zB (show OpR _ (compareOp .Eq) (zaE K)from zar hr.units) (pv 0) ze (nomark _)) ze ze) (za ze zf))))) (zcB (pv 2) ze zaU))
 (zh (zcA (zah (za ze (za ze zf))) (zcB (pv 3) ze zaU))
 (zj (zw (zm (zfC T) (hr.mono (by decide)) rfl T.d_rates_of.m T.d_rates_of.F.kp T.d_rates_of.b .nil (zy zt) (za (pv 0) (za (pv 1) (za (zm (zhx T) (hr.mono (by decide)) rfl T.d_solved.m T.d_solved.F.kp T.d_solved.b .nil (zy zt) (za (pv 2) (za (pv 3) zf))) zf)))))))))),?_⟩
 refine zI (σ0:=[some (.ref a),some (.ref b),none,none]) rfl ?_
 walk_at "x"
 rename_i ro H1 bs fro e1 hro hbl hP hF
 have hb1:=e1.at hb
 refine zR (zaq (K:=K) (a:=b) (xs:=zax c)) (fun H' e=>SqL.of (e.at hb1)) rfl (fun i vs H'=>IsQs H' vs ((List.range i).map fun _=>(0:Rat))) (fun H' _=>trivial) ?_ ?_
 ·rintro i x D vs o H2 H3 hi hD e2 hv hvl hQ e3 hx
  rw[zX]at hi
  walk_at "x"
  refine zaP (q:=(0:Rat)) ⟨rfl,rfl⟩ ?_
  intro p H4 e4 hp
  have hv4:=(e3.trans e4).at hv
  walk_at "x"
  rename_i H5 b5 h5
  refine⟨⟨_,rfl⟩,b5.same ((e2.trans e3).trans e4) hD,_,h5,by rw[ya];exact ym hvl,?_⟩
  show IsQs H5 _ ((List.range (i+1)).map _)
  rw[yG,yl,yY]
  exact IsQs.app (LBut.isQ b5 hp) (LBut.isQs b5 (hQ.same (e3.trans e4)))
 rintro ri H2 vs fri e2 hri hvl hQ
 rw[zX]at hQ
 have hb2:=e2.at hb1
 have hnl:=zX (l:=c)
 walk_at "x"
 refine zR (zbS (lo:=0) (n:=((zax c).length:Int).toNat)) (fun _ _=>trivial) rfl (fun i vs H'=>IsQs H' vs ((List.range i).map fun m=>if m=0 then(1:Rat)else 0)) (fun H' _=>trivial) ?_ ?_
 ·rintro i x D us o H3 H4 hi hD e3 hv hvl hU e4 rfl
  have ei:(0:Int)+(i:Int)=i:=by omega
  rw[ei]
  walk_at "x"
  ·refine zaP (q:=(1:Rat)) ⟨rfl,rfl⟩ ?_
   rename_i hi0
   intro p H5 e5 hp
   have hv5:=(e4.trans e5).at hv
   walk_at "x"
   rename_i H6 b6 h6
   refine⟨⟨_,rfl⟩,b6.same ((e3.trans e4).trans e5) hD,_,h6,by rw[ya];exact ym hvl,?_⟩
   show IsQs H6 _ ((List.range (i+1)).map _)
   rw[yG,yl,yY,if_pos (by omega)]
   exact IsQs.app (LBut.isQ b6 hp) (LBut.isQs b6 (hU.same (e4.trans e5)))
  ·refine zaP (q:=(0:Rat)) ⟨rfl,rfl⟩ ?_
   rename_i hi0
   intro p H5 e5 hp
   have hv5:=(e4.trans e5).at hv
   walk_at "x"
   rename_i H6 b6 h6
   refine⟨⟨_,rfl⟩,b6.same ((e3.trans e4).trans e5) hD,_,h6,by rw[ya];exact ym hvl,?_⟩
   show IsQs H6 _ ((List.range (i+1)).map _)
   rw[yG,yl,yY,if_neg (by omega)]
   exact IsQs.app (LBut.isQ b6 hp) (LBut.isQs b6 (hU.same (e4.trans e5)))
 rintro D H3 us fD e3 hD hul hU
 rw[yw,zX]at hU
 have hro3:=(e2.trans e3).at hro
 have nro:ro∉bs:=hP.ne hro
 have nD:D∉bs:=(hP.same e2).fresh fD
 have nDro:ro≠D:=fun z=>by rw[<- z,e2.at hro]at fD;cases fD
 have nri:ri∉bs:=hP.fresh fri
 have nriro:ri≠ro:=fun z=>by rw[z,hro]at fri;cases fri
 have nriD:ri≠D:=fun z=>by rw[<- z,hri]at fD;cases fD
 have hin:∀y∈bs.set 0 D,y∈bs\/y=D:=fun y hy=>ya7 hy
 walk_at "x"
 refine zdn (j:=(0:Int).toNat) hro3 (zdx (by omega) (by rw[yc];omega)) ?_
 intro H4 b4 h4
 rw[show(0:Int).toNat=0 from rfl,<- ybC]at h4
 have e04:Same H H4:=b4.same ((e1.trans e2).trans e3) fro
 have hP4:=((hP.same (e2.trans e3)).put (j:=0) nD hD hU).but b4 (fun z=>(hin ro z).elim nro nDro)
 have hri4:H4 ri=some (.lst vs):=b4.lst (e3.at hri) nriro
 have hQ4:=LBut.isQs b4 (hQ.same e3)
 have hvl':=hQ.length
 rw[yc,yy]at hvl'
 walk_at "x"
 refine zaP (q:=(1:Rat)) ⟨rfl,rfl⟩ ?_
 intro p5 H5 e5 hp5
 walk_at "x"
 refine zdn (j:=(0:Int).toNat) (e5.at hri4) (zdx (by omega) (by omega)) ?_
 intro H6 b6 h6
 rw[show(0:Int).toNat=0 from rfl]at h6
 have hQ6:=IsQs.setQ (LBut.isQ b6 hp5) 0 (LBut.isQs b6 (hQ4.same e5))
 rw[zhb]at hQ6
 have e06:Same H H6:=b6.same (e04.trans e5) (Same.none fri e1)
 have h46:H6 ro=some (.lst ((bs.set 0 D).map V.ref)):=b6.lst (e5.at h4) (fun z=>nriro z.symm)
 have hP6:=(hP4.same e5).but b6 (fun z=>(hin ri z).elim nri nriD)
 have ha6:=e06.at ha
 have hR6:=hR.same e06
 have hb6:=e06.at hb
 walk_at "x"
 refine zfG (n:=c.length) (R:=fun l j=>if j=c.length then(if l=0 then 1 else 0)else zc1 n F c l j) ⟨⟨bs.set 0 D,h46,by rw[yao];exact hbl,fun l g hg=>?_⟩,⟨_,h6,?_⟩⟩ c9 (fun l j hl hj=>?_) (by decide) (by decide) (by decide) ?_ ?_ ?_
 ·obtain⟨ws,w1,w2⟩:=hP6.2 l g hg
  refine⟨ws,w1,?_⟩
  dsimp only at w2
  have e:∀j∈List.range c.length,(if j=c.length then(if l=0 then(1:Rat)else 0)else zc1 n F c l j)=zc1 n F c l j:=fun j hj=>if_neg (by have:=yN.mp hj;omega)
  rw[yx e]
  by_cases e:l=0
  ·rw[if_pos e]at w2
   rw[show(List.range c.length).map (zc1 n F c l)=(List.range c.length).map (fun m=>if m=0 then(1:Rat)else 0)from yx fun j _=>if_pos e]
   exact w2
  ·rw[if_neg e]at w2
   rw[show(List.range c.length).map (zc1 n F c l)=(List.range c.length).map (fun b=>((zcc n F c l b:Int):Rat))from yx fun j _=>if_neg e]
   exact w2
 ·rw[show(fun l=>if c.length=c.length then(if l=0 then(1:Rat)else 0)else zc1 n F c l c.length)=fun l=>if l=0 then(1:Rat)else 0 from funext fun l=>if_pos rfl]
  exact hQ6
 ·have z1:SzQ (1:Rat) 60 1:=zdG (x:=1) (yh zeW (by decide))
  have z0:SzQ (0:Rat) 60 1:=zdG (x:=0) (zbJ (by decide))
  split
  ·split
   ·exact z1
   ·exact z0
  ·unfold zc1
   split
   ·split
    ·exact z1
    ·exact z0
   ·exact zdG (hz.bal hc hl (by omega))
 ·have:=zen (n:=c.length) (by omega)
  show c.length*(60+(c.length+1)*1+4)<=8990
  omega
 ·intro z
  refine hdet (z▸Dt.det_congr fun j r hj hr=>?_)
  show zc1 n F c r j=if j=c.length then _ else _
  rw[if_neg (by omega)]
 intro p H7 ws x fp e7 hp hx heq hsz
 have ha7:=e7.at ha6
 have hR7:=hR6.same e7
 have hb7:=e7.at hb6
 have hszx:∀m,m<c.length->SzQ (x m) 667 667:=fun m hm=>(hsz m hm).mono (zen c9) (zen c9)
 walk_at "x"
 refine zhH ha7 hal hR7 hb7 hc nd c9 h9 hp hx (fun m hm=>(hszx m hm).mono (by decide) (by decide)) (fun i hi=>hz.sum hi) ?_
 intro p' H8 vs' fp' e8 hp' hv'
 refine k p' H8 vs' x (Same.none fp' (e06.trans e7)) ((e06.trans e7).trans e8) hp' hv' (fun l hl=>?_) hszx
 have:=heq l hl
 rw[if_pos rfl]at this
 rw[<- this]
 refine Dt.sm_congr fun m hm=>?_
 rw[if_neg (by omega)]
theorem zf8(T:Txt K mg):FnOk P w K mg base (CXF P w) 4 T.d_opening_rates.a T.d_opening_rates.fd ["flows", "ranks", "purses"] (zls K):=by
 refine T.d_opening_rates.F.okN sc_opening_rates (fun vs H Q E h=>?_) (fun cdv A outer s H vs Q E hr h=>?_)
 ·obtain⟨a,b,d,n,as,F,ρ,ps,rfl,_⟩:=h;rfl
 obtain⟨a,b,d,n,as,F,ρ,ps,rfl,ha,hal,hR,hb,hd,hpl,hpz,h9,hz,hdet,k⟩:=h
 have hol:(zP n ρ).length=n:=zbq
 refine⟨_,(zh (zaW (i:=3) sc_opening_rates.nd rfl rfl rfl (show PI _ _ _ (zcd K _)from zbc rfl T.z_enumerate (za (pv 1) zf)) (zF (Ni:=["member", "rank"]) (caps:=[none,none]) (by rfl)) (fun S _ _ _ _ _=>(show PG _ _ (zbr K 2 _)from zaL (n:=2) rfl (zK (zJ (gi:=0) S (Or.inl rfl) rfl) (zK (zJ (gi:=1) S (Or.inl rfl) rfl) zav)))) (fun _ _ _ _ _=>(zgm (zB zdJ (pv 1) zaZ (nomark _)))) (fun _ _ _ _ _=>(pv 0)))
 (zh (zaW (i:=4) sc_opening_rates.nd rfl rfl rfl (show PI _ _ _ (zaA K _)from z8 (pv 3)) (zF (Ni:=["member", "purses"]) (caps:=[none,some 2]) (by rfl)) (fun S _ _ _ _ _=>(zJ (gi:=0) S (Or.inl rfl) rfl)) (fun _ _ _ _ _=>zV) (fun _ _ _ _ _=>(zah (za (zl (show IxR _ (rIx K)from zk) (pv 1) (pv 0) (fun _ _=>rfl)) (za ze zf)))))
 (zj (zw (zm (zfC T) (hr.mono (by decide)) rfl T.d_rates_of.m T.d_rates_of.F.kp T.d_rates_of.b .nil (zy zt) (za (pv 0) (za (pv 3) (za (zm (zhx T) (hr.mono (by decide)) rfl T.d_solved.m T.d_solved.F.kp T.d_solved.b .nil (zy zt) (za (zm (zfD T) (hr.mono (by decide)) rfl T.d_balances.m T.d_balances.F.kp T.d_balances.b .nil (zy zt) (za (pv 0) (za (pv 3) zf))) (za (pv 4) zf))) zf)))))))),?_⟩
 refine zI (σ0:=[some (.ref a),some (.ref b),some (.ref d),none,none]) rfl ?_
 walk_at "x"
 refine zbC (zaV (K:=K) (a:=b) (xs:=zP n ρ)) (fun H' e=>SqL.of (e.at hb)) rfl (fun j vs _=>vs=zax ((List.range j).filter fun i=>(ρ i).isSome)) (fun H' _=>rfl) ?_ ?_
 ·rintro j x D vs o o' H3 H4 hj hD e3 hv hvl rfl e4 ⟨tt,v,rfl,hx,htt⟩
  rw[hol]at hj
  rw[zas hj]at hx
  cases hx
  have ht':H4 tt=some (.tup [.int (j:Int),zaX (ρ j)]):=htt
  walk_at "x"
  ·rename_i h1 H5 b5 h5
   refine⟨⟨_,_,rfl⟩,by walk_at "h",_,h5,by rw[ya];exact ym hvl,?_⟩
   dsimp only
   rw[zdY,if_pos (by cases hj:ρ j with | none=>rw[hj]at h1;exact absurd rfl h1 | some _=>rfl),zfc];rfl
  ·rename_i h1
   refine⟨⟨_,_,rfl⟩,by walk_at "h",_,by walk_at "h",ybd hvl,?_⟩
   dsimp only
   rw[zdY,if_neg (by cases hj:ρ j with | none=>decide | some _=>rw[hj]at h1;cases h1),yan]
 rintro sh H1 vs fsh e1 hsh hvl rfl
 rw[hol]at hsh
 have hc:=zlM (n:=n) (ρ:=ρ)
 have nd:=zmC (n:=n) (ρ:=ρ)
 have hcl:=zkW (n:=n) (ρ:=ρ)
 have hsh':H1 sh=some (.lst (zax (shorts n ρ))):=hsh
 generalize shorts n ρ=c at *
 clear hsh
 walk_at "x"
 refine zR (zaq (K:=K) (a:=sh) (xs:=zax c)) (fun H' e=>SqL.of (e.at hsh')) rfl (fun i vs H'=>IsQs H' vs ((List.range i).map fun l=>((ps.getD (c.getD l 0) 0:Int):Rat))) (fun H' _=>trivial) ?_ ?_
 ·rintro i x D vs o H2 H3 hi hD e2 hv hvl hQ e3 hx
  rw[zX]at hi
  rw[zcf hi]at hx
  cases hx
  have hxn:=zbK hi hc
  obtain⟨p0,hp0⟩:=zC (show c.getD i 0<ps.length by omega)
  have hpd:ps.getD (c.getD i 0) 0=p0:=by rw[yg,hp0];rfl
  have hat:atI (ps.map V.int) ((c.getD i 0:Nat):Int)=some (.int p0):=zU (by rw[yf,hp0];rfl)
  have hd3:=((e1.trans e2).trans e3).at hd
  walk_at "x"
  refine zaP (q:=((p0:Int):Rat)) ⟨rfl,rfl⟩ ?_
  intro p H4 e4 hp
  have hv4:=(e3.trans e4).at hv
  walk_at "x"
  rename_i H5 b5 h5
  refine⟨⟨_,rfl⟩,b5.same ((e2.trans e3).trans e4) hD,_,h5,by rw[ya];exact ym hvl,?_⟩
  show IsQs H5 _ ((List.range (i+1)).map _)
  rw[yG,yl,yY,hpd]
  exact IsQs.app (LBut.isQ b5 hp) (LBut.isQs b5 (hQ.same (e3.trans e4)))
 rintro ri H2 vs fri e2 hri hvl hQ
 rw[zX]at hQ
 have ha2:=(e1.trans e2).at ha
 have hR2:=hR.same (e1.trans e2)
 have hsh2:=e2.at hsh'
 walk_at "x"
 rename_i ro H3 bs fro e3 hro hbl hP hF
 have hri3:=e3.at hri
 have eR:∀l,(List.range c.length).map (fun j=>if j=c.length then((ps.getD (c.getD l 0) 0:Int):Rat) else((zcc n F c l j:Int):Rat))=(List.range c.length).map fun j=>((zcc n F c l j:Int):Rat):=fun l=>yx fun j hj=>by
  have:=yN.mp hj
  rw[if_neg (by omega)]
 refine zdl ?_
 refine zfG (n:=c.length) (R:=fun l j=>if j=c.length then((ps.getD (c.getD l 0) 0:Int):Rat) else((zcc n F c l j:Int):Rat)) ⟨⟨bs,hro,hbl,fun l g hg=>?_⟩,⟨vs,hri3,?_⟩⟩ (by omega) (fun l j hl hj=>?_) (by decide) (by decide) (by decide) ?_ ?_ ?_
 ·obtain⟨us,u1,u2⟩:=hP.2 l g hg
  exact⟨us,u1,by rw[eR];exact u2⟩
 ·have:=hQ.same e3
  rw[show(fun l=>if c.length=c.length then((ps.getD (c.getD l 0) 0:Int):Rat) else((zcc n F c l c.length:Int):Rat))=fun l=>((ps.getD (c.getD l 0) 0:Int):Rat)from funext fun l=>if_pos rfl]
  exact this
 ·split
  ·have hln:=zbK hl hc
   obtain⟨p0,hp0⟩:=zC (show c.getD l 0<ps.length by omega)
   have hpd:ps.getD (c.getD l 0) 0=p0:=by rw[yg,hp0];rfl
   rw[hpd]
   exact zdG (yh (hpz p0 (yb hp0)) (by decide))
  ·exact zdG (hz.bal hc hl (by omega))
 ·have:=zen (n:=c.length) (by omega)
  show c.length*(60+(c.length+1)*1+4)<=8990
  omega
 ·intro z
  refine hdet (z▸Dt.det_congr fun j r hj hr=>?_)
  show((zcc n F c r j:Int):Rat)=if j=c.length then _ else _
  rw[if_neg (by omega)]
 intro p H4 us x fp e4 hp hx heq hsz
 have ha4:=(e3.trans e4).at ha2
 have hR4:=hR2.same (e3.trans e4)
 have hsh4:=(e3.trans e4).at hsh2
 have hszx:∀m,m<c.length->SzQ (x m) 667 667:=fun m hm=>(hsz m hm).mono (zen (by omega)) (zen (by omega))
 walk_at "x"
 refine zhH ha4 hal hR4 hsh4 hc nd (by omega) h9 hp hx (fun m hm=>(hszx m hm).mono (by decide) (by decide)) (fun i hi=>hz.sum hi) ?_
 intro p' H5 vs' fp' e5 hp' hv'
 refine k p' H5 vs' x ?_ ((((e1.trans e2).trans e3).trans e4).trans e5) hp' hv' (fun l hl=>?_) hszx
 ·exact Same.none fp' (((e1.trans e2).trans e3).trans e4)
 ·have:=heq l hl
  rw[if_pos rfl]at this
  rw[<- this]
  refine Dt.sm_congr fun m hm=>?_
  rw[if_neg (by omega)]
theorem zeP(T:Txt K mg):FnOk P w K mg base (CXF P w) 4 T.d_least_room.a T.d_least_room.fd ["owed", "ranks", "lays", "rates"] (zlp K):=by
 refine T.d_least_room.F.okN sc_least_room (fun vs H Q E h=>?_) (fun cdv A outer s H vs Q E hr h=>?_)
 ·obtain⟨a,b,d,e,n,as,ds,l,r,us,ws,rfl,_⟩:=h;rfl
 obtain⟨a,b,d,e,n,as,ds,l,r,us,ws,rfl,ha,hal,hR,hb,hd,hu,he,hw,h9,hz,q1,q2⟩:=h
 have hwl:=hw.length
 rw[yc,yy]at hwl
 have hul:=hu.length
 rw[yc,yy]at hul
 refine⟨_,(zh (zp (i:=4) sc_least_room.nd rfl (Or.inl rfl) zaZ)
 (zh (zat PassesOwn.never rfl (show PI _ _ _ (zcd K _)from zbc rfl T.z_enumerate (za (pv 3) zf)) (show PG _ _ (zbr K 2 _)from zaL (n:=2) rfl (zK (zM (i:=5) sc_least_room.nd rfl (Or.inl rfl)) (zK (zM (i:=6) sc_least_room.nd rfl (Or.inl rfl)) zav)))
 (zj (zO (zB zdF (zl (show IxR _ (rIx K)from zk) (pv 6) ze (fun _ _=>rfl)) ze (nomark _))
 (zh (zp (i:=7) sc_least_room.nd rfl (Or.inl rfl) (zN (show CallR _ _ (zfY K)from zd3 rfl) rfl T.z_sum BT.sum (za (zfU (show SlR _ (zf0 K)from zgW) (zl (show IxR _ (rIx K)from zk) (pv 0) (pv 5) (fun _ _=>rfl)) zgR (zgN (zG (show OpR _ (binaryOp .Add) (zak K)from zT) (zl (show IxR _ (rIx K)from zk) (pv 1) (pv 5) (fun _ _=>rfl)) ze))) zf)))
 (zh (zp (i:=8) sc_least_room.nd rfl (Or.inl rfl) (zm (zoz T) (hr.mono (by decide)) rfl T.d_over.m T.d_over.F.kp T.d_over.b .nil (zy zt) (za (zm (zjB T) (hr.mono (by decide)) rfl T.d_minus.m T.d_minus.F.kp T.d_minus.b .nil (zy zt) (za (zah (za (pv 7) (za ze zf))) (za (zl (show IxR _ (rIx K)from zk) (pv 2) (pv 5) (fun _ _=>rfl)) zf))) (za (pv 6) zf))))
 (zj (zp (i:=4) sc_least_room.nd rfl (Or.inl rfl) (zdP (zB zel (pv 4) zaZ (nomark _)) (pv 8) (zm (zi3 T) (hr.mono (by decide)) rfl T.d_least.m T.d_least.F.kp T.d_least.b .nil (zy zt) (za (pv 4) (za (pv 8) zf))))))))
 zL)))
 (zj (zw (pv 4))))),?_⟩
 refine zI (σ0:=[some (.ref a),some (.ref b),some (.ref d),some (.ref e),none,none,none,none,none]) rfl ?_
 walk_at "x"
 refine zdQ (zaV (K:=K) (a:=e) (xs:=ws)) (fun i σ' H'=>∃(v:V) (f5 f6 f7 f8:Option V),σ'=[some (.ref a),some (.ref b),some (.ref d),some (.ref e),some v,f5,f6,f7,f8]/\(match zad ds l r i with | none=>v=.non | some x=>∃p,v=.ref p/\IsQ H' p x)/\Same H H') ⟨_,_,_,_,_,rfl,rfl,Same.refl _⟩ ?_ ?_ ?_
 ·rintro i σ' H' ⟨_,_,_,_,_,_,_,e⟩;exact SqL.of (e.at he)
 ·rintro i y σ' H3 H4 hi ⟨v,f5,f6,f7,f8,rfl,hv,e3⟩ e4 ⟨t,v',rfl,hy,htt⟩
  obtain⟨g,q,rfl,hq1,hq2⟩:=hw.get hy
  rw[yf,y4 (by omega)]at hq1
  cases hq1
  have ht':H4 t=some (.tup [.int (i:Int),.ref g]):=htt
  have hg4:=(e3.trans e4).isQ hq2
  have en:(0:Rat)<r i↔0<(r i).num:=by rw[Rat.lt_iff];show(0:Int)*_<_*(1:Int)↔_;omega
  have ero:zad ds l r (i+1)=if 0<r i then(match zad ds l r i with | none=>some (zaf ds l r i) | some q=>some (if zaf ds l r i<q then zaf ds l r i else q))else zad ds l r i:=rfl
  walk_at "x"
  ·rename_i hpos
   have hpos':=en.mpr hpos
   obtain⟨z1,z2,z3,z4,z5,z6⟩:=hz i (by omega) hpos'
   rw[if_pos hpos']at ero
   obtain⟨ρ,hρ⟩:∃ρ,stp ds l i=some ρ:=by
    cases h:stp ds l i with
    | none=>exact absurd h z1
    | some ρ=>exact⟨ρ,rfl⟩
   have hρ3:ρ < 3:=(zcb hρ).1
   have e04:=e3.trans e4
   obtain⟨c,hc⟩:=zC (show i<as.length by omega)
   have ha4:=e04.at ha
   have hb4:=e04.at hb
   have hd4:=e04.at hd
   have hc4:=(hR.same e04).2 _ _ hc
   have hat1:atI (as.map V.ref) (i:Int)=some (.ref c):=zU (by rw[yf,hc];rfl)
   have hat2:atI (zP n (stp ds l)) (i:Int)=some (.int (ρ:Int)):=by rw[<- show zaX (stp ds l i)=.int (ρ:Int) by rw[hρ];rfl];exact zU (zas (by omega))
   obtain⟨v2,hv2⟩:=zC (show i<us.length by omega)
   obtain⟨g2,y2,rfl,h1,h2⟩:=(hu.same e04).get hv2
   rw[yf,y4 (by omega)]at h1
   cases h1
   have hat3:atI us (i:Int)=some (.ref g2):=zU hv2
   walk_at "x"
   rename_i sl H5 fsl e5 hsl
   have hcut:zeE ((vec 3 (zH ds i)).map V.int) none (some ((ρ:Int)+1))=(vec (ρ+1) (zH ds i)).map V.int:=by
    obtain rfl | rfl | rfl:ρ=0\/ρ=1\/ρ=2:=by omega
    all_goals rfl
   rw[hcut]at hsl
   refine zgi (SqL.of hsl) ?_
   rw[zdI]
   have hend:zbu ds l i=((zbF (zH ds i) (ρ+1):Int):Rat):=zeY hρ
   have hnz:(r i).num≠0:=by omega
   walk_at "x"
   refine zaP (q:=zbu ds l i) ⟨by rw[hend];rfl,by rw[hend];rfl⟩ ?_
   intro t2 H6 e6 ht2
   have e46:=e5.trans e6
   have hd6:=e46.at hd4
   have h26:=e46.isQ h2
   have hg6:=e46.isQ hg4
   clear e46
   cases hro:zad ds l r i with
   | none=>
    rw[hro]at hv ero
    subst hv
    have z7:SzQ ((zbu ds l i-l i)/r i) 60000 60000:=z6
    walk_at "x"
    all_goals first | (exfalso;contradiction) | skip
    ·rename_i p1 H7 e7 hp1 p2 H8 e8 hp2 _
     refine⟨_,_,_,_,_,rfl,?_,((e04.trans e5).trans e6).trans (e7.trans e8)⟩
     rw[ero];exact⟨_,rfl,hp2⟩
   | some x=>
    rw[hro]at hv ero
    obtain⟨p,rfl,hp⟩:=hv
    have hp6:=((e4.trans e5).trans e6).isQ hp
    have hzx:SzQ x 60000 60000:=by
     obtain⟨⟨j,hj,hj2,rfl⟩,_⟩:=zbR hro
     exact(hz j (by omega) hj2).2.2.2.2.2
    have z7:SzQ ((zbu ds l i-l i)/r i) 60000 60000:=z6
    walk_at "x"
    all_goals first | (exfalso;contradiction) | skip
    ·rename_i p1 H7 e7 hp1 p2 H8 e8 hp2 _ hlt
     refine⟨_,_,_,_,_,rfl,?_,((e04.trans e5).trans e6).trans (e7.trans e8)⟩
     have hlt':zaf ds l r i<x:=hlt
     rw[ero]
     dsimp only
     rw[if_pos hlt'];exact⟨_,rfl,hp2⟩
    ·rename_i p1 H7 e7 hp1 p2 H8 e8 hp2 _ hlt
     refine⟨_,_,_,_,_,rfl,?_,((e04.trans e5).trans e6).trans (e7.trans e8)⟩
     have hlt':¬zaf ds l r i<x:=hlt
     rw[ero]
     dsimp only
     rw[if_neg hlt'];exact⟨_,rfl,(e7.trans e8).isQ hp6⟩
  ·rename_i hpos
   rw[if_neg fun z=>hpos (en.mp z)]at ero
   refine⟨_,_,_,_,_,rfl,?_,e3.trans e4⟩
   rw[ero]
   cases hro:zad ds l r i with
   | none=>rw[hro]at hv;exact hv
   | some x=>rw[hro]at hv;obtain⟨p,rfl,hp⟩:=hv;exact⟨p,rfl,e4.isQ hp⟩
 ·rintro σ' H3 ⟨v,f5,f6,f7,f8,rfl,hv,e3⟩
  rw[hwl]at hv
  walk_at "x"
  cases hro:zad ds l r n with
  | none=>rw[hro]at hv;rw[show v=.non from hv];exact q1 hro H3 e3
  | some x=>rw[hro]at hv;obtain⟨p,rfl,hp⟩:=hv;exact q2 x hro p H3 e3 hp
theorem zjv(T:Txt K mg):FnOk P w K mg base (CXF P w) 3 T.d_grown.a T.d_grown.fd ["lays", "rates", "step"] (zj0 K):=by
 refine T.d_grown.F.okN zny (fun vs H Q E h=>?_) (fun cdv A outer s H vs Q E hr h=>?_)
 ·obtain⟨d,e,s,n,l,r,t,us,ws,rfl,_⟩:=h;rfl
 obtain⟨d,e,s,n,l,r,t,us,ws,rfl,hd,hu,he,hw,hs,h9,z0,hz,k⟩:=h
 have hwl:=hw.length
 rw[yc,yy]at hwl
 have hul:=hu.length
 rw[yc,yy]at hul
 refine⟨_,(zj (zw (zaw rfl (show PI _ _ _ (zna K _)from zl2 rfl T.z_zip (za (pv 0) (za (pv 1) zf))) (zF (Ni:=["lay", "rate", "step"]) (caps:=[none,none,some 2]) (by rfl)) (fun S _ _ _ _ _=>(show PG _ _ (zbr K 2 _)from zaL (n:=2) rfl (zK (zJ (gi:=0) S (Or.inl rfl) rfl) (zK (zJ (gi:=1) S (Or.inl rfl) rfl) zav)))) (fun _ _ _ _ _=>zV) (fun _ _ _ _ _=>(zm (zgL T) (hr.mono (by decide)) rfl T.d_plus.m T.d_plus.F.kp T.d_plus.b .nil (zy zt) (za (pv 0) (za (zm (zeD T) (hr.mono (by decide)) rfl T.d_times.m T.d_times.F.kp T.d_times.b .nil (zy zt) (za (pv 1) (za (pv 2) zf))) zf))))))),?_⟩
 refine zI (σ0:=[some (.ref d),some (.ref e),some (.ref s)]) rfl ?_
 walk_at "x"
 refine zbC (zka (K:=K) (a:=d) (b:=e) (xs:=us) (ys:=ws)) (fun H' e=>⟨SqL.of (e.at hd),SqL.of (e.at he)⟩) rfl (fun i vs H'=>IsQs H' vs ((List.range i).map fun i=>l i+r i*t)) (fun H' _=>trivial) ?_ ?_
 ·rintro i x D vs o o' H3 H4 hi hD e3 hv hvl hQ e4 ⟨p,v,w',rfl,hx,hy,htt⟩
  have hi':i<n:=by omega
  obtain⟨g1,y1,rfl,h1,h2⟩:=(hu.same (e3.trans e4)).get hx
  obtain⟨g2,y2,rfl,h3,h4⟩:=(hw.same (e3.trans e4)).get hy
  rw[yf,y4 hi']at h1 h3
  cases h1
  cases h3
  have hs4:=(e3.trans e4).isQ hs
  obtain⟨o1,o2,o3⟩:=hz i hi'
  walk_at "x"
  rename_i p1 H5 e5 hp1 p2 H6 e6 hp2 H7 b7 h7
  refine⟨⟨_,_,rfl⟩,b7.same (((e3.trans e4).trans e5).trans e6) hD,_,h7,by rw[ya];exact ym hvl,?_⟩
  show IsQs H7 _ ((List.range (i+1)).map _)
  rw[yG,yl,yY]
  exact IsQs.app (LBut.isQ b7 hp2) (LBut.isQs b7 (hQ.same ((e4.trans e5).trans e6)))
 ·rintro D H3 vs hD e3 hv hvl hQ
  rw[show min us.length ws.length=n by omega]at hQ
  exact k D H3 vs hD e3 hv hQ
theorem zgg(T:Txt K mg):FnOk P w K mg base (CXF P w) 5 T.d_cleared.a T.d_cleared.fd ["sheet", "purses"] (zhs K):=by
 refine T.d_cleared.F.okN sc_cleared (fun vs H Q E h=>?_) (fun cdv A outer s H vs Q E hr h=>?_)
 ·obtain⟨a,u,n,ds,ps,W,P,rfl,_⟩:=h;rfl
 obtain⟨a,u,n,ds,ps,W,P,rfl,hS,hu,C,k⟩:=h
 have hpl:(ps.map V.int).length=n:=by rw[yc];exact C.pl
 have hd':∀d∈ds,zA ((ps.map V.int).length:Int) d:=by rw[hpl];exact C.hd
 have h9:=C.n9
 refine⟨_,(zh (zp (i:=2) sc_cleared.nd rfl (Or.inr rfl) (zm (zhm T) (hr.mono (by decide)) rfl T.d_ranked.m T.d_ranked.F.kp T.d_ranked.b .nil (zy zt) (za (zN (show CallR _ _ (za7 K)from zZ) rfl T.z_len BT.len (za (pv 1) zf)) (za (pv 0) zf))))
 (zh (zaW (i:=3) sc_cleared.nd rfl rfl rfl (show PI _ _ _ (zaA K _)from z8 (pv 1)) (zF (Ni:=["purse"]) (caps:=[none]) (by rfl)) (fun S _ _ _ _ _=>(zJ (gi:=0) S (Or.inl rfl) rfl)) (fun _ _ _ _ _=>zV) (fun _ _ _ _ _=>(zah (za ze (za ze zf)))))
 (zh (zp (i:=4) sc_cleared.nd rfl (Or.inl rfl) (zah (za ze (za ze zf))))
 (zj (zde PassesOwn.never (show PT _ _ (zb0 K _)from zac zbI (fun _=>rfl))
 (zh (zaW (i:=5) sc_cleared.nd rfl rfl rfl (show PI _ _ _ (zcd K _)from zbc rfl T.z_enumerate (za (pv 3) zf)) (zF (Ni:=["member", "lay", "owed"]) (caps:=[none,none,some 2]) (by rfl)) (fun S _ _ _ _ _=>(show PG _ _ (zbr K 2 _)from zaL (n:=2) rfl (zK (zJ (gi:=0) S (Or.inl rfl) rfl) (zK (zJ (gi:=1) S (Or.inl rfl) rfl) zav)))) (fun _ _ _ _ _=>zV) (fun _ _ _ _ _=>(zm (zgz T) (hr.mono (by decide)) rfl T.d_stop_of.m T.d_stop_of.F.kp T.d_stop_of.b .nil (zy zt) (za (zl (show IxR _ (rIx K)from zk) (pv 2) (pv 0) (fun _ _=>rfl)) (za (pv 1) zf)))))
 (zh (zp (i:=6) sc_cleared.nd rfl (Or.inl rfl) (zm (zjV T) (hr.mono (by decide)) rfl T.d_flows_of.m T.d_flows_of.F.kp T.d_flows_of.b .nil (zy zt) (za (pv 0) (za (pv 5) zf))))
 (zh (zp (i:=7) sc_cleared.nd rfl (Or.inl rfl) (zm (zf7 T) (hr.mono (by decide)) rfl T.d_closed_circle.m T.d_closed_circle.F.kp T.d_closed_circle.b .nil (zy zt) (za (pv 6) (za (pv 5) zf))))
 (zj (zO (zB (show OpR _ (compareOp .NotEq) (zbM K)from zb5 hr.units) (pv 7) (zaC zf) (nomark _))
 (zh (zp (i:=8) sc_cleared.nd rfl (Or.inl rfl) (zm (zfB T) (hr.mono (by decide)) rfl T.d_circling_rates.m T.d_circling_rates.F.kp T.d_circling_rates.b .nil (zy zt) (za (pv 6) (za (pv 7) zf))))
 (zj (zp (i:=3) sc_cleared.nd rfl (Or.inl rfl) (zm (zjv T) (hr.mono (by decide)) rfl T.d_grown.m T.d_grown.F.kp T.d_grown.b .nil (zy zt) (za (pv 3) (za (pv 8) (za (zm (zeP T) (hr.mono (by decide)) rfl T.d_least_room.m T.d_least_room.F.kp T.d_least_room.b .nil (zy zt) (za (pv 2) (za (pv 5) (za (pv 3) (za (pv 8) zf))))) zf)))))))
 (zj (zO (zB (show OpR _ (compareOp .Eq) (zaE K)from zar hr.units) (pv 4) (zah (za ze (za ze zf))) (nomark _))
 (zj (zw (pv 3)))
 (zh (zp (i:=8) sc_cleared.nd rfl (Or.inl rfl) (zm (zf8 T) (hr.mono (by decide)) rfl T.d_opening_rates.m T.d_opening_rates.F.kp T.d_opening_rates.b .nil (zy zt) (za (pv 6) (za (pv 5) (za (pv 1) zf)))))
 (zh (zp (i:=9) sc_cleared.nd rfl (Or.inl rfl) (zm (zeP T) (hr.mono (by decide)) rfl T.d_least_room.m T.d_least_room.F.kp T.d_least_room.b .nil (zy zt) (za (pv 2) (za (pv 5) (za (pv 3) (za (pv 8) zf))))))
 (zh (zp (i:=10) sc_cleared.nd rfl (Or.inl rfl) (zm (zjB T) (hr.mono (by decide)) rfl T.d_minus.m T.d_minus.F.kp T.d_minus.b .nil (zy zt) (za (zah (za ze (za ze zf))) (za (pv 4) zf))))
 (zh (zp (i:=9) sc_cleared.nd rfl (Or.inl rfl) (zdP (zB zel (pv 9) zaZ (nomark _)) (pv 10) (zm (zi3 T) (hr.mono (by decide)) rfl T.d_least.m T.d_least.F.kp T.d_least.b .nil (zy zt) (za (pv 9) (za (pv 10) zf)))))
 (zh (zp (i:=3) sc_cleared.nd rfl (Or.inl rfl) (zm (zjv T) (hr.mono (by decide)) rfl T.d_grown.m T.d_grown.F.kp T.d_grown.b .nil (zy zt) (za (pv 3) (za (pv 8) (za (pv 9) zf)))))
 (zj (zp (i:=4) sc_cleared.nd rfl (Or.inl rfl) (zm (zgL T) (hr.mono (by decide)) rfl T.d_plus.m T.d_plus.F.kp T.d_plus.b .nil (zy zt) (za (pv 4) (za (pv 9) zf)))))))))))))))))))))),?_⟩
 refine zI (σ0:=[some (.ref a),some (.ref u),none,none,none,none,none,none,none,none,none]) rfl ?_
 walk_at "x"
 rename_i ow H1 as fow e1 how hal hR hF
 have hu1:=e1.at hu
 rw[yw,hpl]at hal
 refine zR (zaq (K:=K) (a:=u) (xs:=ps.map V.int)) (fun H' e=>SqL.of (e.at hu1)) rfl (fun i vs H'=>IsQs H' vs ((List.range i).map fun _=>(0:Rat))) (fun H' _=>trivial) ?_ ?_
 ·rintro i x D vs o H2 H3 hi hD e2 hv hvl hQ e3 hx
  rw[hpl]at hi
  walk_at "x"
  refine zaP (q:=(0:Rat)) ⟨rfl,rfl⟩ ?_
  intro p H4 e4 hp
  have hv4:=(e3.trans e4).at hv
  walk_at "x"
  rename_i H5 b5 h5
  refine⟨⟨_,rfl⟩,b5.same ((e2.trans e3).trans e4) hD,_,h5,by rw[ya];exact ym hvl,?_⟩
  show IsQs H5 _ ((List.range (i+1)).map _)
  rw[yG,yl,yY]
  exact IsQs.app (LBut.isQ b5 hp) (LBut.isQs b5 (hQ.same (e3.trans e4)))
 rintro la H2 vs fla e2 hla hvl hQ
 rw[hpl]at hQ
 walk_at "x"
 refine zaP (q:=(0:Rat)) ⟨rfl,rfl⟩ ?_
 intro op H3 e3 hop
 walk_at "x"
 have hdn:∀d∈ds,zA (n:Int) d:=C.hd
 refine⟨fun m σ H'=>∃(k:Nat) (la op:Addr) (ws:List V) (f5 f6 f7 f8 f9 f10:Option V),σ=[some (.ref a),some (.ref u),some (.ref ow),some (.ref la),some (.ref op),f5,f6,f7,f8,f9,f10]/\H' la=some (.lst ws)/\IsQs H' ws ((List.range n).map (cst n ds (pQ ps) k).1)/\IsQ H' op (cst n ds (pQ ps) k).2/\H la=none/\Same H1 H'/\COk n ds (pQ ps) (Dt.prodN (fun _=>W) n*P*W) k (cst n ds (pQ ps) k).1 (cst n ds (pQ ps) k).2/\(∀j,j<k->¬zc8 n ds (cst n ds (pQ ps) j).1 (cst n ds (pQ ps) j).2)/\m=zcw n ds+1-k,⟨_,0,la,op,vs,_,_,_,_,_,_,rfl,e3.at hla,hQ.same e3,hop,Same.none fla e1,e2.trans e3,cok0 hdn _,fun j hj=>absurd hj (yaA _),rfl⟩,?_⟩
 clear hop hla hQ hvl e3 e2 fla la op vs H2 H3
 rintro m σ H2 ⟨kk,la,op,ws,f5,f6,f7,f8,f9,f10,rfl,hla,hQ,hop,fla,e2,hC,hnf,rfl⟩
 obtain⟨l,hl⟩:∃l,(cst n ds (pQ ps) kk).1=l:=⟨_,rfl⟩
 obtain⟨t,ht⟩:∃t,(cst n ds (pQ ps) kk).2=t:=⟨_,rfl⟩
 rw[hl]at hQ hC
 rw[ht]at hop hC
 have hwl:=hQ.length
 rw[yc,yy]at hwl
 have hR2:=hR.same e2
 have how2:=e2.at how
 walk_at "x"
 have next:∀σ' H',(∃(la op:Addr) (ws:List V) (f5 f6 f7 f8 f9 f10:Option V),σ'=[some (.ref a),some (.ref u),some (.ref ow),some (.ref la),some (.ref op),f5,f6,f7,f8,f9,f10]/\H' la=some (.lst ws)/\IsQs H' ws ((List.range n).map (nxL n ds (pQ ps) l t))/\IsQ H' op (nxT n ds (pQ ps) l t)/\H la=none/\Same H1 H'/\Ans n ds (pQ ps) l/\¬zc8 n ds l t)->∃m',m'<zcw n ds+1-kk/\∃(k:Nat) (la op:Addr) (ws:List V) (f5 f6 f7 f8 f9 f10:Option V),σ'=[some (.ref a),some (.ref u),some (.ref ow),some (.ref la),some (.ref op),f5,f6,f7,f8,f9,f10]/\H' la=some (.lst ws)/\IsQs H' ws ((List.range n).map (cst n ds (pQ ps) k).1)/\IsQ H' op (cst n ds (pQ ps) k).2/\H la=none/\Same H1 H'/\COk n ds (pQ ps) (Dt.prodN (fun _=>W) n*P*W) k (cst n ds (pQ ps) k).1 (cst n ds (pQ ps) k).2/\(∀j,j<k->¬zc8 n ds (cst n ds (pQ ps) j).1 (cst n ds (pQ ps) j).2)/\m'=zcw n ds+1-k:=by
  rintro σ' H' ⟨la,op,ws,f5,f6,f7,f8,f9,f10,rfl,i1,i2,i3,i4,i5,i6,i7⟩
  have en1:(cst n ds (pQ ps) (kk+1)).1=nxL n ds (pQ ps) l t:=by show nxL n ds (pQ ps) (cst n ds (pQ ps) kk).1 (cst n ds (pQ ps) kk).2=_;rw[hl,ht]
  have en2:(cst n ds (pQ ps) (kk+1)).2=nxT n ds (pQ ps) l t:=by show nxT n ds (pQ ps) (cst n ds (pQ ps) kk).1 (cst n ds (pQ ps) kk).2=_;rw[hl,ht]
  have hC':=COk.step hdn C.p0 (fun i _=>⟨ps.getD i 0,rfl⟩) C.hP C.P1 (fun i hi=>C.hW l i hi) C.W1 hC i6 i7
  have hle:=hC'.le
  refine⟨zcw n ds+1-(kk+1),by omega,kk+1,la,op,ws,f5,f6,f7,f8,f9,f10,rfl,i1,by rw[en1];exact i2,by rw[en2];exact i3,i4,i5,by rw[en1,en2];exact hC',fun j hj=>?_,rfl⟩
  rcases yL (yW hj)with h | h
  ·exact hnf j h
  ·rw[h,hl,ht];exact i7
 refine⟨_,next,?_⟩
 clear next
 have hla2:=hla
 walk_at "x"
 refine zbC (zaV (K:=K) (a:=la) (xs:=ws)) (fun H' e=>SqL.of (e.at hla2)) rfl (fun j vs _=>vs=zP j (stp ds l)) (fun H' _=>rfl) ?_ ?_
 ·rintro j x D vs o o' H3 H4 hj hD e3 hv hvl rfl e4 ⟨tt,v,rfl,hx,htt⟩
  obtain⟨g,q,rfl,hq1,hq2⟩:=(hQ.same (e3.trans e4)).get hx
  rw[yf,y4 (by omega)]at hq1
  cases hq1
  have ht':H4 tt=some (.tup [.int (j:Int),.ref g]):=htt
  obtain⟨c,hc⟩:=zC (show j<as.length by omega)
  have hat:atI (as.map V.ref) (j:Int)=some (.ref c):=zU (by rw[yf,hc];rfl)
  have how4:=(e3.trans e4).at how2
  have hc4:=(hR2.same (e3.trans e4)).2 _ _ hc
  have hbd:∀r,r<3->0<=zH ds j r/\zH ds j r<=100000000000000:=fun r _=>by
   have:=zes (m:=j) (r:=r) ds fun d h=>⟨(hdn d h).2.2.2.2.2.2.2.1,C.ha d h⟩
   have:=C.hl
   omega
  have zq:SzQ (l j) 60000 60000:=(C.lay hC (by omega)).mono (by decide) (by decide)
  walk_at "x"
  rename_i H5 e5 H6 b6 h6
  refine⟨⟨_,_,rfl⟩,by walk_at "h",_,h6,by rw[ya];exact ym hvl,?_⟩
  dsimp only
  rw[zfb];rfl
 rintro ra H3 vs fra e3 hra hvl rfl
 rw[hwl]at hra
 have hS3:IsSh K H3 a ds:=by walk_at "h"
 walk_at "x"
 rename_i fl H4 bs ffl e4 hfl hbl hRf hFf ci H5 fci e5 hci em H6 fem e6 hem
 have hci':H5 ci=some (.lst (zax (crL n ds l))):=hci
 clear hci
 refine zpf (e6.at hci') hem ?_
 have ecr:zkG (crL n ds l)=[]↔crL n ds l=[]:=ya3
 have hfk:=zqS (l:=l) hdn C.ha C.hl
 have e46:=e5.trans e6
 have e36:=e4.trans e46
 have e26:=e3.trans e36
 have e16:=e2.trans e26
 have hfl6:=e46.at hfl
 have hRf6:=hRf.same e46
 have hci6:=e6.at hci'
 have hra6:=e36.at hra
 have hla6:=e26.at hla2
 have hQ6:=hQ.same e26
 have hop6:=e26.isQ hop
 have how6:=e26.at how2
 have hR6:=hR2.same e26
 have hu6:=e16.at hu1
 have e06:=e1.trans e16
 clear e46 e36 e26
 by_cases hc:crL n ds l=[]
 ·rw[decide_eq_true (ecr.mpr hc)]
  walk_at "x"
  refine zaP (q:=(1:Rat)) ⟨rfl,rfl⟩ ?_
  intro t1 H7 e7 ht1
  refine zqQ (e7.isQ hop6) ht1 ?_
  walk_at "x"
  ·rename_i h1
   refine k la H7 ws kk fla (e06.trans e7) (e7.at hla6) (by rw[hl];exact hQ6.same e7) ?_ hnf (by rw[hl,ht];exact hC)
   rw[hl,ht];exact⟨hc,h1⟩
  ·rename_i h1
   have nfin:¬zc8 n ds l t:=fun z=>h1 z.2
   walk_at "x"
   refine zdl ?_
   refine znG (e7.at hfl6) hbl (hRf6.same e7) (e7.at hra6) (e7.at hu6) C.pl C.pz' h9 hfk (zlY hdn hc) ?_
   intro rt H8 rs x frt e8 hrt hrs hxe hxz
   have hxo:zdi n ds (pQ ps) l (slL n ds l) x:=zn2 hxe
   have hans:Ans n ds (pQ ps) l:=by unfold Ans;rw[if_pos hc];exact⟨x,hxo⟩
   have er:(List.range n).map (zeb n (flI ds l) (slL n ds l) x)=(List.range n).map (rtF n ds (pQ ps) l):=yx fun i _=>zhB hdn hc hxo i
   have hrz:∀i,i<n->SzQ (rtF n ds (pQ ps) l i) 726 668:=fun i hi=>by rw[<- zhB (p:=pQ ps) hdn hc hxo i];exact zlZ hfk zdR hxz hi
   have hrs':IsQs H8 rs ((List.range n).map (rtF n ds (pQ ps) l)):=by rw[<- er];exact hrs
   have hrm:=C.rooms hC hrz
   have e78:=e7.trans e8
   have hla8:=e78.at hla6
   have hQ8:=hQ6.same e78
   have hop8:=e78.isQ hop6
   have e08:=e06.trans e78
   have e18:=e16.trans e78
   have ok1:OkQ (1:Rat):=(zdG (x:=1) zeW).ok (by decide) (by decide)
   have okt:OkQ t:=(C.top hC).ok (by decide) (by decide)
   have zsh:=C.shut hC
   have zsh6:SzQ (1-t) 60000 60000:=zsh.mono (by decide) (by decide)
   have how8:=e78.at how6
   have hR8:=hR6.same e78
   have hra8:=e78.at hra6
   clear e78
   walk_at "x"
   refine zdl ?_
   refine ziZ how8 hal hR8 hra8 hla8 hQ8 hrt hrs' h9 hrm ?_ ?_
   ·intro hno H9 e9
    have est':stF n ds (pQ ps) l t=1-t:=zmL hc hno
    have hop9:=e9.isQ hop8
    walk_at "x"
    refine zaP (q:=(1:Rat)) ⟨rfl,rfl⟩ ?_
    intro t2 H10 e10 ht2
    have hop10:=e10.isQ hop9
    walk_at "x"
    ·rename_i sh H11 e11 hsh _
     have e8x:=(e9.trans e10).trans e11
     have hgr:=C.grow hC hrz (zsh.mono (by decide) (by decide))
     walk_at "x"
     refine zd5 (e8x.at hla8) (hQ8.same e8x) (e8x.at hrt) (hrs'.same e8x) hsh h9 hgr.1 hgr.2 ?_
     intro gr Ha gs fgr ea hgra hgs
     have hopa:=(e8x.trans ea).isQ hop8
     have hspa:=ea.isQ hsh
     have oks:=hgr.1
     walk_at "x"
     rename_i np Hb eb hnp
     refine⟨gr,np,gs,_,_,_,_,_,_,rfl,eb.at hgra,?_,?_,Same.none fgr (e08.trans e8x),e18.trans ((e8x.trans ea).trans eb),hans,nfin⟩
     ·rw[show(List.range n).map (nxL n ds (pQ ps) l t)=(List.range n).map (fun i=>l i+rtF n ds (pQ ps) l i*(1-t))from yx fun i _=>by unfold nxL;rw[est',ybG]]
      exact hgs.same eb
     ·rw[show nxT n ds (pQ ps) l t=t+(1-t) by unfold nxT;rw[if_pos hc,est']]
      exact hnp
    ·contradiction
   ·intro q hq sp H9 e9 hsp
    have est:=zmR (t:=t) hc hq
    have zq:=C.stepz hC hrz hq
    have zq6:SzQ q 60000 60000:=zq.mono (by decide) (by decide)
    have hop9:=e9.isQ hop8
    walk_at "x"
    refine zaP (q:=(1:Rat)) ⟨rfl,rfl⟩ ?_
    intro t2 H10 e10 ht2
    have hop10:=e10.isQ hop9
    have hsp10:=e10.isQ hsp
    walk_at "x"
    ·contradiction
    ·rename_i sh H11 e11 hsh _ hlt
     have e8x:=(e9.trans e10).trans e11
     have est':stF n ds (pQ ps) l t=1-t:=by rw[est,if_pos hlt]
     have hgr:=C.grow hC hrz (zsh.mono (by decide) (by decide))
     walk_at "x"
     refine zd5 (e8x.at hla8) (hQ8.same e8x) (e8x.at hrt) (hrs'.same e8x) hsh h9 hgr.1 hgr.2 ?_
     intro gr Ha gs fgr ea hgra hgs
     have hopa:=(e8x.trans ea).isQ hop8
     have hspa:=ea.isQ hsh
     have oks:=hgr.1
     walk_at "x"
     rename_i np Hb eb hnp
     refine⟨gr,np,gs,_,_,_,_,_,_,rfl,eb.at hgra,?_,?_,Same.none fgr (e08.trans e8x),e18.trans ((e8x.trans ea).trans eb),hans,nfin⟩
     ·rw[show(List.range n).map (nxL n ds (pQ ps) l t)=(List.range n).map (fun i=>l i+rtF n ds (pQ ps) l i*(1-t))from yx fun i _=>by unfold nxL;rw[est',ybG]]
      exact hgs.same eb
     ·rw[show nxT n ds (pQ ps) l t=t+(1-t) by unfold nxT;rw[if_pos hc,est']]
      exact hnp
    ·rename_i sh H11 e11 hsh _ hlt
     have e8x:=(e9.trans e10).trans e11
     have est':stF n ds (pQ ps) l t=q:=by rw[est,if_neg hlt]
     have hsp11:=e11.isQ hsp10
     have hgr:=C.grow hC hrz (zq)
     walk_at "x"
     refine zd5 (e8x.at hla8) (hQ8.same e8x) (e8x.at hrt) (hrs'.same e8x) hsp11 h9 hgr.1 hgr.2 ?_
     intro gr Ha gs fgr ea hgra hgs
     have hopa:=(e8x.trans ea).isQ hop8
     have hspa:=ea.isQ hsp11
     have oks:=hgr.1
     walk_at "x"
     rename_i np Hb eb hnp
     refine⟨gr,np,gs,_,_,_,_,_,_,rfl,eb.at hgra,?_,?_,Same.none fgr (e08.trans e8x),e18.trans ((e8x.trans ea).trans eb),hans,nfin⟩
     ·rw[show(List.range n).map (nxL n ds (pQ ps) l t)=(List.range n).map (fun i=>l i+rtF n ds (pQ ps) l i*(q))from yx fun i _=>by unfold nxL;rw[est',ybG]]
      exact hgs.same eb
     ·rw[show nxT n ds (pQ ps) l t=t+(q) by unfold nxT;rw[if_pos hc,est']]
      exact hnp
 ·rw[decide_eq_false (fun z=>hc (ecr.mp z))]
  have hCk:=Rc.circle_ok hc
  have hc1:1<=(crL n ds l).length:=by
   have:(crL n ds l).length≠0:=fun z=>hc (yX z)
   omega
  have hc9:(crL n ds l).length<=9:=yh (Rc.len_le hCk.nd hCk.lt) h9
  walk_at "x"
  refine zng hfl6 hbl hRf6 hci6 hCk.lt hCk.nd hc1 hc9 h9 hfk (zn0 hdn hc) ?_
  intro rt H7 rs x frt e7 hrt hrs hxe hxz
  have hxc:=zno hxe
  have hans:Ans n ds (pQ ps) l:=by unfold Ans;rw[if_neg hc];exact⟨x,hxc⟩
  have er:(List.range n).map (zeb n (flI ds l) (crL n ds l) x)=(List.range n).map (rtF n ds (pQ ps) l):=yx fun i _=>zi7 hdn hc hxc i
  have hrz:∀i,i<n->SzQ (rtF n ds (pQ ps) l i) 726 668:=fun i hi=>by rw[<- zi7 (p:=pQ ps) hdn hc hxc i];exact zlZ hfk hCk.nd hxz hi
  have hrs':IsQs H7 rs ((List.range n).map (rtF n ds (pQ ps) l)):=by rw[<- er];exact hrs
  have hrm:=C.rooms hC hrz
  obtain⟨st,hst⟩:=C.cirRoom hC hans hc
  have hgr:=C.grow hC hrz (C.stepz hC hrz hst)
  have est:stF n ds (pQ ps) l t=st:=by unfold stF;rw[if_neg hc,hst];rfl
  walk_at "x"
  refine zdl ?_
  refine ziZ (e7.at how6) hal (hR6.same e7) (e7.at hra6) (e7.at hla6) (hQ6.same e7) hrt hrs' h9 hrm (fun z=>by rw[hst]at z;cases z) ?_
  intro y hy sp H8 e8 hsp
  rw[hst]at hy
  cases hy
  have e78:=e7.trans e8
  walk_at "x"
  refine zd5 (e78.at hla6) (hQ6.same e78) (e8.at hrt) (hrs'.same e8) hsp h9 hgr.1 hgr.2 ?_
  intro gr H9 gs fgr e9 hgr9 hgs
  walk_at "x"
  refine⟨gr,op,gs,_,_,_,_,_,_,rfl,hgr9,?_,?_,Same.none fgr (e06.trans e78),e16.trans (e78.trans e9),hans,fun z=>hc z.1⟩
  ·rw[show(List.range n).map (nxL n ds (pQ ps) l t)=(List.range n).map (fun i=>l i+rtF n ds (pQ ps) l i*st)from yx fun i _=>by unfold nxL;rw[est,ybG]]
   exact hgs
  ·rw[show nxT n ds (pQ ps) l t=t from if_neg hc]
   exact(e78.trans e9).isQ hop6
theorem zns(T:Txt K mg):FnOk P w K mg base (CXF P w) 3 T.d_stops.a T.d_stops.fd ["sheet", "lays"] (zfA K):=by
 refine T.d_stops.F.okN sc_stops (fun vs H Q E h=>?_) (fun cdv A outer s H vs Q E hr h=>?_)
 ·obtain⟨a,y,ds,ws,qs,rfl,_⟩:=h;rfl
 obtain⟨a,y,ds,ws,qs,rfl,h,hd,hl,hy,hq,h9,hs,k⟩:=h
 have hwl:=hq.length
 have hdo:∀d∈ds,zA (ws.length:Int) d:=by rw[hwl];exact fun d h=>(hd d h).1
 refine⟨_,(zh (zp (i:=2) sc_stops.nd rfl (Or.inr rfl) (zm (zhm T) (hr.mono (by decide)) rfl T.d_ranked.m T.d_ranked.F.kp T.d_ranked.b .nil (zy zt) (za (zN (show CallR _ _ (za7 K)from zZ) rfl T.z_len BT.len (za (pv 1) zf)) (za (pv 0) zf))))
 (zj (zw (zaw rfl (show PI _ _ _ (zcd K _)from zbc rfl T.z_enumerate (za (pv 1) zf)) (zF (Ni:=["member", "lay", "owed"]) (caps:=[none,none,some 2]) (by rfl)) (fun S _ _ _ _ _=>(show PG _ _ (zbr K 2 _)from zaL (n:=2) rfl (zK (zJ (gi:=0) S (Or.inl rfl) rfl) (zK (zJ (gi:=1) S (Or.inl rfl) rfl) zav)))) (fun _ _ _ _ _=>zV) (fun _ _ _ _ _=>(zm (zgz T) (hr.mono (by decide)) rfl T.d_stop_of.m T.d_stop_of.F.kp T.d_stop_of.b .nil (zy zt) (za (zl (show IxR _ (rIx K)from zk) (pv 2) (pv 0) (fun _ _=>rfl)) (za (pv 1) zf)))))))),?_⟩
 refine zI (σ0:=[some (.ref a),some (.ref y),none]) rfl ?_
 walk_at "x"
 rename_i su H1 as fsu e1 hsu hal hR hF
 rw[yw]at hal
 have hq1:=hq.same e1
 have hy1:=e1.at hy
 refine zbC (zaV (K:=K) (a:=y) (xs:=ws)) (fun H' e=>SqL.of (e.at hy1)) rfl (fun i vs _=>vs=zP i fun m=>zae (zH ds m) (qs.getD m 0) 3) (fun H' _=>rfl) ?_ ?_
 ·rintro i x D vs o o' H2 H3 hi hD e2 hv hvl rfl e3 ⟨t,v,rfl,hx,ht⟩
  obtain⟨b,q,rfl,hqi,hb⟩:=(hq1.same (e2.trans e3)).get hx
  have ht':H3 t=some (.tup [.int (i:Int),.ref b]):=ht
  obtain⟨c,hc⟩:=zC (show((i:Int)).toNat<as.length by omega)
  have hrow:=(hR.same (e2.trans e3)).2 _ _ hc
  rw[yw]at hrow
  have hf:∀j,j<3->0<=zH ds i j/\zH ds i j<=100000000000000:=fun j _=>by
   have:=zes (m:=i) (r:=j) ds fun d h=>⟨(hd d h).1.2.2.2.2.2.2.2.1,(hd d h).2⟩
   omega
  have hsq:=hs q (yb hqi)
  have hsu3:H3 su=some (.lst (as.map V.ref)):=(e2.trans e3).at hsu
  have hqd:qs.getD i 0=q:=by rw[yg,hqi];rfl
  walk_at "x"
  rename_i H4 e4 H5 b5 h5
  refine⟨⟨_,_,rfl⟩,by walk_at "h",_,h5,by rw[ya];exact ym hvl,?_⟩
  dsimp only
  rw[zfb,hqd]
 ·rintro D H2 vs hD e2 hv hvl rfl
  rw[hwl]at hv
  exact k D H2 (Same.none hD e1) (e1.trans e2) hv
theorem zjK(T:Txt K mg):FnOk P w K mg base (CXF P w) 6 T.d_safe_cut.a T.d_safe_cut.fd ["sheet", "purses"] (zml K):=by
 refine T.d_safe_cut.F.okN sc_safe_cut (fun vs H Q E h=>?_) (fun cdv A outer s H vs Q E hr h=>?_)
 ·obtain⟨a,u,n,ds,ps,W,P,rfl,_⟩:=h;rfl
 obtain⟨a,u,n,ds,ps,W,P,rfl,⟨xs,hS,hT⟩,hu,C,n1,k⟩:=h
 have hxl:=hT.length
 have hSh:IsSh K H a ds:=⟨xs,hS,hT⟩
 have h64:=C.hl
 have n9:=C.n9
 have hpl:=C.pl
 have hdn:=C.hd
 refine⟨_,(zh (zp (i:=2) sc_safe_cut.nd rfl (Or.inr rfl) (zm (zns T) (hr.mono (by decide)) rfl T.d_stops.m T.d_stops.F.kp T.d_stops.b .nil (zy zt) (za (pv 0) (za (zm (zgg T) (hr.mono (by decide)) rfl T.d_cleared.m T.d_cleared.F.kp T.d_cleared.b .nil (zy zt) (za (pv 0) (za (pv 1) zf))) zf))))
 (zh (zp (i:=3) sc_safe_cut.nd rfl (Or.inr rfl) (zaw rfl (show PI _ _ _ (zaA K _)from z8 (pv 0)) (zF (Ni:=["due", "ranks"]) (caps:=[none,some 2]) (by rfl)) (fun S _ _ _ _ _=>(zJ (gi:=0) S (Or.inl rfl) rfl)) (fun _ _ _ _ _=>zV) (fun _ _ _ _ _=>(zl7 (zc9 zel (zl (show IxR _ (rIx K)from zk) (pv 1) (zl (show IxR _ (rIx K)from zk) (pv 0) ze (fun _ _=>rfl)) (fun _ _=>rfl)) zaZ (nomark _)) (zlm (zc9 zel (zl (show IxR _ (rIx K)from zk) (pv 1) (zl (show IxR _ (rIx K)from zk) (pv 0) ze (fun _ _=>rfl)) (fun _ _=>rfl)) zaZ (nomark _)))))))
 (zh (zp (i:=4) sc_safe_cut.nd rfl (Or.inl rfl) (zm (zeQ T) (hr.mono (by decide)) rfl T.d_amounts_of.m T.d_amounts_of.F.kp T.d_amounts_of.b .nil (zy zt) (za (pv 0) zf)))
 (zh (zaW (i:=5) sc_safe_cut.nd rfl rfl rfl (show PI _ _ _ (zcd K _)from zbc rfl T.z_enumerate (za (pv 4) zf)) (zF (Ni:=["number", "amount", "free"]) (caps:=[none,none,some 3]) (by rfl)) (fun S _ _ _ _ _=>(show PG _ _ (zbr K 2 _)from zaL (n:=2) rfl (zK (zJ (gi:=0) S (Or.inl rfl) rfl) (zK (zJ (gi:=1) S (Or.inl rfl) rfl) zav)))) (fun _ _ _ _ _=>zV) (fun _ _ _ _ _=>(zdP (show PT _ _ (zb0 K _)from zac (zl (show IxR _ (rIx K)from zk) (pv 2) (pv 0) (fun _ _=>rfl)) (fun _=>rfl)) (pv 1) ze)))
 (zh (zp (i:=6) sc_safe_cut.nd rfl (Or.inr rfl) (zl (show IxR _ (rIx K)from zk) (zm (zqx T) (hr.mono (by decide)) rfl T.d_cut.m T.d_cut.F.kp T.d_cut.b .nil (zy zt) (za (zN (show CallR _ _ (za7 K)from zZ) rfl T.z_len BT.len (za (pv 1) zf)) (za (zm (zd1 T) (hr.mono (by decide)) rfl T.d_with_amounts.m T.d_with_amounts.F.kp T.d_with_amounts.b .nil (zy zt) (za (pv 0) (za (pv 5) zf))) zf))) ze (fun _ _=>rfl)))
 (zj (zw (zaw rfl (show PI _ _ _ (zcd K _)from zbc rfl T.z_enumerate (za (pv 4) zf)) (zF (Ni:=["number", "amount", "free", "left"]) (caps:=[none,none,some 3,some 6]) (by rfl)) (fun S _ _ _ _ _=>(show PG _ _ (zbr K 2 _)from zaL (n:=2) rfl (zK (zJ (gi:=0) S (Or.inl rfl) rfl) (zK (zJ (gi:=1) S (Or.inl rfl) rfl) zav)))) (fun _ _ _ _ _=>zV) (fun _ _ _ _ _=>(zdP (show PT _ _ (zb0 K _)from zac (zl (show IxR _ (rIx K)from zk) (pv 2) (pv 0) (fun _ _=>rfl)) (fun _=>rfl)) (zl (show IxR _ (rIx K)from zk) (pv 3) (pv 0) (fun _ _=>rfl)) (pv 1))))))))))),?_⟩
 refine zI (σ0:=[some (.ref a),some (.ref u),none,none,none,none,none]) rfl ?_
 walk_at "x"
 refine zfI hSh hu C ?_
 intro la H1 wl kk fla e1 hla hwl hfin hnf hok
 have hwide:=C.wide hok
 have hql:(zcY n ds ps kk).length=n:=zga
 have hdq:∀d∈ds,zA ((zcY n ds ps kk).length:Int) d/\d.a<=1000000000000:=by rw[hql];exact fun d h=>⟨C.hd d h,C.ha d h⟩
 have hsq:∀q∈zcY n ds ps kk,SzQ q 60000 60000:=fun q hq=>(hwide q hq).2.mono (by decide) (by decide)
 have hSh1:=hSh.same e1
 walk_at "x"
 refine ze8 hSh1 hla hwl hdq h64 (show(zcY n ds ps kk).length<=9 by omega) hsq ?_
 intro st H2 fst e2 hst
 rw[zhN]at hst
 obtain⟨ρ,eρ⟩:∃ρ,ρ=stp ds (cst n ds (pQ ps) kk).1:=⟨_,rfl⟩
 obtain⟨full,ef⟩:∃full,full=zgj ds (cst n ds (pQ ps) kk).1:=⟨_,rfl⟩
 have hfu:∀m,(ρ m).isNone=full m:=fun m=>by rw[eρ,ef];rfl
 rw[<- eρ]at hst
 have hS2:SqL K H2 a xs:=hS.keep (e1.trans e2)
 have hT2:=hT.same (e1.trans e2)
 walk_at "x"
 refine zR (zaq (K:=K) (a:=a) (xs:=xs)) (fun H' e=>hS2.keep e) rfl (fun i vs _=>vs=blL i (za8 ds full)) (fun H' _=>rfl) ?_ ?_
 ·rintro i x D vs o H3 H4 hi hD e3 hv hvl rfl e4 hx
  obtain⟨b,d,rfl,hdi,hb⟩:=(hT2.same (e3.trans e4)).get hx
  have hb':H4 b=some (.tup [.int d.p,.int d.q,.int d.r,.int d.a]):=hb
  obtain⟨p0,p1,q0,q1,pq,r0,r1,a0,a1⟩:=hdn d (yb hdi)
  have hst4:=(e3.trans e4).at hst
  have at1:atI (zP n ρ) d.p=some (zaX (ρ d.p.toNat)):=zau p0 (zas (by omega))
  have at2:atI (zP n ρ) d.q=some (zaX (ρ d.q.toNat)):=zau q0 (zas (by omega))
  walk_at "x"
  ·rename_i hp H5 b5 h5
   have hp':(ρ d.p.toNat).isNone=true:=by rw[<- zbW];exact decide_eq_true hp
   have el:za8 ds full i=(ρ d.q.toNat).isNone:=by rw[zd8 hdi,<- hfu,<- hfu,hp',Bool.true_and]
   rw[zbW]at h5
   refine⟨⟨_,rfl⟩,by walk_at "h",_,h5,by rw[ya];exact ym hvl,?_⟩
   dsimp only
   rw[zis,el]
  ·rename_i hp H5 b5 h5
   have hp':(ρ d.p.toNat).isNone=false:=by rw[<- zbW];exact decide_eq_false hp
   have el:za8 ds full i=false:=by rw[zd8 hdi,<- hfu,hp',Bool.false_and]
   refine⟨⟨_,rfl⟩,by walk_at "h",_,h5,by rw[ya];exact ym hvl,?_⟩
   dsimp only
   rw[zis,el]
 rintro fr H3 vs ffr e3 hfr hvl rfl
 rw[hxl]at hfr
 have hSh3:IsSh K H3 a ds:=(hSh.same (e1.trans e2)).same e3
 walk_at "x"
 rename_i am H4 fam e4 ham
 rw[zkg]at ham
 have hbl:(blL ds.length (za8 ds full)).length=ds.length:=zoL
 refine zbC (zaV (K:=K) (a:=am) (xs:=(vec ds.length (amF ds)).map V.int)) (fun H' e=>SqL.of (e.at ham)) rfl (fun i vs _=>vs=(vec i (zaN ds full (amF ds))).map V.int) (fun H' _=>rfl) ?_ ?_
 ·rintro i x D vs o o' H5 H6 hi hD e5 hv hvl rfl e6 ⟨t,v,rfl,hx,ht⟩
  rw[yc,zaa]at hi
  rw[yf,zay hi]at hx
  cases hx
  have ht':H6 t=some (.tup [.int (i:Int),.int (amF ds i)]):=ht
  have hfr6:=(e4.trans (e5.trans e6)).at hfr
  have hat:atI (blL ds.length (za8 ds full)) (i:Int)=some (.bl (za8 ds full i)):=zU (zkc hi)
  walk_at "x"
  ·rename_i hp H7 b7 h7
   refine⟨⟨_,_,rfl⟩,by walk_at "h",_,h7,by rw[ya];exact ym hvl,?_⟩
   dsimp only
   rw[zcg,yl,show zaN ds full (amF ds) i=amF ds i from if_pos hp];rfl
  ·rename_i hp H7 b7 h7
   refine⟨⟨_,_,rfl⟩,by walk_at "h",_,h7,by rw[ya];exact ym hvl,?_⟩
   dsimp only
   rw[zcg,yl,show zaN ds full (amF ds) i=0 from if_neg (by rw[hp];decide)];rfl
 rintro wi H5 vs fwi e5 hwi hvl rfl
 rw[yc,zaa]at hwi
 have hSh5:IsSh K H5 a ds:=(hSh3.same e4).same e5
 have hu5:H5 u=some (.lst (ps.map V.int)):=(((e1.trans e2).trans e3).trans (e4.trans e5)).at hu
 have hvl':(vec ds.length (zaN ds full (amF ds))).length=ds.length:=zaa
 walk_at "x"
 rename_i wa H6 us fwa e6 hwa hus
 rw[ziC rfl]at hus
 refine zdl ?_
 refine zjZ (es:=zr ds (zaN ds full (amF ds))) ⟨us,SqL.of hwa,hus⟩ (by rw[yc,hpl];omega) (by rw[yc,hpl];omega) (by rw[zab];omega) (by rw[yc,hpl];exact zd7 hdn) ?_
 intro tp le cu H7 vs L cs ftp fle fcu e7 htp hle hcu hI hC hL0 hR hcl
 rw[yc,hpl,yw]at hC hR
 rw[zab]at hle
 have hSf:=zoS hdn hC hL0
 rw[zhL]at hR
 have e57:Same H4 H7:=e5.trans (e6.trans e7)
 have ham7:=e57.at ham
 have hfr7:H7 fr=some (.lst (blL ds.length (za8 ds full))):=(e4.trans e57).at hfr
 walk_at "x"
 refine zbC (zaV (K:=K) (a:=am) (xs:=(vec ds.length (amF ds)).map V.int)) (fun H' e=>SqL.of (e.at ham7)) rfl (fun i vs _=>vs=(vec i (zcR ds full (L cs.length))).map V.int) (fun H' _=>rfl) ?_ ?_
 ·rintro i x D vs o o' H8 H9 hi hD e8 hv hvl rfl e9 ⟨t,v,rfl,hx,ht⟩
  rw[yc,zaa]at hi
  rw[yf,zay hi]at hx
  cases hx
  have ht':H9 t=some (.tup [.int (i:Int),.int (amF ds i)]):=ht
  have hfr9:=(e8.trans e9).at hfr7
  have hle9:=(e8.trans e9).at hle
  have hat:atI (blL ds.length (za8 ds full)) (i:Int)=some (.bl (za8 ds full i)):=zU (zkc hi)
  have hatl:atI ((vec ds.length (L cs.length)).map V.int) (i:Int)=some (.int (L cs.length i)):=zU (by rw[yf,zay hi];rfl)
  walk_at "x"
  ·rename_i hp H10 b10 h10
   refine⟨⟨_,_,rfl⟩,by walk_at "h",_,h10,by rw[ya];exact ym hvl,?_⟩
   dsimp only
   rw[zcg,yl,show zcR ds full (L cs.length) i=L cs.length i from if_pos hp];rfl
  ·rename_i hp H10 b10 h10
   refine⟨⟨_,_,rfl⟩,by walk_at "h",_,h10,by rw[ya];exact ym hvl,?_⟩
   dsimp only
   rw[zcg,yl,show zcR ds full (L cs.length) i=amF ds i from if_neg (by rw[hp];decide)];rfl
 rintro D H8 vs hD e8 hv hvl rfl
 rw[yc,zaa]at hv
 have e08:Same H H7:=((e1.trans e2).trans e3).trans (e4.trans e57)
 rw[ef]at hv hSf
 refine k D H8 _ kk (Same.none hD e08) (e08.trans e8) hv hSf.1 ?_ ?_ hfin hnf hok
 ·rw[zbb hSf.2];exact hR
 ·intro hr i hi
  rw[<- ef]at hr
  have:=hC.none (zd7 hdn) hL0 hr
  subst this
  unfold zcR
  split
  ·rename_i z
   show L 0 i=_
   rw[hL0 i (by rw[zab];exact hi),ziK hi]
   rw[<- ef]at z
   exact if_pos z
  ·rfl
theorem zdA(T:Txt K mg):FnOk P w K mg base (CXF P w) 1 T.d__law_whole.a T.d__law_whole.fd ["_law_thing"] zke:=by
 refine T.d__law_whole.F.okN zh2 (fun vs H Q E h=>?_) (fun cdv A outer s H vs Q E hr h=>?_)
 ·obtain⟨x,rfl,_⟩:=h;rfl
 obtain⟨i,rfl,q⟩:=h
 refine⟨_,(zj (zw (zl7 (zN (show CallR _ _ (zcX K)from zdq) rfl T.z_isinstance BT.isinstance (za (pv 0) (za (zek (v:=.ty "int") rfl T.z_int BT.int rfl) zf))) (zlm (show PE _ _ (zkz K _)from zoA (zN (show CallR _ _ (zcX K)from zdq) rfl T.z_isinstance BT.isinstance (za (pv 0) (za (zek (v:=.ty "bool") rfl T.z_bool BT.bool rfl) zf)))))))),?_⟩
 refine zI (σ0:=[some (.int i)]) rfl ?_
 walk_at "x"
 exact q
theorem zeS(T:Txt K mg):FnOk P w K mg base (CXF P w) 1 T.d__law_cell.a T.d__law_cell.fd ["_law_script", "_law_k"] (ziF K):=by
 refine T.d__law_cell.F.okN zil (fun vs H Q E h=>?_) (fun cdv A outer s H vs Q E hr h=>?_)
 ·obtain⟨a,ns,k,rfl,_⟩:=h;rfl
 obtain⟨a,ns,k,rfl,hS,h0,q⟩:=h
 refine⟨_,(zh (zO (zB zcp (pv 1) (zN (show CallR _ _ (za7 K)from zZ) rfl T.z_len BT.len (za (pv 0) zf)) (nomark _))
 (zj (zw (zl (show IxR _ (rIx K)from zk) (pv 0) (pv 1) (fun _ _=>rfl))))
 zL)
 (zj (zw ze))),?_⟩
 refine zI (σ0:=[some (.ref a),some (.int k)]) rfl ?_
 walk_at "x"
 ·rename_i h
  exact zlc hS (zoE h0 h) q
 ·rename_i h
  rw[zmY h]at q
  exact q
theorem zQ(T:Txt K mg):FnOk P w K mg base (CXF P w) 2 T.d__law_draw.a T.d__law_draw.fd ["_law_script", "_law_k", "_law_prime", "_law_many_here"] (zgH K):=by
 refine T.d__law_draw.F.okN ziq (fun vs H Q E h=>?_) (fun cdv A outer s H vs Q E hr h=>?_)
 ·obtain⟨a,ns,k,p,m,rfl,_⟩:=h;rfl
 obtain⟨a,ns,k,p,m,rfl,hS,hz,h0,h1,hp,hm,q⟩:=h
 have hk:=zlg h0 h1
 have hk':=ybo h0 h0
 have hc:=hz.cell k
 refine⟨_,(zj (zw (zG zcr (zG zcr (zG (show OpR _ (binaryOp .Add) (zak K)from zT) (zG (show OpR _ (binaryOp .Add) (zak K)from zT) (zG z9 (zm (zeS T) (hr.mono (by decide)) rfl T.d__law_cell.m T.d__law_cell.F.kp T.d__law_cell.b .nil (zy zt) (za (pv 0) (za (pv 1) zf))) ze) (zG z9 (zG z9 ze (pv 1)) (pv 1))) ze) (pv 2)) (pv 3)))),?_⟩
 refine zI (σ0:=[some (.ref a),some (.int k),some (.int p),some (.int m)]) rfl ?_
 walk_at "x"
 exact q _ rfl (ya6 _ (by omega)) (yaN _ (by omega))
theorem zdC(T:Txt K mg):FnOk P w K mg base (CXF P w) 2 T.d__law_great.a T.d__law_great.fd ["_law_script", "_law_k", "_law_most_here"] (zfM K):=by
 refine T.d__law_great.F.okN sc__law_great (fun vs H Q E h=>?_) (fun cdv A outer s H vs Q E hr h=>?_)
 ·obtain⟨a,ns,k,m,rfl,_⟩:=h;rfl
 obtain⟨a,ns,k,m,rfl,hS,hz,h0,h1,hm,q⟩:=h
 have hk:=zlg h0 h1
 have hk':=ybo h0 h0
 have hc:=hz.cell k
 have hx:=zpy hc h0 h1
 have hB:sz 28269553036454149224292902704178252817674109380037990394614044720680140801<=244:=zbJ (by decide)
 refine⟨_,(zh (zp (i:=3) sc__law_great.nd rfl (Or.inl rfl) (zG (show OpR _ (binaryOp .Add) (zak K)from zT) (zG (show OpR _ (binaryOp .Add) (zak K)from zT) (zG z9 (zm (zeS T) (hr.mono (by decide)) rfl T.d__law_cell.m T.d__law_cell.F.kp T.d__law_cell.b .nil (zy zt) (za (pv 0) (za (pv 1) zf))) ze) (zG z9 (zG z9 ze (pv 1)) (pv 1))) ze))
 (zj (zw (zG zcr (zG z9 (pv 3) (zG zlP ze ze)) (zG (show OpR _ (binaryOp .Add) (zak K)from zT) (pv 2) ze))))),?_⟩
 refine zI (σ0:=[some (.ref a),some (.int k),some (.int m),none]) rfl ?_
 walk_at "x"
 have h2:=ya6 ((cell ns k*48271+7919*k*k+11)*28269553036454149224292902704178252817674109380037990394614044720680140801) (show m+1≠0 by omega)
 have h3:=yaN ((cell ns k*48271+7919*k*k+11)*28269553036454149224292902704178252817674109380037990394614044720680140801) (show 0<m+1 by omega)
 exact q _ h2 (by omega)
theorem zjr(T:Txt K mg):FnOk P w K mg base (CXF P w) 3 T.d__law_many.a T.d__law_many.fd ["_law_script"] (zgQ K):=by
 refine T.d__law_many.F.okN sc__law_many (fun vs H Q E h=>?_) (fun cdv A outer s H vs Q E hr h=>?_)
 ·obtain⟨a,ns,rfl,_⟩:=h;rfl
 obtain⟨a,ns,rfl,hS,hz,q⟩:=h
 refine⟨_,(zh (zp (i:=1) sc__law_many.nd rfl (Or.inl rfl) (zm (zQ T) (hr.mono (by decide)) rfl T.d__law_draw.m T.d__law_draw.F.kp T.d__law_draw.b .nil (zy zt) (za (pv 0) (za ze (za ze (za ze zf))))))
 (zh (zO (zB (show OpR _ (compareOp .Eq) (zaE K)from zar hr.units) (pv 1) ze (nomark _))
 (zj (zw ze))
 zL)
 (zh (zO (zB (show OpR _ (compareOp .Eq) (zaE K)from zar hr.units) (pv 1) ze (nomark _))
 (zj (zw ze))
 zL)
 (zj (zw (zG (show OpR _ (binaryOp .Add) (zak K)from zT) ze (zG zcr (zG (show OpR _ (binaryOp .Add) (zak K)from zT) (pv 1) (zm (zQ T) (hr.mono (by decide)) rfl T.d__law_draw.m T.d__law_draw.F.kp T.d__law_draw.b .nil (zy zt) (za (pv 0) (za ze (za ze (za ze zf)))))) ze))))))),?_⟩
 refine zI (σ0:=[some (.ref a),none]) rfl ?_
 walk_at "x"
 all_goals exact q _ (by omega) (by omega)
theorem zhV(T:Txt K mg):FnOk P w K mg base (CXF P w) 3 T.d__law_count.a T.d__law_count.fd ["_law_script", "_law_many_here"] (zf6 K):=by
 refine T.d__law_count.F.okN sc__law_count (fun vs H Q E h=>?_) (fun cdv A outer s H vs Q E hr h=>?_)
 ·obtain⟨a,ns,n,rfl,_⟩:=h;rfl
 obtain⟨a,ns,n,rfl,hS,hz,n0,n1,q⟩:=h
 have hn9:0<=n/9/\n/9<=1:=by omega
 have hp9:0<1+n/9:=by omega
 have hs9:sz (1+n/9)<=9000:=yh (sz200 (by omega) (by omega)) (by decide)
 refine⟨_,(zh (zp (i:=2) sc__law_count.nd rfl (Or.inl rfl) (zm (zQ T) (hr.mono (by decide)) rfl T.d__law_draw.m T.d__law_draw.F.kp T.d__law_draw.b .nil (zy zt) (za (pv 0) (za ze (za ze (za ze zf))))))
 (zh (zO (zB (show OpR _ (compareOp .Eq) (zaE K)from zar hr.units) (pv 1) ze (nomark _))
 (zj (zw ze))
 zL)
 (zh (zO (zB (show OpR _ (compareOp .Eq) (zaE K)from zar hr.units) (pv 2) ze (nomark _))
 (zj (zw (zG zaO (zm (zQ T) (hr.mono (by decide)) rfl T.d__law_draw.m T.d__law_draw.F.kp T.d__law_draw.b .nil (zy zt) (za (pv 0) (za ze (za ze (za ze zf))))) (zG (show OpR _ (binaryOp .Add) (zak K)from zT) ze (zG zaO (pv 1) ze)))))
 zL)
 (zh (zO (zB zcp (pv 2) ze (nomark _))
 (zj (zw (zm (zQ T) (hr.mono (by decide)) rfl T.d__law_draw.m T.d__law_draw.F.kp T.d__law_draw.b .nil (zy zt) (za (pv 0) (za ze (za ze (za ze zf)))))))
 zL)
 (zj (zw (zm (zQ T) (hr.mono (by decide)) rfl T.d__law_draw.m T.d__law_draw.F.kp T.d__law_draw.b .nil (zy zt) (za (pv 0) (za ze (za ze (za ze zf))))))))))),?_⟩
 refine zI (σ0:=[some (.ref a),some (.int n),none]) rfl ?_
 walk_at "x"
 all_goals first | exact q _ (by omega) (by omega) (fun _=>by omega) | skip
 all_goals
  rename_i y0 y1 y2
  have h4:=Int.ediv_nonneg y1 (yay hp9)
  have h5:_/(1+n/9)<=_:=Int.ediv_le_self (1+n/9) y1
  exact q _ h4 (by omega) (fun _=>by omega)
theorem zjj(T:Txt K mg):FnOk P w K mg base (CXF P w) 3 T.d__law_most.a T.d__law_most.fd ["_law_script", "_law_many_here", "_law_count_here"] (zg5 K):=by
 refine T.d__law_most.F.okN zjE (fun vs H Q E h=>?_) (fun cdv A outer s H vs Q E hr h=>?_)
 ·obtain⟨a,ns,n,c,rfl,_⟩:=h;rfl
 obtain⟨a,ns,n,c,rfl,hS,hz,q⟩:=h
 refine⟨_,(zh (zO (PW.pt (zbO (PW.pt (zcF (zB zcp (pv 2) ze (nomark _)) (zc2 (PW.pt (zbO (zB zcp (pv 1) ze (nomark _)) (zbL (zB zcp (pv 2) ze (nomark _)))))))) (zbL (zB (show OpR _ (compareOp .Eq) (zaE K)from zar hr.units) (zm (zQ T) (hr.mono (by decide)) rfl T.d__law_draw.m T.d__law_draw.F.kp T.d__law_draw.b .nil (zy zt) (za (pv 0) (za ze (za ze (za ze zf))))) ze (nomark _)))))
 (zj (zw (zG zlP ze ze)))
 zL)
 (zj (zw ze))),?_⟩
 refine zI (σ0:=[some (.ref a),some (.int n),some (.int c)]) rfl ?_
 walk_at "x"
 all_goals exact q _ (by omega) (by omega) (by omega)
theorem zgT(T:Txt K mg):FnOk P w K mg base (CXF P w) 3 T.d__law_amount.a T.d__law_amount.fd ["_law_script", "_law_k", "_law_most_here"] (zeV K):=by
 refine T.d__law_amount.F.okN sc__law_amount (fun vs H Q E h=>?_) (fun cdv A outer s H vs Q E hr h=>?_)
 ·obtain⟨a,ns,k,m,rfl,_⟩:=h;rfl
 obtain⟨a,ns,k,m,rfl,hS,hz,h0,h1,m0,m1,q⟩:=h
 refine⟨_,(zh (zp (i:=3) sc__law_amount.nd rfl (Or.inl rfl) (zm (zQ T) (hr.mono (by decide)) rfl T.d__law_draw.m T.d__law_draw.F.kp T.d__law_draw.b .nil (zy zt) (za (pv 0) (za (pv 1) (za ze (za ze zf))))))
 (zh (zO (PW.pt (zbO (zB zdF (pv 2) ze (nomark _)) (zbL (zB zdF (pv 3) ze (nomark _)))))
 (zj (zw (zm (zdC T) (hr.mono (by decide)) rfl T.d__law_great.m T.d__law_great.F.kp T.d__law_great.b .nil (zy zt) (za (pv 0) (za (pv 1) (za (pv 2) zf))))))
 zL)
 (zh (zO (zB (show OpR _ (compareOp .Eq) (zaE K)from zar hr.units) (pv 3) ze (nomark _))
 (zj (zw ze))
 zL)
 (zh (zO (zB zcp (pv 3) ze (nomark _))
 (zj (zw ze))
 zL)
 (zj (zw (zG (show OpR _ (binaryOp .Add) (zak K)from zT) ze (zm (zQ T) (hr.mono (by decide)) rfl T.d__law_draw.m T.d__law_draw.F.kp T.d__law_draw.b .nil (zy zt) (za (pv 0) (za (pv 1) (za ze (za ze zf)))))))))))),?_⟩
 refine zI (σ0:=[some (.ref a),some (.int k),some (.int m),none]) rfl ?_
 walk_at "x"
 all_goals exact q _ (by omega) (by omega) (by omega)
theorem zjT(T:Txt K mg):FnOk P w K mg base (CXF P w) 4 T.d__law_due.a T.d__law_due.fd ["_law_script", "_law_k", "_law_many_here", "_law_most_here"] (ziI K):=by
 refine T.d__law_due.F.okN sc__law_due (fun vs H Q E h=>?_) (fun cdv A outer s H vs Q E hr h=>?_)
 ·obtain⟨a,ns,k,n,m,rfl,_⟩:=h;rfl
 obtain⟨a,ns,k,n,m,rfl,hS,hz,h0,h1,n0,n1,m0,m1,q⟩:=h
 refine⟨_,(zh (zp (i:=4) sc__law_due.nd rfl (Or.inl rfl) (zm (zQ T) (hr.mono (by decide)) rfl T.d__law_draw.m T.d__law_draw.F.kp T.d__law_draw.b .nil (zy zt) (za (pv 0) (za ze (za ze (za ze zf))))))
 (zh (zp (i:=5) sc__law_due.nd rfl (Or.inl rfl) (zm (zQ T) (hr.mono (by decide)) rfl T.d__law_draw.m T.d__law_draw.F.kp T.d__law_draw.b .nil (zy zt) (za (pv 0) (za (zG (show OpR _ (binaryOp .Add) (zak K)from zT) ze (pv 1)) (za ze (za (pv 2) zf))))))
 (zh (zp (i:=6) sc__law_due.nd rfl (Or.inl rfl) (zG zcr (zG (show OpR _ (binaryOp .Add) (zak K)from zT) (zG (show OpR _ (binaryOp .Add) (zak K)from zT) (pv 5) ze) (zm (zQ T) (hr.mono (by decide)) rfl T.d__law_draw.m T.d__law_draw.F.kp T.d__law_draw.b .nil (zy zt) (za (pv 0) (za (zG (show OpR _ (binaryOp .Add) (zak K)from zT) ze (pv 1)) (za ze (za (zG zjd (pv 2) ze) zf)))))) (pv 2)))
 (zh (zp (i:=7) sc__law_due.nd rfl (Or.inl rfl) (zm (zQ T) (hr.mono (by decide)) rfl T.d__law_draw.m T.d__law_draw.F.kp T.d__law_draw.b .nil (zy zt) (za (pv 0) (za (zG (show OpR _ (binaryOp .Add) (zak K)from zT) ze (pv 1)) (za ze (za ze zf))))))
 (zfo (zO (zB (show OpR _ (compareOp .Eq) (zaE K)from zar hr.units) (pv 4) ze (nomark _))
 (zj (zp (i:=7) sc__law_due.nd rfl (Or.inl rfl) ze))
 zL)
 (zfo (zO (zB (show OpR _ (compareOp .Eq) (zaE K)from zar hr.units) (pv 4) ze (nomark _))
 (zj (zp (i:=7) sc__law_due.nd rfl (Or.inl rfl) (zG (show OpR _ (binaryOp .Add) (zak K)from zT) ze (zG zcr (pv 7) ze))))
 zL)
 (zfo (zO (PW.pt (zbO (zB (show OpR _ (compareOp .In) (rIn K false)from zht) (pv 4) (zah (za ze (za ze zf))) (by with_unfolding_all rfl)) (zbL (zB zcp (pv 1) (pv 2) (nomark _)))))
 (zh (zp (i:=5) sc__law_due.nd rfl (Or.inl rfl) (pv 1))
 (zh (zp (i:=6) sc__law_due.nd rfl (Or.inl rfl) (zG zcr (zG (show OpR _ (binaryOp .Add) (zak K)from zT) (pv 1) ze) (pv 2)))
 (zj (zp (i:=7) sc__law_due.nd rfl (Or.inl rfl) ze))))
 zL)
 (zj (zw (zah (za (pv 5) (za (pv 6) (za (pv 7) (za (zm (zgT T) (hr.mono (by decide)) rfl T.d__law_amount.m T.d__law_amount.F.kp T.d__law_amount.b .nil (zy zt) (za (pv 0) (za (zG (show OpR _ (binaryOp .Add) (zak K)from zT) ze (pv 1)) (za (pv 3) zf)))) zf)))))))))))))),?_⟩
 refine zI (σ0:=[some (.ref a),some (.int k),some (.int n),some (.int m),none,none,none,none]) rfl ?_
 walk_at "x"
 rename_i sh _ s0 s1 pa _ p0 p1 pe _ e0 e1 rk _ r0 r1
 have hpe:=ziL p0 p1 e0 e1
 refine ziy 7 (fun v H'=>∃r:Int,v=.int r/\0<=r/\r<3/\H=H') ?_ ?_
 ·walk_at "x"
  all_goals exact⟨_,rfl,_,rfl,by omega,by omega,rfl⟩
 rintro v _ ⟨r2,rfl,r20,r21,rfl⟩
 refine ziy 7 (fun v H'=>∃r:Int,v=.int r/\0<=r/\r<3/\H=H') ?_ ?_
 ·walk_at "x"
  all_goals exact⟨_,rfl,_,rfl,by omega,by omega,rfl⟩
 rintro v _ ⟨r3,rfl,r30,r31,rfl⟩
 refine zqF (fun σ' H'=>∃(p' q' r':Int),σ'=[some (.ref a),some (.int k),some (.int n),some (.int m),some (.int sh),some (.int p'),some (.int q'),some (.int r')]/\(0<=p'/\p'<n/\0<=q'/\q'<n/\p'≠q'/\0<=r'/\r'<3)/\Same H H') ?_ ?_
 ·walk_at "x"
  refine zdo (by first | decide | simp) fun tp H1 ftp e1 htp=>?_
  refine zqo htp ?_
  walk_at "x"
  ·rename_i hin hlt
   have hk:=ziL (p:=k) (t:=0) (n:=n) h0 hlt (by omega) (by omega)
   rw[Int.add_zero]at hk
   exact⟨_,_,_,rfl,⟨h0,hlt,hk.1,hk.2.1,hk.2.2,by omega,by omega⟩,e1⟩
  all_goals exact⟨_,_,_,rfl,⟨p0,p1,hpe.1,hpe.2.1,hpe.2.2,r30,r31⟩,e1⟩
 rintro σ' H1 ⟨p',q',r',rfl,⟨u1,u2,u3,u4,u5,u6,u7⟩,e1⟩
 walk_at "x"
 rename_i x x0 x1 x2 t H2 ft e2 h2
 exact q t H2 ⟨p',q',r',x⟩ (Same.none ft e1) (e1.trans e2) h2 ⟨u1,u2,u3,u4,u5,u6,u7,x0,by show x<=_;omega⟩ x1 x2
theorem zhS(T:Txt K mg):FnOk P w K mg base (CXF P w) 5 T.d__law_sheet.a T.d__law_sheet.fd ["_law_script", "_law_many_here", "_law_count_here", "_law_most_here"] (zfS K):=by
 refine T.d__law_sheet.F.okN zhZ (fun vs H Q E h=>?_) (fun cdv A outer s H vs Q E hr h=>?_)
 ·obtain⟨a,ns,n,c,m,rfl,_⟩:=h;rfl
 obtain⟨a,ns,n,c,m,rfl,hS,hz,n0,n1,c0,c1,nc,m0,m1,q⟩:=h
 refine⟨_,(zj (zw (zaw rfl (zan rfl T.z_range (za (pv 2) zf)) (zF (Ni:=["_law_k", "_law_script", "_law_many_here", "_law_most_here"]) (caps:=[none,some 0,some 1,some 3]) (by rfl)) (fun S _ _ _ _ _=>(zJ (gi:=0) S (Or.inl rfl) rfl)) (fun _ _ _ _ _=>zV) (fun _ _ _ _ _=>(zm (zjT T) (hr.mono (by decide)) rfl T.d__law_due.m T.d__law_due.F.kp T.d__law_due.b .nil (zy zt) (za (pv 1) (za (pv 0) (za (pv 2) (za (pv 3) zf))))))))),?_⟩
 refine zI (σ0:=[some (.ref a),some (.int n),some (.int c),some (.int m)]) rfl ?_
 walk_at "x"
 refine zR zbS (fun _ _=>trivial) rfl (fun i vs H'=>∃ds,IsTs zdz H' vs ds/\ds.length=i/\∀d∈ds,(zA n d/\d.a<=1000000000000)/\(m=0->d.a<=12)) (fun H' _=>⟨[],trivial,rfl,fun _ h=>nomatch h⟩) ?_ ?_
 ·rintro i x D vs o H3 H4 hi hD e3 hv hvl ⟨ds,hds,hdl,hdd⟩ e4 rfl
  have hn2:2<=n:=by
   rcases yaW n 2 with h | h
   ·have:=nc (by omega);omega
   ·exact h
  walk_at "x"
  rename_i t H5 d ft e5 h5 hd ha hg H6 b6 h6
  refine⟨⟨_,rfl⟩,by walk_at "h",_,h6,by rw[ya];exact ym hvl,ds++[d],IsTs.app (f:=zdz) (b6.tup h5) (by walk_at "h"),by rw[ya,hdl];rfl,fun y hy=>?_⟩
  rcases yT.mp hy with h | h
  ·exact hdd y h
  ·rw[yv.mp h];exact⟨⟨hd,ha⟩,hg⟩
 ·rintro D H3 vs hD e3 hv hvl ⟨ds,hds,hdl,hdd⟩
  exact q _ _ _ _ hD e3 hv hds (fun d h=>(hdd d h).1) hdl fun hm d h=>(hdd d h).2 hm
theorem zhT(T:Txt K mg):FnOk P w K mg base (CXF P w) 3 T.d__law_purse.a T.d__law_purse.fd ["_law_script", "_law_k", "_law_way", "_law_most_here"] (zfQ K):=by
 refine T.d__law_purse.F.okN sc__law_purse (fun vs H Q E h=>?_) (fun cdv A outer s H vs Q E hr h=>?_)
 ·obtain⟨a,ns,k,y,m,rfl,_⟩:=h;rfl
 obtain⟨a,ns,k,y,m,rfl,hS,hz,h0,h1,m0,m1,q⟩:=h
 refine⟨_,(zh (zp (i:=4) sc__law_purse.nd rfl (Or.inl rfl) (zm (zQ T) (hr.mono (by decide)) rfl T.d__law_draw.m T.d__law_draw.F.kp T.d__law_draw.b .nil (zy zt) (za (pv 0) (za (zG (show OpR _ (binaryOp .Add) (zak K)from zT) ze (pv 1)) (za ze (za ze zf))))))
 (zh (zO (PW.pt (zcF (zB (show OpR _ (compareOp .Eq) (zaE K)from zar hr.units) (pv 2) ze (nomark _)) (zcF (PW.pt (zbO (zB (show OpR _ (compareOp .Eq) (zaE K)from zar hr.units) (pv 2) ze (nomark _)) (zbL (zB zdF (pv 4) ze (nomark _))))) (zc2 (zB (show OpR _ (compareOp .Eq) (zaE K)from zar hr.units) (pv 4) ze (nomark _))))))
 (zj (zw ze))
 zL)
 (zh (zO (PW.pt (zbO (zB zdF (pv 3) ze (nomark _)) (zbL (zB (show OpR _ (compareOp .Eq) (zaE K)from zar hr.units) (pv 4) ze (nomark _)))))
 (zj (zw (zm (zdC T) (hr.mono (by decide)) rfl T.d__law_great.m T.d__law_great.F.kp T.d__law_great.b .nil (zy zt) (za (pv 0) (za (zG (show OpR _ (binaryOp .Add) (zak K)from zT) ze (pv 1)) (za (pv 3) zf))))))
 zL)
 (zh (zO (PW.pt (zbO (zB zdF (pv 3) ze (nomark _)) (zbL (zB (show OpR _ (compareOp .Eq) (zaE K)from zar hr.units) (pv 4) ze (nomark _)))))
 (zj (zw (zm (zdC T) (hr.mono (by decide)) rfl T.d__law_great.m T.d__law_great.F.kp T.d__law_great.b .nil (zy zt) (za (pv 0) (za (zG (show OpR _ (binaryOp .Add) (zak K)from zT) ze (pv 1)) (za (zG z9 ze (pv 3)) zf))))))
 zL)
 (zj (zw (zm (zQ T) (hr.mono (by decide)) rfl T.d__law_draw.m T.d__law_draw.F.kp T.d__law_draw.b .nil (zy zt) (za (pv 0) (za (zG (show OpR _ (binaryOp .Add) (zak K)from zT) ze (pv 1)) (za ze (za ze zf))))))))))),?_⟩
 refine zI (σ0:=[some (.ref a),some (.int k),some (.int y),some (.int m),none]) rfl ?_
 walk_at "x"
 all_goals exact q _ (by omega) (by omega)
theorem zhe(T:Txt K mg):FnOk P w K mg base (CXF P w) 4 T.d__law_purses.a T.d__law_purses.fd ["_law_script", "_law_many_here", "_law_most_here"] (zff K):=by
 refine T.d__law_purses.F.okN sc__law_purses (fun vs H Q E h=>?_) (fun cdv A outer s H vs Q E hr h=>?_)
 ·obtain⟨a,ns,n,m,rfl,_⟩:=h;rfl
 obtain⟨a,ns,n,m,rfl,hS,hz,n0,n1,m0,m1,q⟩:=h
 refine⟨_,(zh (zp (i:=3) sc__law_purses.nd rfl (Or.inr rfl) (zm (zQ T) (hr.mono (by decide)) rfl T.d__law_draw.m T.d__law_draw.F.kp T.d__law_draw.b .nil (zy zt) (za (pv 0) (za ze (za ze (za ze zf))))))
 (zj (zw (zaw rfl (zan rfl T.z_range (za (pv 1) zf)) (zF (Ni:=["_law_k", "_law_script", "_law_way", "_law_most_here"]) (caps:=[none,some 0,some 3,some 2]) (by rfl)) (fun S _ _ _ _ _=>(zJ (gi:=0) S (Or.inl rfl) rfl)) (fun _ _ _ _ _=>zV) (fun _ _ _ _ _=>(zm (zhT T) (hr.mono (by decide)) rfl T.d__law_purse.m T.d__law_purse.F.kp T.d__law_purse.b .nil (zy zt) (za (pv 1) (za (pv 0) (za (pv 2) (za (pv 3) zf)))))))))),?_⟩
 refine zI (σ0:=[some (.ref a),some (.int n),some (.int m),none]) rfl ?_
 walk_at "x"
 refine zR zbS (fun _ _=>trivial) rfl (fun i vs H'=>∃ps:List Int,vs=ps.map V.int/\ps.length=i/\zfz ps) (fun H' _=>⟨[],rfl,rfl,fun _ h=>nomatch h⟩) ?_ ?_
 ·rintro i x D vs o H3 H4 hi hD e3 hv hvl ⟨ps,rfl,hpl,hp⟩ e4 rfl
  walk_at "x"
  rename_i p p0 p1 H5 b5 h5
  refine⟨⟨_,rfl⟩,by walk_at "h",_,h5,by rw[ya];exact ym hvl,ps++[p],by rw[yl];rfl,by rw[ya,hpl];rfl,fun z hz=>?_⟩
  rcases yT.mp hz with h | h
  ·exact hp z h
  ·rw[yv.mp h];exact⟨p0,p1⟩
 ·rintro D H3 vs hD e3 hv hvl ⟨ps,rfl,hpl,hp⟩
  exact q _ _ _ hD e3 hv hpl hp
theorem zgw(T:Txt K mg):FnOk P w K mg base (CXF P w) 1 T.d__law_divisor.a T.d__law_divisor.fd ["_law_one", "_law_other"] zio:=by
 refine T.d__law_divisor.F.okN sc__law_divisor (fun vs H Q E h=>?_) (fun cdv A outer s H vs Q E hr h=>?_)
 ·obtain⟨a,b,rfl,_⟩:=h;rfl
 obtain⟨a,b,rfl,a0,b0,q⟩:=h
 refine⟨_,(zh (zde PassesOwn.never (zB (show OpR _ (compareOp .NotEq) (zbM K)from zb5 hr.units) (pv 1) ze (nomark _))
 (zh (zp (i:=2) sc__law_divisor.nd rfl (Or.inl rfl) (zG zcr (pv 0) (pv 1)))
 (zh (zp (i:=0) sc__law_divisor.nd rfl (Or.inl rfl) (pv 1))
 (zj (zp (i:=1) sc__law_divisor.nd rfl (Or.inl rfl) (pv 2))))))
 (zj (zw (pv 0)))),?_⟩
 refine zI (σ0:=[some (.int a),some (.int b),none]) rfl ?_
 walk_at "x"
 refine⟨fun m σ H'=>∃k r f,σ=[some (.int k),some (.int r),f]/\H'=H/\0<=k/\0<=r/\My.gc k r=My.gc a b/\m=r.toNat,⟨_,_,_,_,rfl,rfl,a0,b0,rfl,rfl⟩,?_⟩
 rintro m σ H' ⟨k,r,f,rfl,rfl,hk,hr0,hg,rfl⟩
 walk_at "x"
 ·rename_i hne
  refine⟨fun σ' H''=>σ'=[some (.int r),some (.int (k%r)),some (.int (k%r))]/\H''=H',?_,?_⟩
  ·rintro σ' H'' ⟨rfl,rfl⟩
   have h1:=ya6 k (b:=r) (by omega)
   have h2:=yaN k (b:=r) (by omega)
   exact⟨_,by omega,_,_,_,rfl,rfl,hr0,h1,by rw[My.gc_step];exact hg,rfl⟩
  ·walk_at "x"
   exact⟨rfl,rfl⟩
 ·rename_i he
  rw[he,My.gc_zero_right hk]at hg
  rw[hg];exact q
theorem zgx(T:Txt K mg):FnOk P w K mg base (CXF P w) 2 T.d__law_is_part.a T.d__law_is_part.fd ["_law_thing"] zeU:=by
 refine T.d__law_is_part.F.okN zgr (fun vs H Q E h=>?_) (fun cdv A outer s H vs Q E hr h=>?_)
 ·obtain⟨a,q,rfl,_⟩:=h;rfl
 obtain⟨a,q,rfl,h,k⟩:=h
 have hdp:=zal q
 have hab:=ziV q.num
 have hgc:=zo9 q
 refine⟨_,(zh (zO (PW.pt (zcF (zcy (show PT _ _ (zb0 K _)from zac (zN (show CallR _ _ (zcX K)from zdq) rfl T.z_isinstance BT.isinstance (za (pv 0) (za (zek (v:=.ty "tuple") rfl T.z_tuple BT.tuple rfl) zf))) (fun _=>rfl))) (zc2 (zB (show OpR _ (compareOp .NotEq) (zbM K)from zb5 hr.units) (zN (show CallR _ _ (za7 K)from zZ) rfl T.z_len BT.len (za (pv 0) zf)) ze (nomark _)))))
 (zj (zw zbI))
 zL)
 (zh (zO (PW.pt (zcF (zcy (show PT _ _ (zb0 K _)from zac (zm (zdA T) (hr.mono (by decide)) rfl T.d__law_whole.m T.d__law_whole.F.kp T.d__law_whole.b .nil (zy zt) (za (zl (show IxR _ (rIx K)from zk) (pv 0) ze (fun _ _=>rfl)) zf)) (fun _=>rfl))) (zcF (zcy (show PT _ _ (zb0 K _)from zac (zm (zdA T) (hr.mono (by decide)) rfl T.d__law_whole.m T.d__law_whole.F.kp T.d__law_whole.b .nil (zy zt) (za (zl (show IxR _ (rIx K)from zk) (pv 0) ze (fun _ _=>rfl)) zf)) (fun _=>rfl))) (zc2 (zB zcp (zl (show IxR _ (rIx K)from zk) (pv 0) ze (fun _ _=>rfl)) ze (nomark _))))))
 (zj (zw zbI))
 zL)
 (zj (zw (zc9 (show OpR _ (compareOp .Eq) (zaE K)from zar hr.units) (zm (zgw T) (hr.mono (by decide)) rfl T.d__law_divisor.m T.d__law_divisor.F.kp T.d__law_divisor.b .nil (zy zt) (za (zN zfj rfl T.z_abs BT.abs (za (zl (show IxR _ (rIx K)from zk) (pv 0) ze (fun _ _=>rfl)) zf)) (za (zl (show IxR _ (rIx K)from zk) (pv 0) ze (fun _ _=>rfl)) zf))) ze (nomark _)))))),?_⟩
 refine zI (σ0:=[some (.ref a)]) rfl ?_
 walk_at "x"
 all_goals first | (exfalso;omega) | skip
 rw[hgc]
 walk_at "x"
 exact k
theorem zh4(T:Txt K mg):FnOk P w K mg base (CXF P w) 3 T.d__law_parts.a T.d__law_parts.fd ["_law_told", "_law_many_here"] (zgb K):=by
 refine T.d__law_parts.F.okN sc__law_parts (fun vs H Q E h=>?_) (fun cdv A outer s H vs Q E hr h=>?_)
 ·obtain⟨a,ws,qs,n,rfl,_⟩:=h;rfl
 obtain⟨a,ws,qs,n,rfl,ha,hq,hn,k⟩:=h
 have hwl:=hq.length
 refine⟨_,(zh (zO (PW.pt (zcF (zcy (show PT _ _ (zb0 K _)from zac (zN (show CallR _ _ (zcX K)from zdq) rfl T.z_isinstance BT.isinstance (za (pv 0) (za (zek (v:=.ty "list") rfl T.z_list BT.list rfl) zf))) (fun _=>rfl))) (zc2 (zB (show OpR _ (compareOp .NotEq) (zbM K)from zb5 hr.units) (zN (show CallR _ _ (za7 K)from zZ) rfl T.z_len BT.len (za (pv 0) zf)) (pv 1) (nomark _)))))
 (zj (zw zbI))
 zL)
 (zh (zat PassesOwn.never rfl (show PI _ _ _ (zaA K _)from z8 (pv 0)) (zM (i:=2) sc__law_parts.nd rfl (Or.inl rfl))
 (zj (zO (zcy (show PT _ _ (zb0 K _)from zac (zm (zgx T) (hr.mono (by decide)) rfl T.d__law_is_part.m T.d__law_is_part.F.kp T.d__law_is_part.b .nil (zy zt) (za (pv 2) zf)) (fun _=>rfl)))
 (zj (zw zbI))
 zL)))
 (zj (zw zbI)))),?_⟩
 refine zI (σ0:=[some (.ref a),some (.int n),none]) rfl ?_
 walk_at "x"
 ·exfalso;omega
 refine zdV (xs:=ws) (fun i σ' H'=>∃f2:Option V,σ'=[some (.ref a),some (.int n),f2]/\H'=H) ⟨_,rfl,rfl⟩ ?_ ?_ ?_
 ·rintro i σ' H' _ ⟨_,_,rfl⟩;exact SqL.of ha
 ·rintro i x σ' H' hx ⟨f2,rfl,rfl⟩
  obtain⟨b,q,rfl,hqi,hb⟩:=hq.get hx
  walk_at "x"
  exact⟨_,rfl,rfl⟩
 ·rintro σ' H3 ⟨f2,rfl,rfl⟩
  walk_at "x"
  exact k
theorem ziH(T:Txt K mg):FnOk P w K mg base (CXF P w) 1 T.d__law_sums.a T.d__law_sums.fd ["_law_sheet_here", "_law_many_here"] (zgV K):=by
 refine T.d__law_sums.F.okN sc__law_sums (fun vs H Q E h=>?_) (fun cdv A outer s H vs Q E hr h=>?_)
 ·obtain⟨n,a,ds,rfl,_⟩:=h;rfl
 obtain⟨n,a,ds,rfl,⟨xs,hS,hT⟩,n0,n1,hd,k⟩:=h
 refine⟨_,(zh (zaW (i:=2) sc__law_sums.nd rfl rfl rfl (zan rfl T.z_range (za (pv 1) zf)) (zF (Ni:=["_law_k"]) (caps:=[none]) (by rfl)) (fun S _ _ _ _ _=>(zJ (gi:=0) S (Or.inl rfl) rfl)) (fun _ _ _ _ _=>zV) (fun _ _ _ _ _=>(zaC (za ze (za ze (za ze zf))))))
 (zh (zat PassesOwn.never rfl (show PI _ _ _ (zaA K _)from z8 (pv 0)) (zM (i:=3) sc__law_sums.nd rfl (Or.inl rfl))
 (zj (zcA (zG (show OpR _ (binaryOp .Add) (zak K)from zT) (zl (show IxR _ (rIx K)from zk) (zl (show IxR _ (rIx K)from zk) (pv 2) (zl (show IxR _ (rIx K)from zk) (pv 3) ze (fun _ _=>rfl)) (fun _ _=>rfl)) (zl (show IxR _ (rIx K)from zk) (pv 3) ze (fun _ _=>rfl)) (fun _ _=>rfl)) (zl (show IxR _ (rIx K)from zk) (pv 3) ze (fun _ _=>rfl))) (zcB (zl (show IxR _ (rIx K)from zk) (pv 2) (zl (show IxR _ (rIx K)from zk) (pv 3) ze (fun _ _=>rfl)) (fun _ _=>rfl)) (zl (show IxR _ (rIx K)from zk) (pv 3) ze (fun _ _=>rfl)) zaU))))
 (zj (zw (pv 2))))),?_⟩
 refine zI (σ0:=[some (.ref a),some (.int n),none,none]) rfl ?_
 walk_at "x"
 refine zR zbS (fun _ _=>trivial) rfl (fun i vs H'=>∃as,vs=as.map V.ref/\as.length=i/\Rows H' as 3 (fun _ _=>0)/\∀b∈as,H b=none) (fun H' _=>⟨[],rfl,rfl,⟨yaF,fun i a h=>nomatch h⟩,fun _ h=>nomatch h⟩) ?_ ?_
 ·rintro i x D vs o H2 H3 hi hD e2 hv hvl ⟨as,rfl,hal,hR,hF⟩ e3 rfl
  walk_at "x"
  rename_i p H4 fp e4 hp H5 b5 h5
  have hD':D∉as:=hR.ne (by decide) hv
  have hpD:p≠D:=zem fp (e3.at hv)
  have hp':H5 p=some (.lst ((vec 3 fun _=>0).map V.int)):=b5.lst hp hpD
  refine⟨⟨_,rfl⟩,by walk_at "h",_,h5,by rw[ya];exact ym hvl,as++[p],by rw[yl];rfl,by rw[ya,hal];rfl,Rows.app ((hR.same (e3.trans e4)).but b5 hD') ((hR.same e3).fresh fp) hp',fun b hb=>?_⟩
  rcases yT.mp hb with h | h
  ·exact hF b h
  ·rw[yv.mp h];exact Same.none fp (e2.trans e3)
 ·rintro l H2 vs fl e2 hl hvl ⟨as,rfl,hal,hR,hF⟩
  walk_at "x"
  have hla:l∉as:=hR.ne (by decide) hl
  refine zdV (xs:=xs) (fun i σ' H'=>∃f3:Option V,σ'=[some (.ref a),some (.int n),some (.ref l),f3]/\H' l=some (.lst (as.map V.ref))/\Rows H' as 3 (zH (ds.take i))/\Same H H') ?_ ?_ ?_ ?_
  ·exact⟨_,rfl,hl,hR,e2⟩
  ·rintro i σ' H' _ ⟨_,_,_,_,e⟩;exact e.seq hS
  ·rintro i x σ' H3 hx ⟨f3,rfl,hl3,hR3,e3⟩
   obtain⟨b,d,rfl,hdi,hb⟩:=(hT.same e3).get hx
   have hb':H3 b=some (.tup [.int d.p,.int d.q,.int d.r,.int d.a]):=hb
   obtain⟨p0,p1,q0,q1,pq,r0,r1,a0,a1⟩:=hd d (yb hdi)
   obtain⟨c,hc⟩:=zC (show d.p.toNat<as.length by omega)
   have hrow:=hR3.2 _ _ hc
   have hcm:=yb hc
   have hlc:l≠c:=fun z=>hla (z▸hcm)
   have fc:=hF c hcm
   walk_at "x"
   rename_i H4 b4 h4
   refine⟨_,rfl,b4.lst hl3 hlc,(hR3.set b4 hc h4).congr fun m hm r hr=>?_,by walk_at "h"⟩
   rw[zam hdi]
   exact zhq p0 r0 m r
  ·rintro σ' H3 ⟨f3,rfl,hl3,hR3,e3⟩
   rw[hT.length,yF]at hR3
   walk_at "x"
   exact k _ _ _ fl e3 hl3 (by omega) hR3 hF
theorem zh0(T:Txt K mg):FnOk P w K mg base (CXF P w) 2 T.d__law_stand.a T.d__law_stand.fd ["_law_sheet_here", "_law_lays"] (zfA K):=by
 refine T.d__law_stand.F.okN sc__law_stand (fun vs H Q E h=>?_) (fun cdv A outer s H vs Q E hr h=>?_)
 ·obtain⟨a,y,ds,ws,qs,rfl,_⟩:=h;rfl
 obtain⟨a,y,ds,ws,qs,rfl,h,hd,hl,hy,hq,h9,hs,k⟩:=h
 have hwl:=hq.length
 have hdo:∀d∈ds,zA (ws.length:Int) d:=by rw[hwl];exact fun d h=>(hd d h).1
 refine⟨_,(zh (zp (i:=2) sc__law_stand.nd rfl (Or.inl rfl) (zm (ziH T) (hr.mono (by decide)) rfl T.d__law_sums.m T.d__law_sums.F.kp T.d__law_sums.b .nil (zy zt) (za (pv 0) (za (zN (show CallR _ _ (za7 K)from zZ) rfl T.z_len BT.len (za (pv 1) zf)) zf))))
 (zh (zp (i:=3) sc__law_stand.nd rfl (Or.inl rfl) (zaC zf))
 (zh (zat PassesOwn.never rfl (zan rfl T.z_range (za (zN (show CallR _ _ (za7 K)from zZ) rfl T.z_len BT.len (za (pv 1) zf)) zf)) (zM (i:=4) sc__law_stand.nd rfl (Or.inl rfl))
 (zh (zp (i:=5) sc__law_stand.nd rfl (Or.inl rfl) zaZ)
 (zh (zat PassesOwn.never rfl (zmf rfl T.z_range (za ze (za (zeK zdW ze) (za (zeK zdW ze) zf)))) (zM (i:=6) sc__law_stand.nd rfl (Or.inl rfl))
 (zj (zO (zB zcp (zl (show IxR _ (rIx K)from zk) (zl (show IxR _ (rIx K)from zk) (pv 1) (pv 4) (fun _ _=>rfl)) ze (fun _ _=>rfl)) (zG z9 (zN (show CallR _ _ (zfY K)from zd3 rfl) rfl T.z_sum BT.sum (za (zfU (show SlR _ (zf0 K)from zgW) (zl (show IxR _ (rIx K)from zk) (pv 2) (pv 4) (fun _ _=>rfl)) zgR (zgN (zG (show OpR _ (binaryOp .Add) (zak K)from zT) (pv 6) ze))) zf)) (zl (show IxR _ (rIx K)from zk) (zl (show IxR _ (rIx K)from zk) (pv 1) (pv 4) (fun _ _=>rfl)) ze (fun _ _=>rfl))) (nomark _))
 (zj (zp (i:=5) sc__law_stand.nd rfl (Or.inl rfl) (pv 6)))
 zL)))
 (zj (zcN (show PE _ _ (tBM K _ _ _ _)from zdH yV yab yac zbT (pv 3) (za (pv 5) zf)))))))
 (zj (zw (pv 3)))))),?_⟩
 refine zI (σ0:=[some (.ref a),some (.ref y),none,none,none,none,none]) rfl ?_
 walk_at "x"
 rename_i su H1 as fsu e1 hsu hal hR hF ma H2 fma e2 hma
 rw[yw]at hal
 have hq1:=hq.same e1
 have hy1:=e1.at hy
 refine zc0 (fun i σ' H'=>∃f4 f5 f6:Option V,σ'=[some (.ref a),some (.ref y),some (.ref su),some (.ref ma),f4,f5,f6]/\H' ma=some (.lst (zP i fun m=>zae (zH ds m) (qs.getD m 0) 3))/\Same H1 H') ⟨_,_,_,rfl,hma,e2⟩ ?_ ?_
 ·rintro i σ' H3 hi ⟨f4,f5,f6,rfl,hm3,e3⟩
  have hi':i<ws.length:=by omega
  obtain⟨v,hv⟩:=zC hi'
  obtain⟨b,q,rfl,hqi,hb⟩:=hq1.get hv
  have ei:((0:Int)+(i:Int)).toNat=i:=by omega
  have hat:atI ws ((0:Int)+(i:Int))=some (.ref b):=zau (by omega) (by rw[ei];exact hv)
  obtain⟨c,hc⟩:=zC (show((0:Int)+(i:Int)).toNat<as.length by omega)
  have hrow:=hR.2 _ _ hc
  have hqd:qs.getD i 0=q:=by rw[yg,hqi];rfl
  obtain⟨f,ef⟩:∃f,zH ds i=f:=⟨_,rfl⟩
  have hf:∀j,j<3->0<=f j/\f j<=100000000000000:=fun j _=>by
   have:=zes (m:=i) (r:=j) ds fun d h=>⟨(hd d h).1.2.2.2.2.2.2.2.1,(hd d h).2⟩
   rw[ef]at this
   omega
  rw[ei,ef]at hrow
  have hsq:=hs q (yb hqi)
  have hcum:=zfn hf
  have hol:(zP i fun m=>zae (zH ds m) (qs.getD m 0) 3).length=i:=zbq
  walk_at "x"
  refine zdQ znj (fun t σ' H'=>∃f6:Option V,σ'=[some (.ref a),some (.ref y),some (.ref su),some (.ref ma),some (.int ((0:Int)+(i:Int))),some (zaX (za0 f q t)),f6]/\H' ma=some (.lst (zP i fun m=>zae (zH ds m) (qs.getD m 0) 3))/\Same H1 H') ⟨_,rfl,hm3,e3⟩ (fun _ _ _ _=>trivial) ?_ ?_
  ·rintro t x σ' H4 H5 ht ⟨f6,rfl,hm4,e4⟩ e5 rfl
   have ht3:t<3:=ht
   have hsd:sz (q.den:Int)<=60000:=hsq.2
   have hb5:IsQ H5 b q:=(e4.trans e5).at hb
   have hrow5:=(e4.trans e5).at hrow
   have hy5:=(e4.trans e5).at hy1
   have hsu5:=(e4.trans e5).at hsu
   obtain rfl | rfl | rfl:t=0\/t=1\/t=2:=by omega
   ·walk_at "x"
    rename_i sl H6 fsl e6 hsl
    have hsl':H6 sl=some (.lst ((vec 3 f).map V.int)):=hsl
    have hc3:=hcum 3 (by omega)
    have hmul:CMulS (zbF f 3) (q.den:Int):=CMulS.of (sz200 (by omega) (by omega)) hsd (by decide)
    have hb6:IsQ H6 b q:=e6.at hb5
    have hy6:=e6.at hy5
    have hm6:=e6.at (e5.at hm4)
    have e16:Same H1 H6:=e4.trans (e5.trans e6)
    refine zgi (SqL.of hsl') ?_
    rw[zdI]
    walk_at "x"
    ·rename_i hu
     have hst:za0 f q (0+1)=some 2:=if_pos (show zaG f q 2 from hu)
     exact⟨_,by rw[hst];rfl,hm6,e16⟩
    ·rename_i hu
     have hst:za0 f q (0+1)=za0 f q 0:=if_neg (show ¬zaG f q 2 from hu)
     exact⟨_,by rw[hst],hm6,e16⟩
   ·walk_at "x"
    rename_i sl H6 fsl e6 hsl
    have hsl':H6 sl=some (.lst ((vec 2 f).map V.int)):=hsl
    have hc3:=hcum 2 (by omega)
    have hmul:CMulS (zbF f 2) (q.den:Int):=CMulS.of (sz200 (by omega) (by omega)) hsd (by decide)
    have hb6:IsQ H6 b q:=e6.at hb5
    have hy6:=e6.at hy5
    have hm6:=e6.at (e5.at hm4)
    have e16:Same H1 H6:=e4.trans (e5.trans e6)
    refine zgi (SqL.of hsl') ?_
    rw[zdI]
    walk_at "x"
    ·rename_i hu
     have hst:za0 f q (1+1)=some 1:=if_pos (show zaG f q 1 from hu)
     exact⟨_,by rw[hst];rfl,hm6,e16⟩
    ·rename_i hu
     have hst:za0 f q (1+1)=za0 f q 1:=if_neg (show ¬zaG f q 1 from hu)
     exact⟨_,by rw[hst],hm6,e16⟩
   ·walk_at "x"
    rename_i sl H6 fsl e6 hsl
    have hsl':H6 sl=some (.lst ((vec 1 f).map V.int)):=hsl
    have hc3:=hcum 1 (by omega)
    have hmul:CMulS (zbF f 1) (q.den:Int):=CMulS.of (sz200 (by omega) (by omega)) hsd (by decide)
    have hb6:IsQ H6 b q:=e6.at hb5
    have hy6:=e6.at hy5
    have hm6:=e6.at (e5.at hm4)
    have e16:Same H1 H6:=e4.trans (e5.trans e6)
    refine zgi (SqL.of hsl') ?_
    rw[zdI]
    walk_at "x"
    ·rename_i hu
     have hst:za0 f q (2+1)=some 0:=if_pos (show zaG f q 0 from hu)
     exact⟨_,by rw[hst];rfl,hm6,e16⟩
    ·rename_i hu
     have hst:za0 f q (2+1)=za0 f q 2:=if_neg (show ¬zaG f q 0 from hu)
     exact⟨_,by rw[hst],hm6,e16⟩
  ·rintro σ' H4 ⟨f6,rfl,hm4,e4⟩
   have hst:zaX (za0 f q 3)=zaX (zae (zH ds i) (qs.getD i 0) 3):=by rw[zkO,ef,hqd]
   walk_at "x"
   rename_i H5 b5 h5
   refine⟨_,_,_,rfl,?_,by walk_at "h"⟩
   rw[zfb,<- hst]
   exact h5
 ·rintro σ' H3 ⟨f4,f5,f6,rfl,hm3,e3⟩
  walk_at "x"
  rw[yw,hwl]at hm3
  exact k _ _ (Same.none fma e1) (e1.trans e3) hm3
theorem zfV(T:Txt K mg):FnOk P w K mg base (CXF P w) 1 T.d__law_pays_one.a T.d__law_pays_one.fd ["_law_member", "_law_rest", "_law_ways"] (ze9 K):=by
 refine T.d__law_pays_one.F.okN sc__law_pays_one (fun vs H Q E h=>?_) (fun cdv A outer s H vs Q E hr h=>?_)
 ·obtain⟨m,r,a,rs,xs,es,rfl,_⟩:=h;rfl
 obtain⟨m,r,a,rs,xs,es,rfl,hr',ha,hT,q⟩:=h
 have hxl:=hT.length
 refine⟨_,(zh (zat PassesOwn.never rfl (show PI _ _ _ (zaA K _)from z8 (pv 2)) (zM (i:=3) sc__law_pays_one.nd rfl (Or.inl rfl))
 (zj (zO (PW.pt (zbO (zB (show OpR _ (compareOp .Eq) (zaE K)from zar hr.units) (zl (show IxR _ (rIx K)from zk) (pv 3) ze (fun _ _=>rfl)) (pv 0) (nomark _)) (zbL (zB (show OpR _ (compareOp .In) (rIn K false)from zht) (zl (show IxR _ (rIx K)from zk) (pv 3) ze (fun _ _=>rfl)) (pv 1) (by with_unfolding_all rfl)))))
 (zj (zw zbI))
 zL)))
 (zj (zw zbI))),?_⟩
 refine zI (σ0:=[some (.int m),some (.ref r),some (.ref a),none]) rfl ?_
 walk_at "x"
 refine zdV (xs:=xs) (fun i σ' H'=>∃f3:Option V,σ'=[some (.int m),some (.ref r),some (.ref a),f3]/\H'=H/\zcE (es.take i) rs m=false) ⟨_,rfl,rfl,rfl⟩ ?_ ?_ ?_
 ·rintro i σ' H' _ ⟨_,_,rfl,_⟩;exact SqL.of ha
 ·rintro i x σ' H' hx ⟨f3,rfl,rfl,hp⟩
  obtain⟨b,d,rfl,hdi,hb⟩:=hT.get hx
  have hb':H' b=some (.tup [.int d.p,.int d.q]):=hb
  have es':zcE (es.take (i+1)) rs m=(zcE (es.take i) rs m || decide (d.p=m/\d.q∈rs)):=by
   rw[zam hdi];unfold zcE;rw[List.any_append];simp
  rw[hp,Bool.false_or]at es'
  walk_at "x"
  ·rename_i h2 h3
   have:zcE es rs m=true:=paysF_iff.mpr ⟨_,yb hdi,h2,h3⟩
   rw[this]at q;exact q
  all_goals
   refine⟨_,rfl,rfl,?_⟩
   rw[es',decide_eq_false]
   rintro⟨z1,z2⟩
   first | contradiction | omega
 ·rintro σ' H' ⟨f3,rfl,rfl,hp⟩
  rw[hxl,yF]at hp
  rw[hp]at q
  walk_at "x"
  exact q
theorem zf4(T:Txt K mg):FnOk P w K mg base (CXF P w) 2 T.d__law_ringless.a T.d__law_ringless.fd ["_law_many_here", "_law_ways"] (zfH K):=by
 refine T.d__law_ringless.F.okN sc__law_ringless (fun vs H Q E h=>?_) (fun cdv A outer s H vs Q E hr h=>?_)
 ·obtain⟨n,a,xs,es,rfl,_⟩:=h;rfl
 obtain⟨n,a,xs,es,rfl,ha,hT,n0,n1,hd,hf,q⟩:=h
 have hdN:∀d∈es,zA (n.toNat:Int) d/\0<d.a:=by rw[show(n.toNat:Int)=n by omega];exact hd
 refine⟨_,(zh (zp (i:=2) sc__law_ringless.nd rfl (Or.inr rfl) (zbP (show CallR _ _ zew from zh1 rfl) rfl T.z_list BT.list (za (zbP (show CallR _ _ zgd from zjI) rfl T.z_range BT.range (za (pv 0) zf)) zf)))
 (zh (zat PassesOwn.never rfl (zan rfl T.z_range (za (pv 0) zf)) (zM (i:=3) sc__law_ringless.nd rfl (Or.inl rfl))
 (zj (zp (i:=2) sc__law_ringless.nd rfl (Or.inr rfl) (zaw rfl (show PI _ _ _ (zaA K _)from z8 (pv 2)) (zF (Ni:=["_law_member", "_law_rest", "_law_ways"]) (caps:=[none,some 2,some 1]) (by rfl)) (fun S _ _ _ _ _=>(zJ (gi:=0) S (Or.inl rfl) rfl)) (fun _ _ _ _ _=>(zgm (show PT _ _ (zb0 K _)from zac (zm (zfV T) (hr.mono (by decide)) rfl T.d__law_pays_one.m T.d__law_pays_one.F.kp T.d__law_pays_one.b .nil (zy zt) (za (pv 0) (za (pv 1) (za (pv 2) zf)))) (fun _=>rfl)))) (fun _ _ _ _ _=>(pv 0))))))
 (zj (zw (zc9 (show OpR _ (compareOp .Eq) (zaE K)from zar hr.units) (pv 2) (zaC zf) (nomark _)))))),?_⟩
 refine zI (σ0:=[some (.int n),some (.ref a),none,none]) rfl ?_
 walk_at "x"
 rename_i p H1 fp e1 hp r H2 fr e2 hr2
 refine zc0 (fun i σ' H'=>∃(g:Addr) (f3:Option V),σ'=[some (.int n),some (.ref a),some (.ref g),f3]/\H' g=some (.lst ((zaz (zbB es n.toNat i)).map V.int))/\Same H H') ⟨_,_,rfl,by rw[zmG];exact hr2,by walk_at "h"⟩ ?_ ?_
 ·rintro i σ' H4 hi ⟨g,f4,rfl,hg,e4⟩
  walk_at "x"
  refine zR (zaq (K:=K) (a:=g) (xs:=(zaz (zbB es n.toNat i)).map V.int)) (fun H' e=>SqL.of (e.at hg)) rfl (fun j vs _=>vs=(zaz (((zbB es n.toNat i).take j).filter fun m:Nat=>zcE es (zaz (zbB es n.toNat i)) (m:Int))).map V.int) (fun H' _=>rfl) ?_ ?_
  ·rintro j x D vs o2 H6 H7 hj hD e6 hv hvl rfl e7 hx
   have hj':j<(zbB es n.toNat i).length:=by rw[yc,zcM]at hj;exact hj
   obtain⟨m,hm⟩:=zC hj'
   have ex:x=.int (m:Int):=by
    rw[yf,zeu hm]at hx;exact(yp hx).symm
   subst ex
   have et:=zam hm
   have hjn:(zbB es n.toNat i).length<=n.toNat:=zph
   have ha7:H7 a=some (.lst xs):=(e4.trans (e6.trans e7)).at ha
   have hT7:=hT.same (e4.trans (e6.trans e7))
   have hg7:=(e6.trans e7).at hg
   walk_at "x"
   ·rename_i h8 H8 b8 h8'
    refine⟨⟨_,rfl⟩,by walk_at "h",_,h8',by rw[ya];exact ym hvl,?_⟩
    show _=(zaz (((zbB es n.toNat i).take (j+1)).filter _)).map V.int
    rw[et,yat,zeF,yl]
    congr 1
    rw[yaJ (p:=fun m:Nat=>zcE es (zaz (zbB es n.toNat i)) (m:Int)) h8];rfl
   ·rename_i h8
    refine⟨⟨_,rfl⟩,by walk_at "h",_,by walk_at "h",by omega,?_⟩
    show _=(zaz (((zbB es n.toNat i).take (j+1)).filter _)).map V.int
    rw[et,yat,zeF,yl]
    rw[yaK (p:=fun m:Nat=>zcE es (zaz (zbB es n.toNat i)) (m:Int)) (by rw[h8];decide)]
    exact(yan _).symm
  ·rintro D H6 vs hD e6 hv hvl rfl
   rw[yc,zcM,yF,<- znK hdN]at hv
   walk_at "x"
   exact⟨_,_,rfl,hv,by walk_at "h"⟩
 ·rintro σ' H4 ⟨g,f4,rfl,hg,e4⟩
  rw[hf]at hg
  have hg':H4 g=some (.lst (([]:List Int).map V.int)):=hg
  walk_at "x"
  rename_i z H5 fz e5 hz
  exact q _ (e4.trans e5)
theorem zeR(T:Txt K mg):FnOk P w K mg base (CXF P w) 1 T.d__law_nets.a T.d__law_nets.fd ["_law_sheet_here", "_law_amounts", "_law_many_here"] (zgY K):=by
 refine T.d__law_nets.F.okN sc__law_nets (fun vs H Q E h=>?_) (fun cdv A outer s H vs Q E hr h=>?_)
 ·obtain⟨n,a,l,ds,ms,rfl,_⟩:=h;rfl
 obtain⟨n,a,l,ds,ms,rfl,⟨xs,hS,hT⟩,hl,hml,h64,n0,n1,hd,k⟩:=h
 have hxl:=hT.length
 refine⟨_,(zh (zaW (i:=3) sc__law_nets.nd rfl rfl rfl (zan rfl T.z_range (za (pv 2) zf)) (zF (Ni:=["_law_k"]) (caps:=[none]) (by rfl)) (fun S _ _ _ _ _=>(zJ (gi:=0) S (Or.inl rfl) rfl)) (fun _ _ _ _ _=>zV) (fun _ _ _ _ _=>ze))
 (zh (zat PassesOwn.never rfl (zan rfl T.z_range (za (zN (show CallR _ _ (za7 K)from zZ) rfl T.z_len BT.len (za (pv 0) zf)) zf)) (zM (i:=4) sc__law_nets.nd rfl (Or.inl rfl))
 (zh (zcA (zG zjd (zl (show IxR _ (rIx K)from zk) (pv 3) (zl (show IxR _ (rIx K)from zk) (zl (show IxR _ (rIx K)from zk) (pv 0) (pv 4) (fun _ _=>rfl)) ze (fun _ _=>rfl)) (fun _ _=>rfl)) (zl (show IxR _ (rIx K)from zk) (pv 1) (pv 4) (fun _ _=>rfl))) (zcB (pv 3) (zl (show IxR _ (rIx K)from zk) (zl (show IxR _ (rIx K)from zk) (pv 0) (pv 4) (fun _ _=>rfl)) ze (fun _ _=>rfl)) zaU))
 (zj (zcA (zG (show OpR _ (binaryOp .Add) (zak K)from zT) (zl (show IxR _ (rIx K)from zk) (pv 3) (zl (show IxR _ (rIx K)from zk) (zl (show IxR _ (rIx K)from zk) (pv 0) (pv 4) (fun _ _=>rfl)) ze (fun _ _=>rfl)) (fun _ _=>rfl)) (zl (show IxR _ (rIx K)from zk) (pv 1) (pv 4) (fun _ _=>rfl))) (zcB (pv 3) (zl (show IxR _ (rIx K)from zk) (zl (show IxR _ (rIx K)from zk) (pv 0) (pv 4) (fun _ _=>rfl)) ze (fun _ _=>rfl)) zaU)))))
 (zj (zw (pv 3))))),?_⟩
 refine zI (σ0:=[some (.ref a),some (.ref l),some (.int n),none,none]) rfl ?_
 walk_at "x"
 rename_i ma H2 fma e2 hma
 refine zc0 (fun i σ' H'=>∃f4:Option V,σ'=[some (.ref a),some (.ref l),some (.int n),some (.ref ma),f4]/\H' ma=some (.lst ((vec n.toNat (za1 ((zr ds fun i=>ms.getD i 0).take i))).map V.int))/\Same H H') ⟨_,rfl,hma,e2⟩ ?_ ?_
 ·rintro i σ' H4 hi ⟨f4,rfl,hm3,e3⟩
  obtain⟨d,hdi⟩:=zC (show i<ds.length by omega)
  obtain⟨b,hb1,hb2⟩:=(hT.same e3).getI hdi
  have hb':H4 b=some (.tup [.int d.p,.int d.q,.int d.r,.int d.a]):=hb2
  obtain⟨p0,p1,q0,q1,pq,r0,r1,a0,a1⟩:=hd d (yb hdi)
  have ei:(0:Int)+(i:Int)=i:=by omega
  rw[ei]
  have hat:atI xs (i:Int)=some (.ref b):=zU hb1
  have hS4:SqL K H4 a xs:=hS.keep e3
  have hl4:=e3.at hl
  have hatm:atI (ms.map V.int) (i:Int)=some (.int (ms.getD i 0)):=zgF (by omega) (by rw[yw];exact zeM (by omega))
  have nl:l≠ma:=fun z=>by rw[z,fma]at hl;cases hl
  walk_at "x"
  rename_i H5 b5 h5
  have e5:Same H H5:=b5.same e3 fma
  have hS5:SqL K H5 a xs:=hS.keep e5
  have hl5:=e5.at hl
  have hb5:H5 b=some (.tup [.int d.p,.int d.q,.int d.r,.int d.a]):=b5.tup hb'
  walk_at "x"
  rename_i H6 b6 h6
  refine⟨_,rfl,?_,b6.same e5 fma⟩
  rw[h6,za9 hdi]
  congr 3
  refine zck fun m hm=>?_
  unfold za1
  rw[zct,zbN]
  dsimp only
  by_cases e:d.p=m
  ·have e1:¬d.q=m:=by omega
   have e2:d.p.toNat=m:=by omega
   rw[if_pos e,if_neg e1,if_neg (show ¬m=d.q.toNat by omega),if_pos (show m=d.p.toNat by omega),e2];omega
  ·by_cases e':d.q=m
   ·have e2:d.q.toNat=m:=by omega
    rw[if_neg e,if_pos e',if_pos (show m=d.q.toNat by omega),if_neg (show ¬d.q.toNat=d.p.toNat by omega),e2];omega
   ·rw[if_neg e,if_neg e',if_neg (show ¬m=d.q.toNat by omega),if_neg (show ¬m=d.p.toNat by omega)]
 ·rintro σ' H3 ⟨f4,rfl,hm3,e3⟩
  rw[yw,hxl,yar (by rw[zab];exact ye _)]at hm3
  walk_at "x"
  exact k _ _ fma e3 hm3
theorem zjh(T:Txt K mg):FnOk P w K mg base (CXF P w) 2 T.d__law_left.a T.d__law_left.fd ["_law_sheet_here", "_law_told", "_law_stand_here"] (zj9 K):=by
 refine T.d__law_left.F.okN sc__law_left (fun vs H Q E h=>?_) (fun cdv A outer s H vs Q E hr h=>?_)
 ·obtain⟨a,l,b,n,ds,ρ,g,rfl,_⟩:=h;rfl
 obtain⟨a,l,b,n,ds,ρ,g,rfl,⟨xs,hS,hT⟩,hl,hb,h64,hd,S,k⟩:=h
 have hxl:=hT.length
 have hvl:((vec ds.length g).map V.int).length=ds.length:=by rw[yc,zaa]
 refine⟨_,(zh (zO (PW.pt (zcF (zcy (show PT _ _ (zb0 K _)from zac (zN (show CallR _ _ (zcX K)from zdq) rfl T.z_isinstance BT.isinstance (za (pv 1) (za (zek (v:=.ty "list") rfl T.z_list BT.list rfl) zf))) (fun _=>rfl))) (zc2 (zB (show OpR _ (compareOp .NotEq) (zbM K)from zb5 hr.units) (zN (show CallR _ _ (za7 K)from zZ) rfl T.z_len BT.len (za (pv 1) zf)) (zN (show CallR _ _ (za7 K)from zZ) rfl T.z_len BT.len (za (pv 0) zf)) (nomark _)))))
 (zj (zw zbI))
 zL)
 (zh (zat PassesOwn.never rfl (zan rfl T.z_range (za (zN (show CallR _ _ (za7 K)from zZ) rfl T.z_len BT.len (za (pv 0) zf)) zf)) (zM (i:=3) sc__law_left.nd rfl (Or.inl rfl))
 (zh (zO (PW.pt (zcF (zcy (show PT _ _ (zb0 K _)from zac (zm (zdA T) (hr.mono (by decide)) rfl T.d__law_whole.m T.d__law_whole.F.kp T.d__law_whole.b .nil (zy zt) (za (zl (show IxR _ (rIx K)from zk) (pv 1) (pv 3) (fun _ _=>rfl)) zf)) (fun _=>rfl))) (zc2 (zcy (zmU zn5 zn5 ze (zl (show IxR _ (rIx K)from zk) (pv 1) (pv 3) (fun _ _=>rfl)) (zl (show IxR _ (rIx K)from zk) (zl (show IxR _ (rIx K)from zk) (pv 0) (pv 3) (fun _ _=>rfl)) ze (fun _ _=>rfl)))))))
 (zj (zw zbI))
 zL)
 (zj (zO (PW.pt (zcF (zB zdJ (zl (show IxR _ (rIx K)from zk) (pv 2) (zl (show IxR _ (rIx K)from zk) (zl (show IxR _ (rIx K)from zk) (pv 0) (pv 3) (fun _ _=>rfl)) ze (fun _ _=>rfl)) (fun _ _=>rfl)) zaZ (nomark _)) (zc2 (zB zdJ (zl (show IxR _ (rIx K)from zk) (pv 2) (zl (show IxR _ (rIx K)from zk) (zl (show IxR _ (rIx K)from zk) (pv 0) (pv 3) (fun _ _=>rfl)) ze (fun _ _=>rfl)) (fun _ _=>rfl)) zaZ (nomark _)))))
 (zj (zO (zB (show OpR _ (compareOp .NotEq) (zbM K)from zb5 hr.units) (zl (show IxR _ (rIx K)from zk) (pv 1) (pv 3) (fun _ _=>rfl)) (zl (show IxR _ (rIx K)from zk) (zl (show IxR _ (rIx K)from zk) (pv 0) (pv 3) (fun _ _=>rfl)) ze (fun _ _=>rfl)) (nomark _))
 (zj (zw zbI))
 zL))
 zL))))
 (zj (zw zbI)))),?_⟩
 refine zI (σ0:=[some (.ref a),some (.ref l),some (.ref b),none]) rfl ?_
 walk_at "x"
 ·exfalso;omega
 refine zc0 (fun i σ' H'=>∃f3:Option V,σ'=[some (.ref a),some (.ref l),some (.ref b),f3]/\H'=H) ⟨_,rfl,rfl⟩ ?_ ?_
 ·rintro i σ' H4 hi ⟨f3,rfl,rfl⟩
  obtain⟨d,hdi⟩:=zC (show i<ds.length by omega)
  obtain⟨c,hc1,hc2⟩:=hT.getI hdi
  have hc':H4 c=some (.tup [.int d.p,.int d.q,.int d.r,.int d.a]):=hc2
  obtain⟨p0,p1,q0,q1,pq,r0,r1,a0,a1⟩:=hd d (yb hdi)
  have ei:(0:Int)+(i:Int)=i:=by omega
  rw[ei]
  have hat:atI xs (i:Int)=some (.ref c):=zU hc1
  have hatg:atI ((vec ds.length g).map V.int) (i:Int)=some (.int (g i)):=zU (by rw[yf,zay (by omega)];rfl)
  have at1:atI (zP n ρ) d.p=some (zaX (ρ d.p.toNat)):=zau p0 (zas (by omega))
  have at2:atI (zP n ρ) d.q=some (zaX (ρ d.q.toNat)):=zau q0 (zas (by omega))
  have hbd:=S.bd i (by omega)
  rw[zcq hdi]at hbd
  have hoff:=S.off i d hdi
  have in':((i:Int)).toNat=i:=by omega
  have hbd':0<=g ((i:Int)).toNat/\g ((i:Int)).toNat<=d.a:=by rw[in'];exact hbd
  have ho1:¬zaX (ρ d.p.toNat)=V.non->g ((i:Int)).toNat=d.a:=fun h=>by rw[in'];exact hoff (.inl (by rw[<- zbW];exact decide_eq_false h))
  have ho2:¬zaX (ρ d.q.toNat)=V.non->g ((i:Int)).toNat=d.a:=fun h=>by rw[in'];exact hoff (.inr (by rw[<- zbW];exact decide_eq_false h))
  walk_at "x"
  all_goals first | exact⟨_,rfl,rfl⟩ | (exfalso;omega) | (exfalso;rename_i h1 h2;exact h2 (ho1 h1)) | (exfalso;rename_i h1 h2;exact h2 (ho2 h1))
 ·rintro σ' H3 ⟨f3,rfl,rfl⟩
  walk_at "x"
  exact k
def zh7(K:Fg):Sp:=fun vs H Q _=>∃(a:Addr) (ns:List Int),vs=[.ref a]/\SqL K H a (ns.map V.int)/\ns.length<=63/\Light ns/\∀H',Q (.bl true) H'
theorem zpK(T:Txt K mg):FnOk P w K mg base (CXF P w) 7 T.d_law.a T.d_law.fd ["_law_script"] (zh7 K):=by
 refine T.d_law.F.okN sc_law (fun vs H Q E h=>?_) (fun cdv A outer s H vs Q E hr h=>?_)
 ·obtain⟨a,ns,rfl,_⟩:=h;rfl
 obtain⟨a,ns,rfl,hS,h63,hz,k⟩:=h
 refine⟨_,(zh (zp (i:=1) sc_law.nd rfl (Or.inl rfl) (zm (zjr T) (hr.mono (by decide)) rfl T.d__law_many.m T.d__law_many.F.kp T.d__law_many.b .nil (zy zt) (za (pv 0) zf)))
 (zh (zp (i:=2) sc_law.nd rfl (Or.inl rfl) (zm (zhV T) (hr.mono (by decide)) rfl T.d__law_count.m T.d__law_count.F.kp T.d__law_count.b .nil (zy zt) (za (pv 0) (za (pv 1) zf))))
 (zh (zp (i:=3) sc_law.nd rfl (Or.inl rfl) (zm (zjj T) (hr.mono (by decide)) rfl T.d__law_most.m T.d__law_most.F.kp T.d__law_most.b .nil (zy zt) (za (pv 0) (za (pv 1) (za (pv 2) zf)))))
 (zh (zp (i:=4) sc_law.nd rfl (Or.inl rfl) (zm (zhS T) (hr.mono (by decide)) rfl T.d__law_sheet.m T.d__law_sheet.F.kp T.d__law_sheet.b .nil (zy zt) (za (pv 0) (za (pv 1) (za (pv 2) (za (pv 3) zf))))))
 (zh (zp (i:=5) sc_law.nd rfl (Or.inl rfl) (zm (zhe T) (hr.mono (by decide)) rfl T.d__law_purses.m T.d__law_purses.F.kp T.d__law_purses.b .nil (zy zt) (za (pv 0) (za (pv 1) (za (pv 3) zf)))))
 (zh (zp (i:=6) sc_law.nd rfl (Or.inl rfl) (zm (zgg T) (hr.mono (by decide)) rfl T.d_cleared.m T.d_cleared.F.kp T.d_cleared.b .nil (zy zt) (za (zbP (show CallR _ _ (zb7 K)from zcu) rfl T.z_list BT.list (za (pv 4) zf)) (za (zbP (show CallR _ _ (zb7 K)from zcu) rfl T.z_list BT.list (za (pv 5) zf)) zf))))
 (zh (zO (zcy (show PT _ _ (zb0 K _)from zac (zm (zh4 T) (hr.mono (by decide)) rfl T.d__law_parts.m T.d__law_parts.F.kp T.d__law_parts.b .nil (zy zt) (za (pv 6) (za (pv 1) zf))) (fun _=>rfl)))
 (zj (zw zbI))
 zL)
 (zh (zp (i:=7) sc_law.nd rfl (Or.inl rfl) (zm (zh0 T) (hr.mono (by decide)) rfl T.d__law_stand.m T.d__law_stand.F.kp T.d__law_stand.b .nil (zy zt) (za (pv 4) (za (pv 6) zf))))
 (zh (zp (i:=8) sc_law.nd rfl (Or.inl rfl) (zaC (za (zbP (show CallR _ _ (zb7 K)from zcu) rfl T.z_list BT.list (za (pv 4) zf)) (za (zbP (show CallR _ _ (zb7 K)from zcu) rfl T.z_list BT.list (za (pv 5) zf)) zf))))
 (zh (zp (i:=9) sc_law.nd rfl (Or.inl rfl) (zm (zjK T) (hr.mono (by decide)) rfl T.d_safe_cut.m T.d_safe_cut.F.kp T.d_safe_cut.b .nil (zy zt) (za (zl (show IxR _ (rIx K)from zk) (pv 8) ze (fun _ _=>rfl)) (za (zl (show IxR _ (rIx K)from zk) (pv 8) ze (fun _ _=>rfl)) zf))))
 (zh (zO (PW.pt (zcF (zB (show OpR _ (compareOp .NotEq) (zbM K)from zb5 hr.units) (zl (show IxR _ (rIx K)from zk) (pv 8) ze (fun _ _=>rfl)) (pv 4) (nomark _)) (zcF (zB (show OpR _ (compareOp .NotEq) (zbM K)from zb5 hr.units) (zl (show IxR _ (rIx K)from zk) (pv 8) ze (fun _ _=>rfl)) (pv 5) (nomark _)) (zc2 (zcy (show PT _ _ (zb0 K _)from zac (zm (zjh T) (hr.mono (by decide)) rfl T.d__law_left.m T.d__law_left.F.kp T.d__law_left.b .nil (zy zt) (za (pv 4) (za (pv 9) (za (pv 7) zf)))) (fun _=>rfl)))))))
 (zj (zw zbI))
 zL)
 (zh (zO (zB (show OpR _ (compareOp .NotEq) (zbM K)from zb5 hr.units) (zm (zeR T) (hr.mono (by decide)) rfl T.d__law_nets.m T.d__law_nets.F.kp T.d__law_nets.b .nil (zy zt) (za (pv 4) (za (pv 9) (za (pv 1) zf)))) (zm (zeR T) (hr.mono (by decide)) rfl T.d__law_nets.m T.d__law_nets.F.kp T.d__law_nets.b .nil (zy zt) (za (pv 4) (za (zaw rfl (show PI _ _ _ (zaA K _)from z8 (pv 4)) (zF (Ni:=["_law_due_here"]) (caps:=[none]) (by rfl)) (fun S _ _ _ _ _=>(zJ (gi:=0) S (Or.inl rfl) rfl)) (fun _ _ _ _ _=>zV) (fun _ _ _ _ _=>(zl (show IxR _ (rIx K)from zk) (pv 0) ze (fun _ _=>rfl)))) (za (pv 1) zf)))) (nomark _))
 (zj (zw zbI))
 zL)
 (zh (zp (i:=10) sc_law.nd rfl (Or.inl rfl) (zaC zf))
 (zh (zat PassesOwn.never rfl (zan rfl T.z_range (za (pv 2) zf)) (zM (i:=11) sc_law.nd rfl (Or.inl rfl))
 (zj (zO (PW.pt (zbO (zB zdF (zl (show IxR _ (rIx K)from zk) (pv 9) (pv 11) (fun _ _=>rfl)) ze (nomark _)) (zbO (zB zel (zl (show IxR _ (rIx K)from zk) (pv 7) (zl (show IxR _ (rIx K)from zk) (zl (show IxR _ (rIx K)from zk) (pv 4) (pv 11) (fun _ _=>rfl)) ze (fun _ _=>rfl)) (fun _ _=>rfl)) zaZ (nomark _)) (zbL (zB zel (zl (show IxR _ (rIx K)from zk) (pv 7) (zl (show IxR _ (rIx K)from zk) (zl (show IxR _ (rIx K)from zk) (pv 4) (pv 11) (fun _ _=>rfl)) ze (fun _ _=>rfl)) (fun _ _=>rfl)) zaZ (nomark _))))))
 (zj (zcN (show PE _ _ (tBM K _ _ _ _)from zdH yV yab yac zbT (pv 10) (za (zah (za (zl (show IxR _ (rIx K)from zk) (zl (show IxR _ (rIx K)from zk) (pv 4) (pv 11) (fun _ _=>rfl)) ze (fun _ _=>rfl)) (za (zl (show IxR _ (rIx K)from zk) (zl (show IxR _ (rIx K)from zk) (pv 4) (pv 11) (fun _ _=>rfl)) ze (fun _ _=>rfl)) zf))) zf))))
 zL)))
 (zj (zw (zm (zf4 T) (hr.mono (by decide)) rfl T.d__law_ringless.m T.d__law_ringless.F.kp T.d__law_ringless.b .nil (zy zt) (za (pv 1) (za (pv 10) zf))))))))))))))))))),?_⟩
 refine zI (σ0:=[some (.ref a),none,none,none,none,none,none,none,none,none,none,none]) rfl ?_
 walk_at "x"
 rename_i n n0 n1 c c0 c1 nc m m0 m1 mc sh H1 xs ds fsh e1 hsh ht hds hdl hda pu H2 ps fpu e2 hpu hpl hps hs H3 fhs e3 hhs hu H4 fhu e4 hhu
 have hnn:((n.toNat:Nat):Int)=n:=by omega
 have hdl64:ds.length<=64:=by omega
 have hdsn:∀d∈ds,zA (n.toNat:Int) d/\d.a<=1000000000000:=by rw[hnn];exact hds
 have hdo:∀d∈ds,zA (n.toNat:Int) d:=fun d h=>(hdsn d h).1
 have hcase:(∀d∈ds,d.a<=12)\/ds.length<=12\/(n.toNat<=6/\ds.length<=16):=by
  by_cases z:m=0
  ·exact .inl (hda z)
  ·rcases mc z with h | h
   ·right;left;omega
   ·right;right;omega
 obtain⟨W,P,C⟩:=zlx (n:=n.toNat) (by omega) hdsn hdl64 hpl hps hcase
 have hS4:IsSh K H4 hs ds:=⟨xs,SqL.of (e4.at hhs),ht.same ((e2.trans e3).trans e4)⟩
 refine zdl ?_
 refine zfI hS4 hhu C ?_
 intro la H5 wl kk fla e5 hla hwl hfin hnf hok
 have hwide:=C.wide hok
 have hql:(zcY n.toNat ds ps kk).length=n.toNat:=zga
 have hqn:(((zcY n.toNat ds ps kk).length:Nat):Int)=n:=by omega
 have hdq:∀d∈ds,zA ((zcY n.toNat ds ps kk).length:Int) d/\d.a<=1000000000000:=by rw[hqn];exact hds
 have hsq:∀q∈zcY n.toNat ds ps kk,SzQ q 60000 60000:=fun q hq=>(hwide q hq).2.mono (by decide) (by decide)
 have e25:=(e3.trans e4).trans e5
 have hsh5:IsSh K H5 sh ds:=⟨xs,SqL.of ((e2.trans e25).at hsh),ht.same (e2.trans e25)⟩
 have hpu5:=e25.at hpu
 clear e25
 walk_at "x"
 refine ze8 hsh5 hla hwl hdq hdl64 (show(zcY n.toNat ds ps kk).length<=9 by omega) hsq ?_
 intro st H6 fst e6 hst
 rw[zhN]at hst
 obtain⟨ρ,eρ⟩:∃ρ,ρ=stp ds (cst n.toNat ds (pQ ps) kk).1:=⟨_,rfl⟩
 rw[<- eρ]at hst
 have hsh6:=hsh5.same e6
 have hpu6:=e6.at hpu5
 walk_at "x"
 rename_i s1 H7 fs1 e7 hs1 u1 H8 fu1 e8 hu1 hd H9 fhd e9 hhd
 have e69:=(e7.trans e8).trans e9
 have hxs:H9 s1=some (.lst xs):=(e8.trans e9).at hs1
 have hS9:IsSh K H9 s1 ds:=⟨xs,SqL.of hxs,ht.same ((((e2.trans e3).trans e4).trans e5).trans (e6.trans e69))⟩
 have hu9:=e9.at hu1
 refine zdl ?_
 refine zm3 hS9 hu9 C (by omega) ?_
 intro to H10 g k2 fto e10 hto S R hnone hfin2 hnf2 hok2
 have ek:kk=k2:=znM hfin hnf hfin2 hnf2
 subst ek
 have hfull:(fun m=>(ρ m).isNone)=zgj ds (cst n.toNat ds (pQ ps) kk).1:=by rw[eρ];rfl
 rw[<- hfull]at S R
 have e610:=e69.trans e10
 have hsh10:=hsh6.same e610
 have hpu10:=e610.at hpu6
 have hst10:=e610.at hst
 have hS10:=hS9.same e10
 have hu10:=e10.at hu9
 have hhd10:=e10.at hhd
 have hxs10:H10 sh=some (.lst xs):=((((e2.trans e3).trans e4).trans e5).trans (e6.trans e610)).at hsh
 have ht10:=ht.same ((((e2.trans e3).trans e4).trans e5).trans (e6.trans e610))
 clear e69 e610
 have hxl:=ht.length
 have hdn:∀d∈ds,zA n d:=fun d h=>(hds d h).1
 walk_at "x"
 refine zdl ?_
 refine zmq hsh10 hto hst10 hdl64 hdo S ?_
 walk_at "x"
 refine zfg hsh10 hto (by rw[zaa];exact ye _) hdl64 (by omega) (by omega) hdn ?_
 intro na H11 fna e11 hna
 rw[ziC rfl]at hna
 have hxs11:=e11.at hxs10
 have ht11:=ht10.same e11
 walk_at "x"
 refine zR (zaq (K:=K) (a:=sh) (xs:=xs)) (fun H' e=>SqL.of (e.at hxs11)) rfl (fun i vs _=>vs=((ds.take i).map Internal.Due.a).map V.int) (fun H' _=>rfl) ?_ ?_
 ·rintro i x D vs o2 H5' H6' hi hD e5' hv hvl rfl e6' hx
  obtain⟨b,d,rfl,hdi,hb⟩:=(ht11.same (e5'.trans e6')).get hx
  have hb':H6' b=some (.tup [.int d.p,.int d.q,.int d.r,.int d.a]):=hb
  walk_at "x"
  rename_i H7' b7 h7
  refine⟨⟨_,rfl⟩,by walk_at "h",_,h7,by rw[ya];exact ym hvl,?_⟩
  show _=((ds.take (i+1)).map Internal.Due.a).map V.int
  rw[zam hdi,yl,yl];rfl
 rintro am H12 vs' fam e12 ham hll rfl
 rw[hxl,yF]at ham
 walk_at "x"
 try refine zdl ?_
 refine zfg (hsh10.same (e11.trans e12)) ham (by rw[yc];exact ye _) hdl64 (by omega) (by omega) hdn ?_
 intro nb H13 fnb e13 hnb
 rw[show(zr ds fun i=>(ds.map Internal.Due.a).getD i 0)=ds from zdL ds,zck (f:=za1 ds) (g:=za1 (zr ds g)) fun i hi=>(S.net i hi).symm]at hnb
 have hna13:=(e12.trans e13).at hna
 have e1013:=e11.trans (e12.trans e13)
 have hxs13:=e1013.at hxs10
 have ht13:=ht10.same e1013
 have hto13:=e1013.at hto
 have hst13:=e1013.at hst10
 clear e1013
 walk_at "x"
 rename_i wa H14 fwa e14 hwa
 refine zc0 (n:=c.toNat) (fun i σ' H'=>∃(es:List Internal.Due) (us:List V) (f11:Option V),σ'=[some (.ref a),some (.int n),some (.int c),some (.int m),some (.ref sh),some (.ref pu),some (.ref la),some (.ref st),some (.ref hd),some (.ref to),some (.ref wa),f11]/\H' wa=some (.lst us)/\IsTs ziT H' us es/\es.length<=i/\(∀d∈es,(zA n d/\0<d.a)/\∃e∈zr ds (zaN ds (fun m=>(ρ m).isNone) g),e.p=d.p/\e.q=d.q/\0<e.a)/\Same H13 H') ⟨[],[],_,rfl,hwa,trivial,ye _,(fun _ h=>nomatch h),e14⟩ ?_ ?_
 ·rintro i σ' H15 hi ⟨es,us,f11,rfl,hwa15,hus,hel,hes,e15⟩
  have ei:(0:Int)+(i:Int)=i:=by omega
  rw[ei]
  have hi':i<ds.length:=by omega
  obtain⟨d,hdi⟩:=zC hi'
  obtain⟨cc,hc1,hc2⟩:=(ht13.same e15).getI hdi
  have hc':H15 cc=some (.tup [.int d.p,.int d.q,.int d.r,.int d.a]):=hc2
  obtain⟨p0,p1,q0,q1,pq,r0,r1,a0,a1⟩:=hdn d (yb hdi)
  have hat3:atI xs (i:Int)=some (.ref cc):=zU hc1
  have hat4:atI ((vec ds.length g).map V.int) (i:Int)=some (.int (g i)):=zU (by rw[yf,zay hi'];rfl)
  have at1:atI (zP n.toNat ρ) d.p=some (zaX (ρ d.p.toNat)):=zau p0 (zas (by omega))
  have at2:atI (zP n.toNat ρ) d.q=some (zaX (ρ d.q.toNat)):=zau q0 (zas (by omega))
  have hxs15:=e15.at hxs13
  have hto15:=e15.at hto13
  have hst15:=e15.at hst13
  have hul:=hus.length
  have in':((i:Int)).toNat=i:=by omega
  have hbd:=S.bd i hi'
  rw[zcq hdi]at hbd
  walk_at "x"
  ·rename_i hg hp hq
   refine zdo (by first | decide | simp) fun tp H16 ftp e16 htp=>?_
   have hwa16:=e16.at hwa15
   walk_at "x"
   rename_i H17 b17 h17
   have hgi:0<g i:=by first | exact hg | (rw[in']at hg;exact hg)
   have htp':H16 tp=some (.tup (ziT ⟨d.p,d.q,d.r,g i⟩)):=htp
   have hp':(ρ d.p.toNat).isNone=true:=by rw[<- zbW];exact decide_eq_true hp
   have hq':(ρ d.q.toNat).isNone=true:=by rw[<- zbW];exact decide_eq_true hq
   refine⟨es++[⟨d.p,d.q,d.r,g i⟩],_,_,rfl,h17,IsTs.app (f:=ziT) (b17.tup htp') ((hus.same e16).but b17),by rw[ya];exact ym hel,fun y hy=>?_,b17.same (e15.trans e16) fwa⟩
   rcases yT.mp hy with h | h
   ·exact hes y h
   ·rw[yv.mp h]
    refine⟨⟨⟨p0,p1,q0,q1,pq,r0,r1,by show 0<=g i;omega,by show g i<=_;omega⟩,hgi⟩,⟨d.p,d.q,d.r,zaN ds (fun m=>(ρ m).isNone) g i⟩,zmN hdi,rfl,rfl,?_⟩
    show 0<zaN ds (fun m=>(ρ m).isNone) g i
    unfold zaN
    rw[if_pos (by rw[zd8 hdi,hp',hq'];rfl)]
    exact hgi
  all_goals exact⟨es,us,_,rfl,hwa15,hus,by omega,hes,e15⟩
 rintro σ' H15 ⟨es,us,f11,rfl,hwa15,hus,hel,hes,e15⟩
 walk_at "x"
 refine zhP hwa15 hus (by omega) (by omega) (fun d hm=>(hes d hm).1) (znm (by omega) (fun d hm=>(hes d hm).2) R) ?_
 intro H16 e16
 exact k _
end
theorem fin{P:Program}{w:World}{K:Fg}{mg:Str->Option Value}{fa:Addr}(T:Txt K mg)(hfa:mg "law" = some (.ref fa)) :
  ∃fd:FuncData,(∀(s:Shared) (v:Value),BindsTo s fd ⟨[v],[]⟩ [("_law_script",v)])/\∀base:Heap,K.In base->base.Ns mainGlobals mg->FnOk P w K mg base (CXF P w) 7 fa fd ["_law_script"] (zh7 K):=by
 have e:=hfa.symm.trans T.d_law.m
 cases e
 exact⟨_,T.bl_law,fun base _ _=>zpK T⟩
theorem walk{l:PySem.W.OpenLaw}{q:Program}{loose:List Str}{XP:(Str->Option Value)->Heap->Prop}{YP:World->Heap->Prop}{d:DefRec}{K:Params->Fg}(hn:l.most=some 63)(hdf:d.params.defaults=[])
  (hY:∀(w:World) (h:Heap),YP w h->(K w.params).In h)
  (F:∀(w:World) (mg:Str->Option Value) (fa:Addr) (h:Heap),(K w.params).In h->h.Ns mainGlobals mg->mg d.name=some (.ref fa) ->
   ∃fd:FuncData,(∀(s:Shared) (u:Value),BindsTo s fd ⟨[u],[]⟩ [("_law_script",u)])/\∀base:Heap,(K w.params).In base->base.Ns mainGlobals mg->FnOk l.prog w (K w.params) mg base (CXF l.prog w) 7 fa fd ["_law_script"] (zh7 (K w.params))) :
  PySem.W.WalkO q loose XP YP l.row.toRowW d [] (fun f vs=>PySem.call f vs):=
 Internal.walk_ofZ (n:=63) (k:=7) (x := "_law_script") (CX:=fun w=>CXF l.prog w) (sp:=fun w=>zh7 (K w.params)) hn (by decide) hdf ⟨rfl,by decide,by decide⟩ hY F (fun _ _ a ns hl hz _ hS=>⟨a,ns,rfl,hS,hl,hz,fun _=>rfl⟩) fun _ H s e s' z=>zt _ H s e s' z
end Internal.K
theorem PySem.W.Fast.tw12245625589309234950:True:=trivial
theorem PySem.W.Fast.tw6690234820567826924:True:=trivial
theorem PySem.W.Fast.tw7757065296808369400:True:=trivial
theorem PySem.W.Fast.tw16859920861003974361:True:=trivial
theorem PySem.W.Fast.tw18397229981847214294:True:=trivial
theorem PySem.W.Fast.tw3293845836708213773:True:=trivial
theorem PySem.W.Fast.tw6980750807421378855:True:=trivial
theorem PySem.W.Fast.tw2060997063574910860:True:=trivial
theorem PySem.W.Fast.tw8976231094414626676:True:=trivial
theorem PySem.W.Fast.tw5035925834345135963:True:=trivial
theorem PySem.W.Fast.tw18405455082969207309:True:=trivial
theorem PySem.W.Fast.tw5883805792859552948:True:=trivial
theorem PySem.W.Fast.tw17518137028539255595:True:=trivial
theorem PySem.W.Fast.tw5499117992305025300:True:=trivial
theorem PySem.W.Fast.tw1293175033404475153:True:=trivial
theorem PySem.W.Fast.tw10917384593616305463:True:=trivial
theorem PySem.W.Fast.tw17367264247211985148:True:=trivial
theorem PySem.W.Fast.tw1304596466169443970:True:=trivial
theorem PySem.W.Fast.tw10081464671149727021:True:=trivial
theorem PySem.W.Fast.tw10473531447485804264:True:=trivial
theorem PySem.W.Fast.tw6219399428951781163:True:=trivial
theorem PySem.W.Fast.tw17292219029478164757:True:=trivial
theorem PySem.W.Fast.tw27389307678959472:True:=trivial
theorem PySem.W.Fast.tw94544721490948982:True:=trivial
theorem PySem.W.Fast.tw10961225277618712400:True:=trivial
theorem PySem.W.Fast.tw2747251719295470706:True:=trivial
theorem PySem.W.Fast.tw14831014141868918090:True:=trivial
open PySem PySem.W PyProof.Rows
set_option maxRecDepth 100000 in
set_option maxHeartbeats 0 in
theorem PySem.Challenge.cw_quits_k44_safe_cut_holds : PySem.Challenge.rw_quits_k44_safe_cut.Holds := by
 w_on;o_law;k_head;(case hw=>w_witness2)
 k_fill
 refine Internal.K.walk (l:=PySem.Challenge.rw_quits_k44_safe_cut) rfl rfl (fun w h Y=>PySem.W.kIn_of Y) ?F
 case F=>
  intro w mg fa h KX G hmg
  refine Internal.K.fin ?T hmg
  case T=>
   refine' Internal.K.txt_mk KX G ?m_NoAnswer ?m_NoPart ?hd_NoAnswer ?ty_NoAnswer ?hd_NoPart ?ty_NoPart ?sn_ ?tk_ ?x_NoAnswer ?ga_NoAnswer ?gn_NoAnswer ?be_NoAnswer ?fa_NoAnswer ?mo_NoAnswer ?s_NoAnswer_NoAnswer ?s_NoAnswer_NoPart ?n_NoAnswer_NoPart ?x_NoPart ?ga_NoPart ?gn_NoPart ?be_NoPart ?fa_NoPart ?mo_NoPart ?s_NoPart_NoAnswer ?n_NoPart_NoAnswer ?s_NoPart_NoPart ?a_divisor ?l_divisor ?c_divisor ?k_divisor ?a_part ?l_part ?c_part ?k_part ?a_plus ?l_plus ?c_plus ?k_plus ?a_minus ?l_minus ?c_minus ?k_minus ?a_times ?l_times ?c_times ?k_times ?a_over ?l_over ?c_over ?k_over ?a_under ?l_under ?c_under ?k_under ?a_least ?l_least ?c_least ?k_least ?a_ranked ?l_ranked ?c_ranked ?k_ranked ?a_amounts_of ?l_amounts_of ?c_amounts_of ?k_amounts_of ?a_with_amounts ?l_with_amounts ?c_with_amounts ?k_with_amounts ?a_stop_of ?l_stop_of ?c_stop_of ?k_stop_of ?a_solved ?l_solved ?c_solved ?k_solved ?a_whole_row ?l_whole_row ?c_whole_row ?k_whole_row ?a_with_first ?l_with_first ?c_with_first ?k_with_first ?a_swept ?l_swept ?c_swept ?k_swept ?a_swept_row ?l_swept_row ?c_swept_row ?k_swept_row ?a_cleared ?l_cleared ?c_cleared ?k_cleared ?a_flows_of ?l_flows_of ?c_flows_of ?k_flows_of ?a_closed_circle ?l_closed_circle ?c_closed_circle ?k_closed_circle ?a_reach_of ?l_reach_of ?c_reach_of ?k_reach_of ?a_balances ?l_balances ?c_balances ?k_balances ?a_circling_rates ?l_circling_rates ?c_circling_rates ?k_circling_rates ?a_opening_rates ?l_opening_rates ?c_opening_rates ?k_opening_rates ?a_rates_of ?l_rates_of ?c_rates_of ?k_rates_of ?a_least_room ?l_least_room ?c_least_room ?k_least_room ?a_grown ?l_grown ?c_grown ?k_grown ?a_a_ring ?l_a_ring ?c_a_ring ?k_a_ring ?a_ways_onward ?l_ways_onward ?c_ways_onward ?k_ways_onward ?a_dues_among ?l_dues_among ?c_dues_among ?k_dues_among ?a_cut ?l_cut ?c_cut ?k_cut ?a_stops ?l_stops ?c_stops ?k_stops ?a_safe_cut ?l_safe_cut ?c_safe_cut ?k_safe_cut ?a__law_cell ?l__law_cell ?c__law_cell ?k__law_cell ?a__law_draw ?l__law_draw ?c__law_draw ?k__law_draw ?a__law_great ?l__law_great ?c__law_great ?k__law_great ?a__law_many ?l__law_many ?c__law_many ?k__law_many ?a__law_count ?l__law_count ?c__law_count ?k__law_count ?a__law_most ?l__law_most ?c__law_most ?k__law_most ?a__law_amount ?l__law_amount ?c__law_amount ?k__law_amount ?a__law_due ?l__law_due ?c__law_due ?k__law_due ?a__law_sheet ?l__law_sheet ?c__law_sheet ?k__law_sheet ?a__law_purse ?l__law_purse ?c__law_purse ?k__law_purse ?a__law_purses ?l__law_purses ?c__law_purses ?k__law_purses ?a__law_whole ?l__law_whole ?c__law_whole ?k__law_whole ?a__law_divisor ?l__law_divisor ?c__law_divisor ?k__law_divisor ?a__law_is_part ?l__law_is_part ?c__law_is_part ?k__law_is_part ?a__law_parts ?l__law_parts ?c__law_parts ?k__law_parts ?a__law_sums ?l__law_sums ?c__law_sums ?k__law_sums ?a__law_stand ?l__law_stand ?c__law_stand ?k__law_stand ?a__law_nets ?l__law_nets ?c__law_nets ?k__law_nets ?a__law_pays_one ?l__law_pays_one ?c__law_pays_one ?k__law_pays_one ?a__law_ringless ?l__law_ringless ?c__law_ringless ?k__law_ringless ?a__law_left ?l__law_left ?c__law_left ?k__law_left ?a_law ?l_law ?c_law ?k_law ?w_abs ?w_all ?w_bool ?w_enumerate ?w_int ?w_isinstance ?w_len ?w_list ?w_min ?w_range ?w_sum ?w_tuple ?w_zip
   (case m_NoAnswer|m_NoPart|hd_NoAnswer|ty_NoAnswer|hd_NoPart|ty_NoPart|sn_|tk_=>k_is)
   (case x_NoAnswer=>k_exc)
   (case ga_NoAnswer|gn_NoAnswer|be_NoAnswer|fa_NoAnswer|mo_NoAnswer|s_NoAnswer_NoAnswer|s_NoAnswer_NoPart=>k_is)
   (case n_NoAnswer_NoPart=>decide)
   (case x_NoPart=>k_exc)
   (case ga_NoPart|gn_NoPart|be_NoPart|fa_NoPart|mo_NoPart|s_NoPart_NoAnswer=>k_is)
   (case n_NoPart_NoAnswer=>decide)
   (case s_NoPart_NoPart|a_divisor|l_divisor|c_divisor|k_divisor|a_part|l_part|c_part|k_part|a_plus|l_plus|c_plus|k_plus|a_minus|l_minus|c_minus|k_minus|a_times|l_times|c_times|k_times|a_over|l_over|c_over|k_over|a_under|l_under|c_under|k_under|a_least|l_least|c_least|k_least|a_ranked|l_ranked|c_ranked|k_ranked|a_amounts_of|l_amounts_of|c_amounts_of|k_amounts_of|a_with_amounts|l_with_amounts|c_with_amounts|k_with_amounts|a_stop_of|l_stop_of|c_stop_of|k_stop_of|a_solved|l_solved|c_solved|k_solved|a_whole_row|l_whole_row|c_whole_row|k_whole_row|a_with_first|l_with_first|c_with_first|k_with_first|a_swept|l_swept|c_swept|k_swept|a_swept_row|l_swept_row|c_swept_row|k_swept_row|a_cleared|l_cleared|c_cleared|k_cleared|a_flows_of|l_flows_of|c_flows_of|k_flows_of|a_closed_circle|l_closed_circle|c_closed_circle|k_closed_circle|a_reach_of|l_reach_of|c_reach_of|k_reach_of|a_balances|l_balances|c_balances|k_balances|a_circling_rates|l_circling_rates|c_circling_rates|k_circling_rates|a_opening_rates|l_opening_rates|c_opening_rates|k_opening_rates|a_rates_of|l_rates_of|c_rates_of|k_rates_of|a_least_room|l_least_room|c_least_room|k_least_room|a_grown|l_grown|c_grown|k_grown|a_a_ring|l_a_ring|c_a_ring|k_a_ring|a_ways_onward|l_ways_onward|c_ways_onward|k_ways_onward|a_dues_among|l_dues_among|c_dues_among|k_dues_among|a_cut|l_cut|c_cut|k_cut|a_stops|l_stops|c_stops|k_stops|a_safe_cut|l_safe_cut|c_safe_cut|k_safe_cut|a__law_cell|l__law_cell|c__law_cell|k__law_cell|a__law_draw|l__law_draw|c__law_draw|k__law_draw|a__law_great|l__law_great|c__law_great|k__law_great|a__law_many|l__law_many|c__law_many|k__law_many|a__law_count|l__law_count|c__law_count|k__law_count|a__law_most|l__law_most|c__law_most|k__law_most|a__law_amount|l__law_amount|c__law_amount|k__law_amount|a__law_due|l__law_due|c__law_due|k__law_due|a__law_sheet|l__law_sheet|c__law_sheet|k__law_sheet|a__law_purse|l__law_purse|c__law_purse|k__law_purse|a__law_purses|l__law_purses|c__law_purses|k__law_purses|a__law_whole|l__law_whole|c__law_whole|k__law_whole|a__law_divisor|l__law_divisor|c__law_divisor|k__law_divisor|a__law_is_part|l__law_is_part|c__law_is_part|k__law_is_part|a__law_parts|l__law_parts|c__law_parts|k__law_parts|a__law_sums|l__law_sums|c__law_sums|k__law_sums|a__law_stand|l__law_stand|c__law_stand|k__law_stand|a__law_nets|l__law_nets|c__law_nets|k__law_nets|a__law_pays_one|l__law_pays_one|c__law_pays_one|k__law_pays_one|a__law_ringless|l__law_ringless|c__law_ringless|k__law_ringless|a__law_left|l__law_left|c__law_left|k__law_left|a_law|l_law|c_law|k_law|w_abs|w_all|w_bool|w_enumerate|w_int|w_isinstance|w_len|w_list|w_min|w_range|w_sum|w_tuple|w_zip=>k_is)
